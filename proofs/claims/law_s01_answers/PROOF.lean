import PyProof.Rows.All
import Wide.All
import OpenK.AllK
import Wide.FinOn
import PyProof.EqAt
import PyProof.EqKinds
import PyProof.TupleCall
import KE.BitLaws
import Open.SpecLaws
import KE.OsHead
import KE.OsGo
import Kv363Spec
import PySem.Challenge.RW_linelaid_s01_answers
set_option Elab.async false
set_option linter.all false
set_option maxRecDepth 100000
namespace L2
open PySem PySem.Spec PyProof.Rows
/-- a key: an int or a str -/
abbrev Key := Sum Int Str
def keyIs : Key → Value → Bool
  | .inl k, v => Value.isInt k v
  | .inr x, v => Value.isStrOf x v
def keyH (w : World) : Key → Int
  | .inl k => hashInt k
  | .inr x => hashStr w x
theorem keyIs_shape : ∀ {k : Key} {v : Value}, keyIs k v = true → (∃ i t, k = Sum.inl i ∧ v = Value.int i t) ∨ (∃ x t, k = Sum.inr x ∧ v = Value.str x t)
  | .inl i, v, h => by
    obtain ⟨t, e⟩ := Value.isInt_shape (k := i) (v := v) h
    exact .inl ⟨i, t, rfl, e⟩
  | .inr x, v, h => by
    obtain ⟨t, e⟩ := Value.isStrOf_shape (x := x) (v := v) h
    exact .inr ⟨x, t, rfl, e⟩
theorem key_ll (a b : Int) : decide ((Sum.inl a : Key) = Sum.inl b) = (a == b) := by
  by_cases e : a = b
  · subst e; simp
  · have h : ¬ (Sum.inl a : Key) = Sum.inl b := fun q => e (Sum.inl.inj q)
    rw [decide_eq_false h]
    exact (beq_eq_false_iff_ne.mpr e).symm
theorem key_rr (a b : Str) : decide ((Sum.inr a : Key) = Sum.inr b) = decide (a = b) := by
  by_cases e : a = b
  · subst e; simp
  · have h : ¬ (Sum.inr a : Key) = Sum.inr b := fun q => e (Sum.inr.inj q)
    rw [decide_eq_false h, decide_eq_false e]
theorem key_lr (a : Int) (b : Str) : decide ((Sum.inl a : Key) = Sum.inr b) = false := decide_eq_false (fun q => nomatch q)
theorem key_rl (a : Str) (b : Int) : decide ((Sum.inr a : Key) = Sum.inl b) = false := decide_eq_false (fun q => nomatch q)

def mixKind (prog : Program) (w : World) : PySem.KeyKind prog w Key where
  is := keyIs
  hash := keyH w
  inj := fun v a b ha hb => by
    rcases keyIs_shape ha with ⟨i, t, rfl, rfl⟩ | ⟨x, t, rfl, rfl⟩
    · rcases keyIs_shape hb with ⟨j, u, rfl, e⟩ | ⟨y, u, rfl, e⟩
      · injection e with e1 _; rw [e1]
      · exact nomatch e
    · rcases keyIs_shape hb with ⟨j, u, rfl, e⟩ | ⟨y, u, rfl, e⟩
      · exact nomatch e
      · injection e with e1 _; rw [e1]
  byValue := fun k v h => by
    rcases keyIs_shape h with ⟨i, t, rfl, rfl⟩ | ⟨x, t, rfl, rfl⟩ <;> rfl
  pyHash := fun hv h => by
    rcases keyIs_shape hv with ⟨i, t, rfl, rfl⟩ | ⟨x, t, rfl, rfl⟩
    · exact wpAny_pyHash_int h
    · exact wpAny_pyHash_str h
  eqBool := fun hu hv h => by
    rcases keyIs_shape hu with ⟨i, t, rfl, rfl⟩ | ⟨x, t, rfl, rfl⟩
    · rcases keyIs_shape hv with ⟨j, u, rfl, rfl⟩ | ⟨y, u, rfl, rfl⟩
      · rw [key_ll] at h; exact wpAny_eqBool_int h
      · rw [key_lr] at h; exact SeqAt.EqAt.int_str i t y u _ _ _ _ h
    · rcases keyIs_shape hv with ⟨j, u, rfl, rfl⟩ | ⟨y, u, rfl, rfl⟩
      · rw [key_rl] at h; exact SeqAt.EqAt.str_int x t j u _ _ _ _ h
      · rw [key_rr] at h; exact wpAny_eqBool_str h
  «strs» := fun k x t v h => by
    rcases keyIs_shape h with ⟨i, u, rfl, e⟩ | ⟨y, u, rfl, e⟩
    · exact nomatch e
    · injection e with e1 _
      subst e1
      cases v <;> rfl

end L2
namespace L2
open PySem PySem.Spec PyProof.Rows
/-- a value, without the heap -/
inductive V where
  | non | bl (b : Bool) | int (i : Int) | str (x : Str) | byt (b : Array UInt8) | flt (b : UInt64) | ref (a : Addr) | ty (n : String)
  deriving DecidableEq

def RelV : V → Value → Prop
  | .non, u => u = Value.none
  | .bl b, u => u = Value.bool b
  | .int i, u => ∃ t, u = Value.int i t
  | .str x, u => ∃ t, u = Value.str x t
  | .byt b, u => ∃ t, u = Value.bytes b t
  | .flt b, u => ∃ t, u = Value.float b t
  | .ref a, u => u = Value.ref a
  | .ty n, u => u = Value.type n

abbrev Vals : List V → List Value → Prop := Paired RelV
theorem Vals.length {xs : List V} {us : List Value} (r : Vals xs us) : xs.length = us.length := Paired.length r
theorem Vals.get : ∀ {xs : List V} {us : List Value} {i : Nat} {x : V}, Vals xs us → xs[i]? = some x → ∃ u, us[i]? = some u ∧ RelV x u
  | _, _, _, _, .nil, e => by simp at e
  | _, _, 0, _, .cons r _, e => by simp at e; subst e; exact ⟨_, rfl, r⟩
  | _, _, i + 1, x, .cons _ t, e => by
    obtain ⟨u, h1, h2⟩ := Vals.get (i := i) (x := x) t (by simpa using e)
    exact ⟨u, by simpa using h1, h2⟩
theorem Vals.set {x : V} {u : Value} (r : RelV x u) : ∀ {xs : List V} {us : List Value} (i : Nat), Vals xs us → Vals (xs.set i x) (us.set i u)
  | _, _, _, .nil => .nil
  | _, _, 0, .cons _ t => .cons r t
  | _, _, i + 1, .cons q t => .cons q (Vals.set r i t)
theorem Vals.append : ∀ {xs ys : List V} {us ws : List Value}, Vals xs us → Vals ys ws → Vals (xs ++ ys) (us ++ ws)
  | _, _, _, _, .nil, s => s
  | _, _, _, _, .cons r t, s => .cons r (Vals.append t s)
theorem Vals.take : ∀ {xs : List V} {us : List Value} (n : Nat), Vals xs us → Vals (xs.take n) (us.take n)
  | _, _, 0, _ => .nil
  | _, _, _ + 1, .nil => .nil
  | _, _, n + 1, .cons r t => .cons r (Vals.take n t)
theorem Vals.drop : ∀ {xs : List V} {us : List Value} (n : Nat), Vals xs us → Vals (xs.drop n) (us.drop n)
  | _, _, 0, r => r
  | _, _, _ + 1, .nil => .nil
  | _, _, n + 1, .cons _ t => Vals.drop n t
theorem Vals.none_of : ∀ {xs : List V} {us : List Value} {i : Nat}, Vals xs us → xs[i]? = none → us[i]? = none := fun {xs us i} r e => by
  have h1 := r.length
  have h2 : xs.length ≤ i := List.getElem?_eq_none_iff.mp e
  exact List.getElem?_eq_none_iff.mpr (by omega)

def RelO : Option V → Option Value → Prop
  | some v, some u => RelV v u
  | none, none => True
  | _, _ => False
def KV {κ : Type} : List (κ × V) → List (κ × Value) → Prop := Paired fun (p : κ × V) (q : κ × Value) => p.1 = q.1 ∧ RelV p.2 q.2

/-- a key of a dict (00_mix): an int or a text -/
def kV : Key → V
  | .inl i => .int i
  | .inr x => .str x

/-- what stands at a tracked address -/
inductive HO where
  /-- a list -/
  | lst (xs : List V)
  /-- a tuple (never changes) -/
  | tup (xs : List V)
  /-- a dict whose keys are ints and texts; one whose keys are tuples of ints and texts (the empty one is both) -/
  | dK (kvs : List (Key × V)) | dT (kvs : List (List Key × V))
  /-- a set of ints: its members, its size -/
  | set (S : Int → Bool) (n : Nat)
  /-- an instance of the class at C, its dict at dx, its attributes -/
  | ins (C dx : Addr) (fs : List (Str × V))
  /-- the dict of the instance at x -/
  | own (x : Addr)
  /-- the dict of an exception -/
  | xd (fs : List (Str × V))
  /-- a bound method, f of x -/
  | met (f x : Addr)
  /-- a range object lo, lo + 1, .. below hi -/
  | rng (lo hi : Int)
  /-- a thing that is known to the object (the script; a dict while a loop walks it): read, never written while it is so -/
  | frz (o : Obj) (u : HO)
  /-- a code object's table -/
  | tbl (ps : Array Value)
  /-- any other thing, by what is true of its one object (a def of one's own: SetO a S n := HO.ext fun h => ..) -/
  | ext (φ : Heap → Prop)

abbrev Hp := Addr → Option HO
def upd (H : Hp) (a : Addr) (o : HO) : Hp := fun b => if b = a then some o else H b
theorem upd_same {H : Hp} {a : Addr} {o : HO} : upd H a o a = some o := by unfold upd; rw [if_pos rfl]
theorem upd_ne {H : Hp} {a b : Addr} {o : HO} (h : b ≠ a) : upd H a o b = H b := by unfold upd; rw [if_neg h]
/-- two objects of different content stand apart -/
theorem ne_of {H : Hp} {a b : Addr} {o u : HO} (h : H a = some o) (h' : H b = some u) (d : o ≠ u) : a ≠ b := by
  intro e; subst e; rw [h] at h'; exact d (Option.some.inj h')
theorem ne_of_none {H : Hp} {a b : Addr} {o : HO} (h : H a = some o) (h' : H b = none) : a ≠ b := by
  intro e; subst e; rw [h] at h'; cases h'

section
variable (P : Program) (w : World)
def ObjOk (H : Hp) (h : Heap) (a : Addr) : HO → Prop
  | .lst xs => xs.length ≤ sizeLine ∧ ∃ (its : List Value) (n : Nat), Vals xs its ∧ h.get? a = some { cls := .type "list", data := .seq its.toArray n }
  | .tup xs => xs.length ≤ sizeLine ∧ ∃ its : List Value, Vals xs its ∧ IsTup h a its.toArray
  | .dK kvs => kvs.length ≤ sizeLine ∧ (a == sysModules) = false ∧ ∃ vs, KV kvs vs ∧ h.DictOf (mixKind P w) a vs
  | .dT kvs => kvs.length ≤ sizeLine ∧ (a == sysModules) = false ∧ ∃ xs : List (List Key × Addr × Value),
      Paired (fun (p : List Key × V) (q : List Key × Addr × Value) => p.1 = q.1 ∧ H q.2.1 = some (.tup (p.1.map kV)) ∧ RelV p.2 q.2.2) kvs xs ∧
      ∃ o es ep, h.get? a = some o ∧ o.ExactDict ∧ o.data = .dict es ep ∧ es.toList = xs.map (entryOfKey (tupleKind (mixKind P w))) ∧ (xs.map (·.1)).Nodup
  | .set S n => h.SetOf (intKind P w) a S n
  | .ins C dx fs => H dx = some (.own a) ∧ fs.length ≤ 1000 ∧ dx ≠ a ∧ h.get? a = some (PySem.W.instObj C dx) ∧
      ∃ mA, h.Ns1 dx mA ∧ (∀ f, RelO (fs.lookup f) (mA f)) ∧ PySem.Within mA (fs.map (·.1))
  | .own _ => ∃ o, h.get? a = some o
  | .xd fs => ∃ mA, h.Ns1 a mA ∧ ∀ f, RelO (fs.lookup f) (mA f)
  | .rng lo hi => ∃ t u v, h.get? a = some { cls := .type "range", data := .fields #[.int lo t, .int hi u, .int 1 v] }
  | .frz o u => h.get? a = some o ∧ ObjOk H h a u
  | .tbl ps => h.get? a = some { cls := .none, data := .fields ps }
  | .met f x => h.get? a = some (PySem.W.methodObj (.ref f) (.ref x))
  | .ext φ => φ h ∧ (∃ o, h.get? a = some o) ∧ ∀ h1 h2 : Heap, φ h1 → (∀ o, h1.get? a = some o → h2.get? a = some o) → φ h2
/-- the abstract heap is held -/
def HOk (H : Hp) (h : Heap) : Prop := ∀ a o, H a = some o → ObjOk P w H h a o
end
section
variable {P : Program} {w : World} {H H' : Hp} {h h' : Heap} {a : Addr} {o : HO}
theorem ObjOk.lt (x : ObjOk P w H h a o) : a < h.objs.size := by
  cases o with
  | lst xs => obtain ⟨_, _, _, _, e⟩ := x; exact Heap.lt_size e
  | tup xs => obtain ⟨_, _, _, p⟩ := x; exact p.lt
  | dK kvs => obtain ⟨_, _, _, _, o, _, _, e, _⟩ := x; exact Heap.lt_size e
  | dT kvs => obtain ⟨_, _, _, _, o, _, _, e, _⟩ := x; exact Heap.lt_size e
  | set S n => obtain ⟨o, _, _, _, e, _⟩ := x; exact Heap.lt_size e
  | ins C dx fs => obtain ⟨_, _, _, e, _⟩ := x; exact Heap.lt_size e
  | own y => obtain ⟨_, e⟩ := x; exact Heap.lt_size e
  | xd fs => obtain ⟨_, ⟨_, _, _, e, _⟩, _⟩ := x; exact Heap.lt_size e
  | rng lo hi => obtain ⟨_, _, _, e⟩ := x; exact Heap.lt_size e
  | frz ob u => obtain ⟨e, _⟩ := x; exact Heap.lt_size e
  | tbl ps => exact Heap.lt_size (show h.get? a = some _ from x)
  | met f y => exact Heap.lt_size (show h.get? a = some _ from x)
  | ext φ => obtain ⟨_, ⟨_, e⟩, _⟩ := x; exact Heap.lt_size e
theorem Paired.mapP {α β : Type} {F G : α → β → Prop} : ∀ {l₁ : List α} {l₂ : List β}, Paired F l₁ l₂ → (∀ a b, F a b → G a b) → Paired G l₁ l₂
  | _, _, .nil, _ => .nil
  | _, _, .cons r t, f => .cons (f _ _ r) (Paired.mapP t f)
/-- what an object's description leans on: its own object, its own dict, the tuples -/
theorem ObjOk.stay (x : ObjOk P w H h a o) (k : ∀ b u, (b = a ∨ H b = some (.own a)) → h.get? b = some u → h'.get? b = some u)
    (ho : ∀ b, H b = some (.own a) → H' b = some (.own a)) (ht : ∀ b xs, H b = some (.tup xs) → H' b = some (.tup xs)) : ObjOk P w H' h' a o := by
  induction o with
  | lst xs => obtain ⟨z, its, n, r, e⟩ := x; exact ⟨z, its, n, r, k _ _ (.inl rfl) e⟩
  | tup xs => obtain ⟨z, its, r, ob, e, c⟩ := x; exact ⟨z, its, r, ob, k _ _ (.inl rfl) e, c⟩
  | dK kvs => obtain ⟨z, y, vs, r, ob, es, ep, e, c⟩ := x; exact ⟨z, y, vs, r, ob, es, ep, k _ _ (.inl rfl) e, c⟩
  | dT kvs =>
    obtain ⟨z, y, xs, r, ob, es, ep, e, c⟩ := x
    exact ⟨z, y, xs, Paired.mapP r fun p q z => ⟨z.1, ht _ _ z.2.1, z.2.2⟩, ob, es, ep, k _ _ (.inl rfl) e, c⟩
  | set S n => obtain ⟨ob, es, ep, t, e, c⟩ := x; exact ⟨ob, es, ep, t, k _ _ (.inl rfl) e, c⟩
  | ins C dx fs =>
    obtain ⟨d, z, ne, e, mA, ⟨od, es, ep, e2, c⟩, r⟩ := x
    exact ⟨ho _ d, z, ne, k _ _ (.inl rfl) e, mA, ⟨od, es, ep, k _ _ (.inr d) e2, c⟩, r⟩
  | own y => obtain ⟨ob, e⟩ := x; exact ⟨ob, k _ _ (.inl rfl) e⟩
  | xd fs => obtain ⟨mA, ⟨od, es, ep, e, c⟩, r⟩ := x; exact ⟨mA, ⟨od, es, ep, k _ _ (.inl rfl) e, c⟩, r⟩
  | rng lo hi => obtain ⟨t, u, v, e⟩ := x; exact ⟨t, u, v, k _ _ (.inl rfl) e⟩
  | frz ob u ih => obtain ⟨e, q⟩ := x; exact ⟨k _ _ (.inl rfl) e, ih q⟩
  | tbl ps =>
    have e : h.get? a = some { cls := .none, data := .fields ps } := x
    show h'.get? a = some { cls := .none, data := .fields ps }
    exact k a _ (.inl rfl) e
  | met f y =>
    have e : h.get? a = some (PySem.W.methodObj (.ref f) (.ref y)) := x
    show h'.get? a = some (PySem.W.methodObj (.ref f) (.ref y))
    exact k a _ (.inl rfl) e
  | ext φ => obtain ⟨p, ⟨o, e⟩, st⟩ := x; exact ⟨st _ _ p fun o q => k _ _ (.inl rfl) q, ⟨o, k _ _ (.inl rfl) e⟩, st⟩
theorem HOk.lt (x : HOk P w H h) (e : H a = some o) : a < h.objs.size := (x a o e).lt
theorem HOk.fresh (x : HOk P w H h) (e : h.objs.size ≤ a) : H a = none := by
  cases q : H a with
  | none => rfl
  | some u => exact absurd (Nat.lt_of_lt_of_le (x.lt q) e) (Nat.lt_irrefl _)
/-- every object of the heap is kept -/
theorem HOk.kept (x : HOk P w H h) (k : ∀ b u, h.get? b = some u → h'.get? b = some u) : HOk P w H h' := fun a o e =>
  (x a o e).stay (fun b u _ q => k b u q) (fun _ q => q) fun _ _ q => q
/-- a new object is laid and tracked -/
theorem HOk.laid (x : HOk P w H h) (k : ∀ b u, h.get? b = some u → h'.get? b = some u) (hp : h.objs.size ≤ a) (new : ObjOk P w (upd H a o) h' a o) : HOk P w (upd H a o) h' := fun b u e => by
  have hn := x.fresh hp
  by_cases hb : b = a
  · subst hb; rw [upd_same] at e; cases e; exact new
  · rw [upd_ne hb] at e
    exact (x b u e).stay (fun c v _ q => k c v q) (fun c q => by rw [upd_ne (ne_of_none q hn)]; exact q) fun c xs q => by rw [upd_ne (ne_of_none q hn)]; exact q
end
/-- what may be read as u: it is u, or a known u -/
def Rd (H : Hp) (a : Addr) (u : HO) : Prop := H a = some u ∨ ∃ o, H a = some (.frz o u)
theorem Rd.of {H : Hp} {a : Addr} {u : HO} (h : H a = some u) : Rd H a u := .inl h
theorem Rd.ok {P : Program} {w : World} {H : Hp} {h : Heap} {a : Addr} {u : HO} (r : Rd H a u) (x : HOk P w H h) : ObjOk P w H h a u := by
  rcases r with r | ⟨o, r⟩
  · exact x a u r
  · obtain ⟨_, q⟩ := x a _ r
    exact q
/-- what may be written -/
def Mut : Option HO → Prop
  | some (.lst _) => True
  | some (.dK _) => True
  | some (.dT _) => True
  | some (.set _ _) => True
  | some (.ins _ _ _) => True
  | some (.ext _) => True
  | _ => False
section
variable {P : Program} {w : World} {H : Hp} {h h' : Heap} {x e : Addr} {o' : HO}
/-- the object at e is changed: x itself, or the dict of the instance x -/
theorem HOk.write (ok : HOk P w H h) (mu : Mut (H x)) (he : e = x ∨ H e = some (.own x)) (k : ∀ b u, b ≠ e → h.get? b = some u → h'.get? b = some u) (heo : ∃ u, h'.get? e = some u)
    (new : ObjOk P w (upd H x o') h' x o') : HOk P w (upd H x o') h' := fun b u q => by
  have nown : ∀ c y, H c = some (.own y) → c ≠ x := fun c y r z => by subst z; rw [r] at mu; exact mu
  have ntup : ∀ c xs, H c = some (.tup xs) → c ≠ x := fun c xs r z => by subst z; rw [r] at mu; exact mu
  by_cases hb : b = x
  · subst hb; rw [upd_same] at q; cases q; exact new
  · rw [upd_ne hb] at q
    by_cases hbe : b = e
    · have q' : H b = some (.own x) := by
        rcases he with z | z
        · exact absurd (hbe.trans z) hb
        · rw [hbe]; exact z
      rw [q] at q'; cases q'
      obtain ⟨v, hv⟩ := heo
      exact ⟨v, by rw [hbe]; exact hv⟩
    · refine (ok b u q).stay (fun c v hc r => k c v ?_ r) (fun c r => by rw [upd_ne (nown c b r)]; exact r) fun c xs r => by rw [upd_ne (ntup c xs r)]; exact r
      rcases hc with rfl | hc
      · exact hbe
      · rintro rfl
        rcases he with z | z
        · exact nown c b hc z
        · rw [hc] at z; cases z; exact hb rfl
end
structure Un (fs ex : List Addr) (H H' : Hp) (h h' : Heap) : Prop where
  keep : ∀ b o, h.get? b = some o → H b = none → b ∉ fs → b ∉ ex → h'.get? b = some o
  slot : ∀ b o, h.get? b = some o → H b = none → b ∈ fs → b ∉ ex → ∃ sl, h'.get? b = some { o with slots := sl }
  free : ∀ b o, h.get? b = some o → H b = none → b ∉ ex → H' b = none
  there : ∀ b o, h.get? b = some o → b ∉ ex → ∃ o', h'.get? b = some o'
  tups : ∀ b xs, H b = some (.tup xs) → H' b = some (.tup xs)
  frzs : ∀ b o u, H b = some (.frz o u) → H' b = some (.frz o u)
  tbls : ∀ b ps, H b = some (.tbl ps) → ∃ more, H' b = some (.tbl (ps ++ more))
section
variable {fs fs' ex ex' : List Addr} {H H1 H2 : Hp} {h h1 h2 h' : Heap} {a x e : Addr} {o : HO}
theorem Un.any (u : Un fs ex H H1 h h1) {b : Addr} {ob : Obj} (q : h.get? b = some ob) (n : H b = none) (hx : b ∉ ex) : ∃ sl, h1.get? b = some { ob with slots := sl } := by
  by_cases hb : b ∈ fs
  · exact u.slot b ob q n hb hx
  · exact ⟨ob.slots, u.keep b ob q n hb hx⟩
theorem Un.trans (a : Un fs ex H H1 h h1) (b : Un fs ex H1 H2 h1 h2) : Un fs ex H H2 h h2 where
  keep := fun c ob q n hc hx => b.keep c ob (a.keep c ob q n hc hx) (a.free c ob q n hx) hc hx
  slot := fun c ob q n hc hx => by
    obtain ⟨sl, e1⟩ := a.slot c ob q n hc hx
    obtain ⟨sl', e2⟩ := b.slot c _ e1 (a.free c ob q n hx) hc hx
    exact ⟨sl', e2⟩
  free := fun c ob q n hx => by
    obtain ⟨o', e1⟩ := a.there c ob q hx
    exact b.free c o' e1 (a.free c ob q n hx) hx
  there := fun c ob q hx => by
    obtain ⟨o', e1⟩ := a.there c ob q hx
    exact b.there c o' e1 hx
  tups := fun c xs q => b.tups c xs (a.tups c xs q)
  frzs := fun c ob xs q => b.frzs c ob xs (a.frzs c ob xs q)
  tbls := fun c ps q => by
    obtain ⟨m1, e1⟩ := a.tbls c ps q
    obtain ⟨m2, e2⟩ := b.tbls c _ e1
    exact ⟨m1 ++ m2, by rw [e2, Array.append_assoc]⟩
theorem Un.kept (k : ∀ b u, h.get? b = some u → h'.get? b = some u) : Un fs ex H H h h' :=
  ⟨fun b ob q _ _ _ => k b ob q, fun b ob q _ _ _ => ⟨ob.slots, k b ob q⟩, fun _ _ _ n _ => n, fun b ob q _ => ⟨ob, k b ob q⟩, fun _ _ q => q, fun _ _ _ q => q, fun _ ps q => ⟨#[], by rw [q]; simp⟩⟩
theorem Un.refl : Un fs ex H H h h := Un.kept fun _ _ q => q
theorem Un.laid (k : ∀ b u, h.get? b = some u → h'.get? b = some u) (hp : h.objs.size ≤ a) (hn : H a = none) : Un fs ex H (upd H a o) h h' where
  keep := fun b u q _ _ _ => k b u q
  slot := fun b u q _ _ _ => ⟨u.slots, k b u q⟩
  free := fun b u q n _ => by rw [upd_ne (Nat.ne_of_lt (Nat.lt_of_lt_of_le (Heap.lt_size q) hp))]; exact n
  there := fun b u q _ => ⟨u, k b u q⟩
  tups := fun b xs q => by rw [upd_ne (ne_of_none q hn)]; exact q
  frzs := fun b u xs q => by rw [upd_ne (ne_of_none q hn)]; exact q
  tbls := fun b ps q => ⟨#[], by rw [upd_ne (ne_of_none q hn), q]; simp⟩
theorem Un.write (mu : Mut (H x)) (he : e = x ∨ H e = some (.own x)) (k : ∀ b u, b ≠ e → h.get? b = some u → h'.get? b = some u) (heo : ∃ u, h'.get? e = some u) : Un fs ex H (upd H x o) h h' := by
  have hx : ∀ b, H b = none → b ≠ x := fun b n z => by subst z; rw [n] at mu; exact mu
  have hb : ∀ b, H b = none → b ≠ e := fun b n z => by
    subst z
    rcases he with r | r
    · exact hx b n r
    · rw [n] at r; cases r
  have hm : ∀ b u, H b = some u → ¬ Mut (some u) → b ≠ x := fun b u q nm z => by subst z; rw [q] at mu; exact nm mu
  refine ⟨fun b u q n _ _ => k b u (hb b n) q, fun b u q n _ _ => ⟨u.slots, k b u (hb b n) q⟩, fun b u q n _ => by rw [upd_ne (hx b n)]; exact n, fun b u q _ => ?_,
    fun b xs q => by rw [upd_ne (hm b _ q fun z => z)]; exact q, fun b u xs q => by rw [upd_ne (hm b _ q fun z => z)]; exact q, fun b ps q => ⟨#[], by rw [upd_ne (hm b _ q fun z => z), q]; simp⟩⟩
  by_cases hbe : b = e
  · subst hbe; exact heo
  · exact ⟨u, k b u hbe q⟩
theorem Un.mono (u : Un fs ex H H1 h h1) (hs : ∀ b ∈ fs, b ∈ fs') (hx : ∀ b ∈ ex, b ∈ ex') : Un fs' ex' H H1 h h1 :=
  ⟨fun b ob q n hb he => u.keep b ob q n (fun z => hb (hs b z)) fun z => he (hx b z), fun _ _ q n _ he => u.any q n fun z => he (hx _ z), fun b ob q n he => u.free b ob q n fun z => he (hx b z), fun b ob q he => u.there b ob q fun z => he (hx b z), u.tups, u.frzs, u.tbls⟩
end
def trk (h : Heap) (H : Hp) : List Addr := (List.range h.objs.size).filter fun a => (H a).isSome
def hidT (h : Heap) (H : Hp) : Heap := PySem.W.hideAll h (trk h H)
theorem hidT_size (h : Heap) (H : Hp) : (hidT h H).objs.size = h.objs.size := PySem.W.hideAll_size _ _
theorem hidT_get {h : Heap} {H : Hp} {b : Addr} {o : Obj} (e : h.get? b = some o) (n : H b = none) : (hidT h H).get? b = some o :=
  PySem.W.hideAll_get _ e fun hm => by
    have q : (H b).isSome = true := (List.mem_filter.mp hm).2
    rw [n] at q; simp at q
theorem of_hidT {h : Heap} {H : Hp} {b : Addr} {o : Obj} (e : (hidT h H).get? b = some o) : h.get? b = some o ∧ H b = none := by
  have e' : h.get? b = some o := PySem.W.of_hideAll (trk h H) e
  refine ⟨e', ?_⟩
  cases q : H b with
  | none => rfl
  | some x =>
    have hm : b ∈ trk h H := List.mem_filter.mpr ⟨List.mem_range.mpr (Heap.lt_size e'), by simp [q]⟩
    have z : (hidT h H).get? b = none := PySem.W.hideAll_none (trk h H) hm
    rw [z] at e; cases e

def allNews (g h : Heap) (L : Addr) : List (Addr × Obj) := (List.range h.objs.size).filterMap fun a => if a = L ∨ (g.get? a).isSome = true then none else (h.get? a).map fun o => (a, o)
def rest (g h : Heap) (L d : Addr) : List (Addr × Obj) := (allNews g h L).filter fun p => decide (p.1 ≠ d)
end L2
namespace L2
open PySem PySem.Spec PyProof.Rows
/-- the module's facts, over the base: the heap at the law's entry without what is tracked there -/
structure Mod (K : PySem.W.Frag) (mg : Str → Option Value) (base : Heap) : Prop where
  kin : K.In base
  glob : base.Ns mainGlobals mg
  blt : ∃ mb, base.Ns builtinsNs mb ∧ ∀ x : Str, x ≠ "__name__" → mb x = bootBuiltins x
  nolimit : base.NoLimit

/-- the context: a def's body (or a comprehension's block) running. base: fixed through the whole law; s₀, H₀: the entry; outer: the frames whose slots others may change (a def's callers); stack: all frames that run;
   ex: iterators that were made ahead of the entry and are walked here (a comprehension's); fn: the names whose cells were made at the entry (a def: all; a comprehension's block: its own); calm: not within an except suite; pn: pins that every state bears; xe: what is wanted of an exception that leaves the code -/
structure Cx where
  prog : Program
  w : World
  K : PySem.W.Frag
  mg : Str → Option Value
  base : Heap
  A : Around
  N : List Str
  s_0 : Shared
  H_0 : Hp
  env : Env
  outer : List Env
  stack : List Env
  ex : List Addr
  fn : Str → Bool
  calm : Bool
  pn : List (Addr × Obj)
  xe : Value → Shared → Prop
/-- the callers' frames -/
def frs (l : List Env) : List Addr := l.filterMap (·.frame)
abbrev Cx.fs (X : Cx) : List Addr := frs X.outer

def Vis (sc : Scope) (x : Str) : Prop := sc.names.lookup x = some .local ∨ sc.names.lookup x = some .cell ∨ sc.names.lookup x = some .free
def Loc (sc : Scope) (x : Str) : Prop := sc.names.lookup x = some .local ∨ sc.names.lookup x = some .cell
def Look (env : Env) (h : Heap) (m : Str → Option Value) (x : Str) (u : Value) : Prop :=
  (env.kindOf x = some .local ∧ m x = some u) ∨ ((env.kindOf x = some .cell ∨ env.kindOf x = some .free) ∧ ∃ c, env.cells.lookup x = some c ∧ h.IsCell c (some u))

structure Cx.Ok (X : Cx) : Prop where
  mod : Mod X.K X.mg X.base
  kind : X.env.scope.kind = .function
  glob : X.env.globals = mainGlobals
  blt : X.env.builtins = builtinsNs
  above : X.s_0.heap.objs.size ≤ X.env.locals
  inj : ∀ x y c, X.env.cells.lookup x = some c → X.env.cells.lookup y = some c → x = y
  has : ∀ x, (X.env.kindOf x = some .cell ∨ X.env.kindOf x = some .free) → ∃ c, X.env.cells.lookup x = some c
  cab : ∀ x c, X.fn x = true → X.env.cells.lookup x = some c → X.s_0.heap.objs.size ≤ c
  hd : X.calm = true → X.A.handled = none
  frames : X.A.frames = some X.stack
  stk : X.stack = X.outer ∨ (X.stack = X.env :: X.outer ∧ X.env.frame = some X.env.locals)
  exf : ∀ b ∈ X.ex, b ≠ X.env.locals ∧ ∀ x c, X.env.cells.lookup x = some c → c ≠ b
  bs : ∀ b o, X.base.get? b = some o → X.s_0.heap.get? b = some o ∧ X.H_0 b = none
  bsz : X.base.objs.size ≤ X.s_0.heap.objs.size
  noex : ∀ b o, X.base.get? b = some o → b ∉ X.ex
  exfs : ∀ b ∈ X.ex, b ∉ X.fs
  funs : X.s_0.heap.FunFrames X.base X.outer
  frf : ∀ b ∈ X.fs, X.H_0 b = none

structure Inv (X : Cx) (pins : List (Addr × Obj)) (σ : List (Option V)) (H : Hp) (s : Shared) : Prop where
  ok : X.Ok
  os : s.os = X.s_0.os
  bare : AllBare s.gens
  base : Un X.fs X.ex X.H_0 H X.s_0.heap s.heap
  loc : ∃ m, s.heap.Ns X.env.locals m ∧ ∀ (i : Nat) (x : Str) (v : V), X.N[i]? = some x → σ[i]? = some (some v) → Vis X.env.scope x → ∃ u, RelV v u ∧ Look X.env s.heap m x u
  cell : ∀ x c, X.env.cells.lookup x = some c → ∃ v, s.heap.IsCell c v
  free : H X.env.locals = none
  freeC : ∀ x c, X.env.cells.lookup x = some c → H c = none
  pin : ∀ p ∈ X.pn ++ pins, s.heap.get? p.1 = some p.2 ∧ H p.1 = none ∧ p.1 ≠ X.env.locals ∧ p.1 ∉ X.fs ∧ ∀ v, p.2.data ≠ .cell v
  hok : HOk X.prog X.w H s.heap
  len : σ.length = X.N.length

section
variable {X : Cx} {pins : List (Addr × Obj)} {σ : List (Option V)} {H H' : Hp} {s : Shared} {h' : Heap}
theorem Cx.Ok.nofr (ok : X.Ok) {b : Addr} {o : Obj} (e : X.base.get? b = some o) : b ∉ X.fs := fun hb => by
  have := (ok.funs.mem hb).1
  rw [e] at this; cases this
theorem Inv.bs (I : Inv X pins σ H s) : ∀ b o, X.base.get? b = some o → s.heap.get? b = some o ∧ H b = none := fun b o e =>
  ⟨I.base.keep b o (I.ok.bs b o e).1 (I.ok.bs b o e).2 (I.ok.nofr e) (I.ok.noex b o e), I.base.free b o (I.ok.bs b o e).1 (I.ok.bs b o e).2 (I.ok.noex b o e)⟩
theorem Inv.bk (I : Inv X pins σ H s) : ∀ b o, X.base.get? b = some o → s.heap.get? b = some o := fun b o e => (I.bs b o e).1
theorem Inv.mod (I : Inv X pins σ H s) : Mod X.K X.mg X.base := I.ok.mod
theorem Inv.kIn (I : Inv X pins σ H s) : X.K.In s.heap := I.ok.mod.kin.keeps I.bk
theorem Inv.nolimit (I : Inv X pins σ H s) : s.heap.NoLimit := I.ok.mod.nolimit.keeps I.bk
theorem Inv.lt (I : Inv X pins σ H s) : X.env.locals < s.heap.objs.size := let ⟨_, hn, _⟩ := I.loc; hn.lt
theorem Inv.sz (I : Inv X pins σ H s) : X.s_0.heap.objs.size ≤ s.heap.objs.size := Nat.le_trans I.ok.above (Nat.le_of_lt I.lt)
theorem Inv.nofs (I : Inv X pins σ H s) {a : Addr} (h : s.heap.objs.size ≤ a) : a ∉ X.fs := fun hb => by
  obtain ⟨_, o, ho, _⟩ := I.ok.funs.mem hb
  exact absurd (Nat.lt_of_lt_of_le (Heap.lt_size ho) (Nat.le_trans I.sz h)) (Nat.lt_irrefl _)
theorem Inv.cne (I : Inv X pins σ H s) : ∀ x c, X.env.cells.lookup x = some c → c ≠ X.env.locals := fun x c e z => by
  obtain ⟨v, o, ho, hd⟩ := I.cell x c e
  obtain ⟨m, ⟨o', es, ep, ho', hd', _⟩, _⟩ := I.loc
  rw [z, ho'] at ho; cases ho; rw [hd'] at hd; cases hd
theorem Inv.funs (I : Inv X pins σ H s) : s.heap.FunFrames X.base X.outer := by
  have all : ∀ (l : List Env), (∀ b ∈ frs l, b ∈ X.fs) → X.s_0.heap.FunFrames X.base l → s.heap.FunFrames X.base l := by
    intro l
    induction l with
    | nil => intro _ _; trivial
    | cons env r ih =>
      intro hs hl
      obtain ⟨hk, ⟨L, o, hf, hn, ho, hd⟩, hr⟩ := hl
      have hL : L ∈ X.fs := hs L (by unfold frs; rw [List.filterMap_cons, hf]; exact List.mem_cons_self)
      obtain ⟨sl, e⟩ := I.base.slot L o ho (I.ok.frf L hL) hL fun z => I.ok.exfs L z hL
      exact ⟨hk, ⟨L, _, hf, hn, e, hd⟩, ih (fun b hb => hs b (by unfold frs; rw [List.filterMap_cons, hf]; exact List.mem_cons_of_mem _ hb)) hr⟩
  exact all X.outer (fun _ hb => hb) I.ok.funs

/-- the frames that run, for a call -/
theorem Inv.stack (I : Inv X pins σ H s) : s.heap.FunFrames X.base X.stack := by
  rcases I.ok.stk with e | ⟨e, hf⟩
  · rw [e]; exact I.funs
  · rw [e]
    obtain ⟨m, hn, _⟩ := I.loc
    refine .cons (by rw [I.ok.kind]; decide) hf hn ?_ I.funs
    exact Heap.get?_none_of_le (Nat.le_trans I.ok.bsz I.ok.above)
theorem Inv.stkSub (I : Inv X pins σ H s) : ∀ b ∈ frs X.stack, b ∈ X.env.locals :: X.fs := fun b hb => by
  rcases I.ok.stk with e | ⟨e, hf⟩
  · rw [e] at hb; exact List.mem_cons_of_mem _ hb
  · rw [e] at hb
    unfold frs at hb
    rw [List.filterMap_cons, hf] at hb
    exact hb
theorem Inv.stkFree (I : Inv X pins σ H s) : ∀ b ∈ frs X.stack, H b = none := fun b hb => by
  rcases List.mem_cons.mp (I.stkSub b hb) with e | hb
  · rw [e]; exact I.free
  · obtain ⟨_, o, ho, _⟩ := I.ok.funs.mem hb
    exact I.base.free b o ho (I.ok.frf b hb) fun z => I.ok.exfs b z hb

/-- THE STEP: the untracked objects but the frame and the records at ch are kept (the callers' frames up to slots), the frame's map is kept, the new abstract heap is held -/
theorem Inv.step {g' : Array GenState} {t' : Nat} {d' : Drawn} {ch : List Addr} (I : Inv X pins σ H s)
    (hch : ∀ b ∈ ch, (b ∈ X.ex ∨ X.s_0.heap.objs.size ≤ b) ∧ b ≠ X.env.locals ∧ (∀ x c, X.env.cells.lookup x = some c → c ≠ b) ∧ ∀ p ∈ X.pn ++ pins, p.1 ≠ b)
    (keep : ∀ b o, b ≠ X.env.locals → b ∉ X.fs → b ∉ ch → s.heap.get? b = some o → H b = none → h'.get? b = some o)
    (slot : ∀ b o, b ≠ X.env.locals → b ∈ X.fs → b ∉ ch → s.heap.get? b = some o → H b = none → ∃ sl, h'.get? b = some { o with slots := sl }) (free : ∀ b o, b ∉ ch → s.heap.get? b = some o → H b = none → H' b = none)
    (there : ∀ b o, b ∉ ch → s.heap.get? b = some o → ∃ o', h'.get? b = some o')
    (tups : ∀ b xs, H b = some (.tup xs) → H' b = some (.tup xs)) (frzs : ∀ b o u, H b = some (.frz o u) → H' b = some (.frz o u)) (tbls : ∀ b ps, H b = some (.tbl ps) → ∃ more, H' b = some (.tbl (ps ++ more)))
    (ns : ∀ m, s.heap.Ns X.env.locals m → h'.Ns X.env.locals m) (hok : HOk X.prog X.w H' h') (hg : AllBare g') :
    Inv X pins σ H' { s with heap := h', gens := g', drawn := d', toks := t' } := by
  have neL : ∀ b o, X.s_0.heap.get? b = some o → b ≠ X.env.locals := fun b o e => Nat.ne_of_lt (Nat.lt_of_lt_of_le (Heap.lt_size e) I.ok.above)
  have neC : ∀ b o, X.s_0.heap.get? b = some o → b ∉ X.ex → b ∉ ch := fun b o e hx hb => by
    rcases (hch b hb).1 with z | z
    · exact hx z
    · exact absurd (Nat.lt_of_lt_of_le (Heap.lt_size e) z) (Nat.lt_irrefl _)
  have cellK : ∀ x c, X.env.cells.lookup x = some c → ∀ v, s.heap.IsCell c v → h'.IsCell c v := fun x c e v ⟨o, ho, hd⟩ => by
    have nch : c ∉ ch := fun z => (hch c z).2.2.1 x c e rfl
    by_cases hc : c ∈ X.fs
    · obtain ⟨sl, q⟩ := slot c o (I.cne x c e) hc nch ho (I.freeC x c e)
      exact ⟨_, q, hd⟩
    · exact ⟨o, keep c o (I.cne x c e) hc nch ho (I.freeC x c e), hd⟩
  refine ⟨I.ok, I.os, hg, ⟨fun b o e n hb hx => ?_, fun b o e n hb hx => ?_, fun b o e n hx => ?_, fun b o e hx => ?_, fun b xs e => tups b xs (I.base.tups b xs e), fun b o xs e => frzs b o xs (I.base.frzs b o xs e), fun b ps e => ?_⟩, ?_, fun x c e => ?_, ?_, fun x c e => ?_, fun p hp => ?_, hok, I.len⟩
  · exact keep b o (neL b o e) hb (neC b o e hx) (I.base.keep b o e n hb hx) (I.base.free b o e n hx)
  · obtain ⟨sl, e1⟩ := I.base.slot b o e n hb hx
    obtain ⟨sl', e2⟩ := slot b _ (neL b o e) hb (neC b o e hx) e1 (I.base.free b o e n hx)
    exact ⟨sl', e2⟩
  · obtain ⟨o', e1⟩ := I.base.there b o e hx
    exact free b o' (neC b o e hx) e1 (I.base.free b o e n hx)
  · obtain ⟨o', e1⟩ := I.base.there b o e hx
    exact there b o' (neC b o e hx) e1
  · obtain ⟨m1, e1⟩ := I.base.tbls b ps e
    obtain ⟨m2, e2⟩ := tbls b _ e1
    exact ⟨m1 ++ m2, by rw [e2, Array.append_assoc]⟩
  · obtain ⟨m, hn, hl⟩ := I.loc
    refine ⟨m, ns m hn, fun i x v e1 e2 e3 => ?_⟩
    obtain ⟨u, r, l⟩ := hl i x v e1 e2 e3
    refine ⟨u, r, ?_⟩
    rcases l with l | ⟨k, c, e, z⟩
    · exact .inl l
    · exact .inr ⟨k, c, e, cellK x c e _ z⟩
  · obtain ⟨v, z⟩ := I.cell x c e
    exact ⟨v, cellK x c e v z⟩
  · obtain ⟨m, ⟨o, _, _, ho, _⟩, _⟩ := I.loc
    exact free _ o (fun z => (hch _ z).2.1 rfl) ho I.free
  · obtain ⟨v, o, ho, hd⟩ := I.cell x c e
    exact free c o (fun z => (hch c z).2.2.1 x c e rfl) ho (I.freeC x c e)
  · obtain ⟨e, n, ne, nf, d⟩ := I.pin p hp
    have nch : p.1 ∉ ch := fun z => (hch p.1 z).2.2.2 p hp rfl
    exact ⟨keep p.1 p.2 ne nf nch e n, free p.1 p.2 nch e n, ne, nf, d⟩
/-- .. where the frame's own object is kept too -/
theorem Inv.un {t' : Nat} (I : Inv X pins σ H s) (u : Un X.fs [] H H' s.heap h') (hok : HOk X.prog X.w H' h') : Inv X pins σ H' { s with heap := h', toks := t' } := by
  obtain ⟨m, ⟨o, es, ep, ho, r⟩, _⟩ := id I.loc
  obtain ⟨sl, hL⟩ := u.any ho I.free (by simp)
  exact I.step (g' := s.gens) (d' := s.drawn) (ch := []) (fun _ z => nomatch z) (fun b o _ hb _ e n => u.keep b o e n hb (by simp)) (fun b o _ hb _ e n => u.slot b o e n hb (by simp)) (fun b o _ e n => u.free b o e n (by simp)) (fun b o _ e => u.there b o e (by simp)) u.tups u.frzs u.tbls (fun m' hm => by
    obtain ⟨o', es', ep', ho', r'⟩ := hm
    rw [ho] at ho'; cases ho'
    exact ⟨_, es', ep', hL, r'⟩) hok I.bare
/-- behind a call (or a comprehension's block): the slots of this frame may have changed too, the records at ch may have turned -/
theorem Inv.call {g' : Array GenState} {t' : Nat} {d' : Drawn} {ch : List Addr} (I : Inv X pins σ H s) (u : Un (frs X.stack) ch H H' s.heap h') (hok : HOk X.prog X.w H' h') (hg : AllBare g')
    (hch : ∀ b ∈ ch, (b ∈ X.ex ∨ X.s_0.heap.objs.size ≤ b) ∧ b ≠ X.env.locals ∧ (∀ x c, X.env.cells.lookup x = some c → c ≠ b) ∧ ∀ p ∈ X.pn ++ pins, p.1 ≠ b) :
    Inv X pins σ H' { s with heap := h', gens := g', drawn := d', toks := t' } := by
  obtain ⟨m, ⟨o, es, ep, ho, r⟩, _⟩ := id I.loc
  obtain ⟨sl, hL⟩ := u.any ho I.free fun z => (hch _ z).2.1 rfl
  exact I.step (ch := ch) hch (fun b o hL hb hc e n => u.keep b o e n (fun z => (List.mem_cons.mp (I.stkSub b z)).elim hL hb) hc) (fun b o _ _ hc e n => u.any e n hc) (fun b o hc e n => u.free b o e n hc) (fun b o hc e => u.there b o e hc) u.tups u.frzs u.tbls (fun m' hm => by
    obtain ⟨o', es', ep', ho', r'⟩ := hm
    rw [ho] at ho'; cases ho'
    exact ⟨_, es', ep', hL, r'⟩) hok hg
/-- an untracked record of ours (an iterator) has turned -/
theorem Inv.turned {t' : Nat} {it : Addr} (I : Inv X pins σ H s) (k : ∀ b o, b ≠ it → s.heap.get? b = some o → h'.get? b = some o) (hn : H it = none) (hL : it ≠ X.env.locals)
    (h1 : it ∈ X.ex ∨ X.s_0.heap.objs.size ≤ it) (h2 : ∀ x c, X.env.cells.lookup x = some c → c ≠ it) (h3 : ∀ p ∈ X.pn ++ pins, p.1 ≠ it) : Inv X pins σ H { s with heap := h', toks := t' } := by
  have nit : ∀ b u, H b = some u → b ≠ it := fun b u e z => by rw [z, hn] at e; cases e
  refine I.step (g' := s.gens) (d' := s.drawn) (ch := [it]) (fun b hb => ?_) (fun b o _ _ hc e _ => k b o (fun z => hc (by simp [z])) e) (fun b o _ _ hc e _ => ⟨o.slots, k b o (fun z => hc (by simp [z])) e⟩) (fun _ _ _ _ n => n)
    (fun b o hc e => ⟨o, k b o (fun z => hc (by simp [z])) e⟩) (fun _ _ e => e) (fun _ _ _ e => e) (fun b ps e => ⟨#[], by rw [e]; simp⟩) (fun m hm => ?_) (fun b u e => ?_) I.bare
  · have e : b = it := by simpa using hb
    subst e
    exact ⟨h1, hL, h2, h3⟩
  · obtain ⟨o, es, ep, ho, r⟩ := hm
    exact ⟨o, es, ep, k _ o (Ne.symm hL) ho, r⟩
  · refine (I.hok b u e).stay (fun c v hc q => k c v ?_ q) (fun _ q => q) fun _ _ q => q
    rcases hc with z | z
    · rw [z]; exact nit b u e
    · exact nit c _ z
theorem Inv.tok (I : Inv X pins σ H s) (t : Nat) : Inv X pins σ H { s with toks := t } := I.un (h' := s.heap) (t' := t) Un.refl I.hok
/-- all objects kept -/
theorem Inv.kept {t' : Nat} (I : Inv X pins σ H s) (k : ∀ b u, s.heap.get? b = some u → h'.get? b = some u) : Inv X pins σ H { s with heap := h', toks := t' } := I.un (Un.kept k) (I.hok.kept k)
/-- a new object laid and tracked -/
theorem Inv.laid {a : Addr} {o : HO} {t' : Nat} (I : Inv X pins σ H s) (k : ∀ b u, s.heap.get? b = some u → h'.get? b = some u) (hp : s.heap.objs.size ≤ a) (new : ObjOk X.prog X.w (upd H a o) h' a o) :
    Inv X pins σ (upd H a o) { s with heap := h', toks := t' } := I.un (Un.laid k hp (I.hok.fresh hp)) (I.hok.laid k hp new)
/-- an object written -/
theorem Inv.write {x e : Addr} {o : HO} {t' : Nat} (I : Inv X pins σ H s) (mu : Mut (H x)) (he : e = x ∨ H e = some (.own x)) (k : ∀ b u, b ≠ e → s.heap.get? b = some u → h'.get? b = some u) (heo : ∃ u, h'.get? e = some u)
    (new : ObjOk X.prog X.w (upd H x o) h' x o) : Inv X pins σ (upd H x o) { s with heap := h', toks := t' } := I.un (Un.write mu he k heo) (I.hok.write mu he k heo new)
/-- forgetting slots, pins -/
theorem Inv.weak {σ' : List (Option V)} (I : Inv X pins σ H s) (hl : σ'.length = σ.length) (w : ∀ (i : Nat) v, σ'[i]? = some (some v) → σ[i]? = some (some v)) : Inv X pins σ' H s :=
  ⟨I.ok, I.os, I.bare, I.base, let ⟨m, hn, hl'⟩ := I.loc; ⟨m, hn, fun i x v e1 e2 e3 => hl' i x v e1 (w i v e2) e3⟩, I.cell, I.free, I.freeC, I.pin, I.hok, hl.trans I.len⟩
theorem Inv.pins_of {pins' : List (Addr × Obj)} (I : Inv X pins σ H s) (h : ∀ p ∈ pins', s.heap.get? p.1 = some p.2 ∧ H p.1 = none ∧ p.1 ≠ X.env.locals ∧ p.1 ∉ X.fs ∧ ∀ v, p.2.data ≠ .cell v) : Inv X pins' σ H s :=
  ⟨I.ok, I.os, I.bare, I.base, I.loc, I.cell, I.free, I.freeC, fun p hp => (List.mem_append.mp hp).elim (fun z => I.pin p (List.mem_append_left _ z)) (h p), I.hok, I.len⟩

theorem nodup_ix {N : List Str} (hN : N.Nodup) {i j : Nat} {x : Str} (a : N[i]? = some x) (b : N[j]? = some x) : i = j := by
  obtain ⟨h1, e1⟩ := List.getElem?_eq_some_iff.mp a
  obtain ⟨h2, e2⟩ := List.getElem?_eq_some_iff.mp b
  exact (List.getElem_inj hN).mp (e1.trans e2.symm)

/-- a name is stored; what changed -/
theorem store_ok2 {M : Model} {A : Around} {E : Value → Shared → Prop} {i : Nat} {x : Str} {v : V} {u : Value} {Q : Unit → Shared → Prop} (I : Inv X pins σ H s) (hN : X.N.Nodup) (hi : X.N[i]? = some x) (hx : Loc X.env.scope x) (r : RelV v u)
    (h : ∀ s', Inv X pins (σ.set i (some v)) H s' → (∃ a, Heap.SameBut a s.heap s'.heap ∧ (a = X.env.locals ∨ X.env.cells.lookup x = some a)) → Q () s') (hf : X.fn x = true ∨ X.env.scope.names.lookup x = some .local := by first | exact .inl rfl | exact .inr rfl | assumption) : wpAny M A (storeName X.env x u) Q E s := by
  obtain ⟨m, hn, hl⟩ := id I.loc
  have hcls : (X.env.scope.kind == .class || (X.env.scope.kind == .module && X.env.locals != X.env.globals)) = false := by rw [I.ok.kind]; rfl
  have hiσ : i < σ.length := by rw [I.len]; exact (List.getElem?_eq_some_iff.mp hi).1
  have cne := I.cne
  have tracked : ∀ {a : Addr} {h' : Heap}, (∃ o, s.heap.get? a = some o ∧ H a = none) → Heap.SameBut a s.heap h' → HOk X.prog X.w H h' := fun {a h'} ha hs b ob e => by
    obtain ⟨_, _, hfree⟩ := ha
    refine (I.hok b ob e).stay (fun c w' hc q => (hs.2 c ?_).trans q) (fun _ q => q) fun _ _ q => q
    rintro rfl
    rcases hc with rfl | hc
    · rw [hfree] at e; cases e
    · rw [hfree] at hc; cases hc
  rcases hx with hk | hk
  · refine wpAny_storeName_local hk hn (fun h' hn' hs => ?_) hcls
    obtain ⟨oL, _, _, hoL, _⟩ := id hn
    refine h _ ⟨I.ok, I.os, I.bare, ⟨fun b o e n hb hx => ?_, fun b o e n hb hx => ?_, I.base.free, fun b o e hx => ?_, I.base.tups, I.base.frzs, I.base.tbls⟩, ⟨_, hn', fun j y v' e1 e2 e3 => ?_⟩, fun y c e => ?_, I.free, I.freeC, fun p hp => ?_, tracked ⟨oL, hoL, I.free⟩ hs, by simpa using I.len⟩ ⟨_, hs, .inl rfl⟩
    · exact (hs.2 b (Nat.ne_of_lt (Nat.lt_of_lt_of_le (Heap.lt_size e) I.ok.above))).trans (I.base.keep b o e n hb hx)
    · obtain ⟨sl, e1⟩ := I.base.slot b o e n hb hx
      exact ⟨sl, (hs.2 b (Nat.ne_of_lt (Nat.lt_of_lt_of_le (Heap.lt_size e) I.ok.above))).trans e1⟩
    · obtain ⟨o', e1⟩ := I.base.there b o e hx
      exact ⟨o', (hs.2 b (Nat.ne_of_lt (Nat.lt_of_lt_of_le (Heap.lt_size e) I.ok.above))).trans e1⟩
    · by_cases hj : j = i
      · subst hj
        rw [hi] at e1; cases e1
        rw [List.getElem?_set_self hiσ] at e2
        cases e2
        exact ⟨u, r, .inl ⟨hk, by simp⟩⟩
      · rw [List.getElem?_set_ne (Ne.symm hj)] at e2
        obtain ⟨u', r', q⟩ := hl j y v' e1 e2 e3
        refine ⟨u', r', ?_⟩
        rcases q with ⟨k, e⟩ | ⟨k, c, e, z⟩
        · refine .inl ⟨k, ?_⟩
          have : y ≠ x := fun e => hj (nodup_ix hN e1 (e ▸ hi))
          simp [this, e]
        · exact .inr ⟨k, c, e, z.sameBut hs (cne y c e)⟩
    · obtain ⟨w', z⟩ := I.cell y c e
      exact ⟨w', z.sameBut hs (cne y c e)⟩
    · obtain ⟨e, n, ne, nf, d⟩ := I.pin p hp
      exact ⟨(hs.2 p.1 ne).trans e, n, ne, nf, d⟩
  · have hfn : X.fn x = true := by
      rcases hf with z | z
      · exact z
      · rw [z] at hk; cases hk
    obtain ⟨c, hc⟩ := I.ok.has x (.inl hk)
    obtain ⟨w', z⟩ := I.cell x c hc
    refine wpAny_storeName_cell I.ok.kind hk hc z (fun h' hc' hs => ?_)
    obtain ⟨oc, hoc, hocd⟩ := id z
    refine h { s with heap := h' } ⟨I.ok, I.os, I.bare, ⟨fun b o e n hb hx => ?_, fun b o e n hb hx => ?_, I.base.free, fun b o e hx => ?_, I.base.tups, I.base.frzs, I.base.tbls⟩, ⟨m, hn.sameBut hs (Ne.symm (cne x c hc)), fun j y v' e1 e2 e3 => ?_⟩, fun y c' e => ?_, I.free, I.freeC, fun p hp => ?_, tracked ⟨oc, hoc, I.freeC x c hc⟩ hs, by simpa using I.len⟩ ⟨c, hs, .inr hc⟩
    · exact (hs.2 b (Nat.ne_of_lt (Nat.lt_of_lt_of_le (Heap.lt_size e) (I.ok.cab x c hfn hc)))).trans (I.base.keep b o e n hb hx)
    · obtain ⟨sl, e1⟩ := I.base.slot b o e n hb hx
      exact ⟨sl, (hs.2 b (Nat.ne_of_lt (Nat.lt_of_lt_of_le (Heap.lt_size e) (I.ok.cab x c hfn hc)))).trans e1⟩
    · obtain ⟨o', e1⟩ := I.base.there b o e hx
      exact ⟨o', (hs.2 b (Nat.ne_of_lt (Nat.lt_of_lt_of_le (Heap.lt_size e) (I.ok.cab x c hfn hc)))).trans e1⟩
    · by_cases hj : j = i
      · subst hj
        rw [hi] at e1; cases e1
        rw [List.getElem?_set_self hiσ] at e2
        cases e2
        exact ⟨u, r, .inr ⟨.inl hk, c, hc, hc'⟩⟩
      · rw [List.getElem?_set_ne (Ne.symm hj)] at e2
        obtain ⟨u', r', q⟩ := hl j y v' e1 e2 e3
        refine ⟨u', r', ?_⟩
        rcases q with q | ⟨k, c', e, z'⟩
        · exact .inl q
        · refine .inr ⟨k, c', e, z'.sameBut hs ?_⟩
          rintro rfl
          exact hj (nodup_ix hN e1 (I.ok.inj _ _ _ e hc ▸ hi))
    · by_cases hcc : c' = c
      · subst hcc; exact ⟨_, hc'⟩
      · obtain ⟨w2, z2⟩ := I.cell y c' e
        exact ⟨w2, z2.sameBut hs hcc⟩
    · obtain ⟨e, n, ne, nf, d⟩ := I.pin p hp
      refine ⟨(hs.2 p.1 ?_).trans e, n, ne, nf, d⟩
      intro q
      rw [q, hoc] at e
      have q' : oc = p.2 := Option.some.inj e
      exact d w' (by rw [← q']; exact hocd)
theorem store_ok {M : Model} {A : Around} {E : Value → Shared → Prop} {i : Nat} {x : Str} {v : V} {u : Value} {Q : Unit → Shared → Prop} (I : Inv X pins σ H s) (hN : X.N.Nodup) (hi : X.N[i]? = some x) (hx : Loc X.env.scope x) (r : RelV v u)
    (h : ∀ s', Inv X pins (σ.set i (some v)) H s' → Q () s') (hf : X.fn x = true ∨ X.env.scope.names.lookup x = some .local := by first | exact .inl rfl | exact .inr rfl | assumption) : wpAny M A (storeName X.env x u) Q E s :=
  store_ok2 I hN hi hx r (fun s' I' _ => h s' I') hf
/-- behind a call or a block, the state as it is -/
theorem Inv.call' {s' : Shared} {ch : List Addr} (I : Inv X pins σ H s) (ho : s'.os = s.os) (u : Un (frs X.stack) ch H H' s.heap s'.heap) (hok : HOk X.prog X.w H' s'.heap) (hg : AllBare s'.gens)
    (hch : ∀ b ∈ ch, (b ∈ X.ex ∨ X.s_0.heap.objs.size ≤ b) ∧ b ≠ X.env.locals ∧ (∀ x c, X.env.cells.lookup x = some c → c ≠ b) ∧ ∀ p ∈ X.pn ++ pins, p.1 ≠ b) : Inv X pins σ H' s' := by
  obtain ⟨h', g', d', t', o'⟩ := s'
  have e : o' = s.os := ho
  subst e
  exact I.call (g' := g') (t' := t') (d' := d') u hok hg hch
end
/-- an exception: its class, its own dict's address (where it has one), the abstract heap behind it -/
abbrev XK := Value → Option Addr → Hp → Prop
abbrev St := List (Option V)
abbrev VK := V → Hp → Prop
/-- an expression's reading; a test's; an argument list's -/
abbrev TE := St → Hp → VK → Prop
abbrev TT := St → Hp → (Bool → Hp → Prop) → Prop
abbrev TA := St → Hp → (List V → Hp → Prop) → Prop
/-- what is wanted behind a statement -/
structure Ends where
  nx : St → Hp → Prop
  rt : VK
  bk : St → Hp → Prop := fun _ _ => False
  ct : St → Hp → Prop := fun _ _ => False
abbrev TS := Ends → St → Hp → Prop

def EP (X : Cx) (pins : List (Addr × Obj)) (σ : St) (Q : VK) (u : Value) (s' : Shared) : Prop := ∃ v H', Inv X pins σ H' s' ∧ RelV v u ∧ Q v H'
def TP (X : Cx) (pins : List (Addr × Obj)) (σ : St) (Q : Bool → Hp → Prop) (b : Bool) (s' : Shared) : Prop := ∃ H', Inv X pins σ H' s' ∧ Q b H'
def AP (X : Cx) (pins : List (Addr × Obj)) (σ : St) (Q : List V → Hp → Prop) (us : List Value) (s' : Shared) : Prop := ∃ vs H', Inv X pins σ H' s' ∧ Vals vs us ∧ Q vs H'
def SP (X : Cx) (pins : List (Addr × Obj)) (D : Ends) (f : Flow) (s' : Shared) : Prop :=
  match f with
  | .next => ∃ σ' H', Inv X pins σ' H' s' ∧ D.nx σ' H'
  | .brk => ∃ σ' H', Inv X pins σ' H' s' ∧ D.bk σ' H'
  | .cont => ∃ σ' H', Inv X pins σ' H' s' ∧ D.ct σ' H'
  | .ret u => ∃ v σ' H', Inv X pins σ' H' s' ∧ RelV v u ∧ D.rt v H'

def PE (X : Cx) (e : Expr) (t : TE) : Prop :=
  ∀ (pins : List (Addr × Obj)) (s : Shared) (σ : St) (H : Hp) (Q : VK), Inv X pins σ H s → t σ H Q → wpAny (model X.prog X.w) X.A (eval e X.env) (EP X pins σ Q) X.xe s
def PT (X : Cx) (e : Expr) (t : TT) : Prop :=
  ∀ (pins : List (Addr × Obj)) (s : Shared) (σ : St) (H : Hp) (Q : Bool → Hp → Prop), Inv X pins σ H s → t σ H Q → wpAny (model X.prog X.w) X.A (isTrue e X.env (eval e X.env)) (TP X pins σ Q) X.xe s
/-- a test whatever its 'whole' is (and, or) -/
def PW (X : Cx) (e : Expr) (t : TT) : Prop :=
  ∀ (whole : Sem Value) (pins : List (Addr × Obj)) (s : Shared) (σ : St) (H : Hp) (Q : Bool → Hp → Prop), Inv X pins σ H s → t σ H Q → wpAny (model X.prog X.w) X.A (isTrue e X.env whole) (TP X pins σ Q) X.xe s
theorem PW.pt {X : Cx} {e : Expr} {t : TT} (h : PW X e t) : PT X e t := h _
/-- an argument list (no star), from the left -/
def PA (X : Cx) (es : List Expr) (t : TA) : Prop :=
  ∀ (pos : Pos) (pins : List (Addr × Obj)) (s : Shared) (σ : St) (H : Hp) (Q : List V → Hp → Prop), Inv X pins σ H s → t σ H Q → wpAny (model X.prog X.w) X.A (spliced (backTo pos (starEach es X.env))) (AP X pins σ Q) X.xe s
def PS (X : Cx) (st : Stmt) (t : TS) : Prop :=
  ∀ (pins : List (Addr × Obj)) (s : Shared) (σ : St) (H : Hp) (D : Ends), Inv X pins σ H s → t D σ H → wpAny (model X.prog X.w) X.A (exec st X.env) (SP X pins D) X.xe s
def PSs (X : Cx) (st : List Stmt) (t : TS) : Prop :=
  ∀ (pins : List (Addr × Obj)) (s : Shared) (σ : St) (H : Hp) (D : Ends), Inv X pins σ H s → t D σ H → wpAny (model X.prog X.w) X.A (execs st X.env) (SP X pins D) X.xe s
/-- weaken the end -/
theorem thn {α : Type} {t : Sem α} {Q Q' : α → Shared → Prop} {M : Model} {A : Around} {E : Value → Shared → Prop} {s : Shared} (h : wpAny M A t Q E s) (hQ : ∀ a s, Q a s → Q' a s) : wpAny M A t Q' E s := wpAny_mono h hQ fun _ _ x => x
end L2
namespace L2
open PySem PySem.Spec PyProof.Rows
section
variable {X : Cx}
def tVar (i : Nat) : TE := fun σ H Q => ∃ v, σ[i]? = some (some v) ∧ Q v H
def tC (v : V) : TE := fun _ H Q => Q v H
theorem pe_var {i : Nat} {x : Str} {pos : Pos} (hN : X.N[i]? = some x) (hv : Vis X.env.scope x) (hd : (x == ("__debug__" : Str)) = false := by decide) (hcd : (x == ("__classdict__" : Str)) = false := by decide) : PE X (.Name x pos) (tVar i) := by
  intro pins s σ H Q I h
  obtain ⟨v, e, h⟩ := h
  obtain ⟨m, hn, hl⟩ := I.loc
  obtain ⟨u, r, l⟩ := hl i x v hN e hv
  have fin : EP X pins σ Q u s := ⟨v, H, I, r, h⟩
  rcases l with ⟨hk, hm⟩ | ⟨hk, c, hc, hcell⟩
  · exact wpAny_Name (wpAny_loadName_local I.ok.kind hk hn hm fin) hd
  · rcases hk with hk | hk
    · exact wpAny_Name (wpAny_loadName_cell I.ok.kind hk hc hcell fin) hd
    · exact wpAny_Name (wpAny_loadName_free I.ok.kind hk hc hcell fin hcd) hd
theorem pe_int {i j pos} : PE X (.Constant (.int i) j pos) (tC (.int i)) := fun _ _ _ H _ I h => wpAny_Constant_int ⟨.int i, H, I.tok _, ⟨_, rfl⟩, h⟩
theorem pe_non {j pos} : PE X (.Constant .none j pos) (tC .non) := fun _ _ _ H _ I h => Constant_none ⟨.non, H, I, rfl, h⟩
/-- a global name of the def -/
def Gl (X : Cx) (x : Str) : Prop := X.env.kindOf x = some .globalImplicit
theorem ld_glob {E : Value → Shared → Prop} {pins : List (Addr × Obj)} {s : Shared} {σ : St} {H : Hp} {x : Str} {u : Value} {pos : Pos} {Q : Value → Shared → Prop} (I : Inv X pins σ H s) (hg : Gl X x) (hm : X.mg x = some u) (h : Q u s)
    (hd : (x == ("__debug__" : Str)) = false := by decide) : wpAny (model X.prog X.w) X.A (eval (.Name x pos) X.env) Q E s :=
  Calls.Name_function_global I.ok.kind hg (Calls.loadGlobal_global (by rw [I.ok.glob]; exact I.mod.glob.keeps I.bk) hm h) hd
theorem ld_blt {E : Value → Shared → Prop} {pins : List (Addr × Obj)} {s : Shared} {σ : St} {H : Hp} {x : Str} {u : Value} {pos : Pos} {Q : Value → Shared → Prop} (I : Inv X pins σ H s) (hg : Gl X x) (hm : X.mg x = none) (hv : bootBuiltins x = some u) (h : Q u s)
    (hn : x ≠ "__name__" := by decide) (hd : (x == ("__debug__" : Str)) = false := by decide) : wpAny (model X.prog X.w) X.A (eval (.Name x pos) X.env) Q E s := by
  obtain ⟨mb, h1, h2⟩ := I.mod.blt
  exact Calls.Name_function_global I.ok.kind hg (Calls.loadGlobal_builtin (by rw [I.ok.glob]; exact I.mod.glob.keeps I.bk) hm (by rw [I.ok.blt]; exact h1.keeps I.bk) ((h2 x hn).trans hv) h) hd
/-- a module's constant, a class, a function, as a value -/
theorem pe_glob {x : Str} {v : V} {u : Value} {pos : Pos} (hg : Gl X x) (hm : X.mg x = some u) (r : RelV v u) (hd : (x == ("__debug__" : Str)) = false := by decide) : PE X (.Name x pos) (tC v) :=
  fun _ _ _ H _ I h => ld_glob I hg hm ⟨v, H, I, r, h⟩ hd
variable {a b : Expr} {ta tb : TE} {pos : Pos}
/-- a comparison as a value, as a test -/
def tB (t : TE) : TT := fun σ H Q => t σ H fun x H1 => ∃ c, x = .bl c ∧ Q c H1
/-- an expression whose value is a bool, as a test -/
theorem pt_val {e : Expr} {t : TE} (h : PE X e t) (he : ∀ whole, isTrue e X.env whole = (do let v ← whole; standAt e.pos; holding [v] (truthy v)) := by intro _; rfl) : PT X e (tB t) := by
  intro pins s σ H Q I hw
  refine isTrue_plain (thn (h pins s σ H _ I hw) fun v s1 ⟨x, H1, I1, r1, q1⟩ => ?_) (he _)
  obtain ⟨d, rfl, q⟩ := q1
  cases r1
  exact wpAny_truthy_bool ⟨H1, I1, q⟩

variable {tA tB' : TT} {rest : List Expr}
def tAnd (t u : TT) : TT := fun σ H Q => t σ H fun c H1 => if c = true then u σ H1 Q else Q false H1
def tOr (t u : TT) : TT := fun σ H Q => t σ H fun c H1 => if c = true then Q true H1 else u σ H1 Q
def tNot (t : TT) : TT := fun σ H Q => t σ H fun c H1 => Q (!c) H1
theorem pw_and1 (ha : PT X a tA) : PW X (.BoolOp .And [a] pos) tA := by
  intro wh pins s σ H Q I h
  refine isTrue_and (thn (ha pins s σ H Q I h) fun c s1 e => ?_)
  cases c with
  | true => exact isTrue_and_nil e
  | false => exact e
theorem pw_or1 (ha : PT X a tA) : PW X (.BoolOp .Or [a] pos) tA := by
  intro wh pins s σ H Q I h
  refine isTrue_or (thn (ha pins s σ H Q I h) fun c s1 e => ?_)
  cases c with
  | false => exact isTrue_or_nil e
  | true => exact e
theorem pw_and (ha : PT X a tA) (hb : PW X (.BoolOp .And (b :: rest) pos) tB') : PW X (.BoolOp .And (a :: b :: rest) pos) (tAnd tA tB') := by
  intro wh pins s σ H Q I h
  refine isTrue_and (thn (ha pins s σ H _ I h) fun c s1 ⟨H1, I1, q1⟩ => ?_)
  cases c with
  | true => exact hb wh pins s1 σ H1 Q I1 q1
  | false => exact ⟨H1, I1, q1⟩
theorem pw_or (ha : PT X a tA) (hb : PW X (.BoolOp .Or (b :: rest) pos) tB') : PW X (.BoolOp .Or (a :: b :: rest) pos) (tOr tA tB') := by
  intro wh pins s σ H Q I h
  refine isTrue_or (thn (ha pins s σ H _ I h) fun c s1 ⟨H1, I1, q1⟩ => ?_)
  cases c with
  | true => exact ⟨H1, I1, q1⟩
  | false => exact hb wh pins s1 σ H1 Q I1 q1
theorem pt_not (ha : PT X a tA) : PT X (.UnaryOp .Not a pos) (tNot tA) := by
  intro pins s σ H Q I h
  exact isTrue_not (ha pins s σ H (fun c H1 => Q (!c) H1) I h)
/-- .. as values (bools) -/
def tAndV (ta tb : TE) : TE := fun σ H Q => ta σ H fun x H1 => ∃ c, x = .bl c ∧ if c = true then tb σ H1 Q else Q (.bl false) H1
def tOrV (ta tb : TE) : TE := fun σ H Q => ta σ H fun x H1 => ∃ c, x = .bl c ∧ if c = true then Q (.bl true) H1 else tb σ H1 Q
def tNotV (ta : TE) : TE := fun σ H Q => ta σ H fun x H1 => ∃ c, x = .bl c ∧ Q (.bl (!c)) H1
theorem pe_one {op} {t : TE} (h : PE X a t) : PE X (.BoolOp op [a] pos) t := fun pins s σ H Q I hw => BoolOp_one (h pins s σ H Q I hw)
theorem pe_and (ha : PE X a ta) (hb : PE X (.BoolOp .And (b :: rest) pos) tb) : PE X (.BoolOp .And (a :: b :: rest) pos) (tAndV ta tb) := by
  intro pins s σ H Q I h
  refine BoolOp_and (thn (ha pins s σ H _ I h) fun v s1 ⟨x, H1, I1, r1, q1⟩ => ?_)
  obtain ⟨c, rfl, q1⟩ := q1
  cases r1
  refine wpAny_truthy_bool ?_
  cases c with
  | true => exact hb pins s1 σ H1 Q I1 q1
  | false => exact ⟨.bl false, H1, I1, rfl, q1⟩
theorem pe_or (ha : PE X a ta) (hb : PE X (.BoolOp .Or (b :: rest) pos) tb) : PE X (.BoolOp .Or (a :: b :: rest) pos) (tOrV ta tb) := by
  intro pins s σ H Q I h
  refine BoolOp_or (thn (ha pins s σ H _ I h) fun v s1 ⟨x, H1, I1, r1, q1⟩ => ?_)
  obtain ⟨c, rfl, q1⟩ := q1
  cases r1
  refine wpAny_truthy_bool ?_
  cases c with
  | false => exact hb pins s1 σ H1 Q I1 q1
  | true => exact ⟨.bl true, H1, I1, rfl, q1⟩
/-- a if t else b -/
def tIf (t : TT) (ta tb : TE) : TE := fun σ H Q => t σ H fun c H1 => if c = true then ta σ H1 Q else tb σ H1 Q
theorem pe_ifExp {c : Expr} (hc : PT X c tA) (ha : PE X a ta) (hb : PE X b tb) : PE X (.IfExp c a b pos) (tIf tA ta tb) := by
  intro pins s σ H Q I h
  refine wpAny_IfExp (thn (hc pins s σ H _ I h) fun d s1 ⟨H1, I1, q1⟩ => ?_)
  cases d with
  | true => exact ha pins s1 σ H1 Q I1 q1
  | false => exact hb pins s1 σ H1 Q I1 q1
end
end L2
namespace L2
open PySem PySem.Spec PyProof.Rows
def SqL (K : PySem.W.Frag) (H : Hp) (a : Addr) (xs : List V) : Prop :=
  Rd H a (.lst xs) ∨
    ∃ (o : Obj) (its : Array Value) (n : Nat), K.lookup a = some o ∧ o.cls = .type "list" ∧ o.dict = none ∧ o.data = .seq its n ∧ its.size ≤ sizeLine ∧ Vals xs its.toList
def SqT (K : PySem.W.Frag) (H : Hp) (a : Addr) (xs : List V) : Prop :=
  Rd H a (.tup xs) ∨
    ∃ (o : Obj) (its : Array Value) (n : Nat), K.lookup a = some o ∧ o.cls = .type "tuple" ∧ o.data = .seq its n ∧ its.size ≤ sizeLine ∧ Vals xs its.toList
def absV : Value → Option V
  | .none => some .non
  | .bool b => some (.bl b)
  | .int i _ => some (.int i)
  | .str x _ => some (.str x)
  | .bytes b _ => some (.byt b)
  | .float b _ => some (.flt b)
  | .ref a => some (.ref a)
  | .type n => some (.ty n)
  | _ => none
theorem RelV.abs {x : V} {u : Value} (r : RelV x u) : absV u = some x := by
  cases x with
  | non => cases r; rfl
  | bl _ => cases r; rfl
  | int _ => obtain ⟨t, rfl⟩ := r; rfl
  | str _ => obtain ⟨t, rfl⟩ := r; rfl
  | byt _ => obtain ⟨t, rfl⟩ := r; rfl
  | flt _ => obtain ⟨t, rfl⟩ := r; rfl
  | ref _ => cases r; rfl
  | ty _ => cases r; rfl
theorem RelV.inj {x y : V} {u : Value} (r : RelV x u) (q : RelV y u) : x = y := Option.some.inj (r.abs.symm.trans q.abs)
theorem Vals.inj : ∀ {xs ys : List V} {us : List Value}, Vals xs us → Vals ys us → xs = ys
  | _, _, _, .nil, .nil => rfl
  | _, _, _, .cons r t, .cons r' t' => by rw [r.inj r', Vals.inj t t']
section
variable {X : Cx} {pins : List (Addr × Obj)} {σ : St} {H : Hp} {s : Shared} {a : Addr} {xs ys : List V}
theorem SqL.of {K : PySem.W.Frag} (h : H a = some (.lst xs)) : SqL K H a xs := .inl (.inl h)
theorem SqT.of {K : PySem.W.Frag} (h : H a = some (.tup xs)) : SqT K H a xs := .inl (.inl h)
theorem Inv.list (I : Inv X pins σ H s) (h : SqL X.K H a xs) : ∃ its : List Value, Vals xs its ∧ PlainL s.heap a its.toArray ∧ xs.length ≤ sizeLine := by
  rcases h with h | ⟨o, its, n, hk, hc, hd, hs, hz, r⟩
  · obtain ⟨z, its, n, r, e⟩ := h.ok I.hok
    exact ⟨its, r, ⟨_, n, e, rfl, rfl, rfl⟩, z⟩
  · refine ⟨its.toList, r, ⟨o, n, I.kIn a o hk, hc, hd, by simpa using hs⟩, ?_⟩
    have e := r.length
    simp only [Array.length_toList] at e
    omega
theorem Inv.tuple (I : Inv X pins σ H s) (h : SqT X.K H a xs) : ∃ its : List Value, Vals xs its ∧ IsTup s.heap a its.toArray ∧ xs.length ≤ sizeLine := by
  rcases h with h | ⟨o, its, n, hk, hc, hs, hz, r⟩
  · obtain ⟨z, its, r, p⟩ := h.ok I.hok
    exact ⟨its, r, p, z⟩
  · refine ⟨its.toList, r, ⟨o, I.kIn a o hk, hc, n, by simpa using hs⟩, ?_⟩
    have e := r.length
    simp only [Array.length_toList] at e
    omega
theorem Inv.list_inj (I : Inv X pins σ H s) (h : SqL X.K H a xs) (h' : SqL X.K H a ys) : xs = ys := by
  obtain ⟨its, r, ⟨o, n, e, _, _, d⟩, _⟩ := I.list h
  obtain ⟨its', r', ⟨o', n', e', _, _, d'⟩, _⟩ := I.list h'
  rw [e] at e'; cases e'
  rw [d] at d'
  injection d' with d1 _
  have : its = its' := by simpa using congrArg Array.toList d1
  subst this
  exact r.inj r'
end
abbrev Cx.wish (X : Cx) (E : Value → Shared → Prop) : Cx := { X with xe := E }
/-- no exception leaves -/
abbrev Cx.nox (X : Cx) : Cx := X.wish fun _ _ => False
theorem Cx.Ok.wish {X : Cx} (ok : X.Ok) (E : Value → Shared → Prop) : (X.wish E).Ok :=
  ⟨ok.mod, ok.kind, ok.glob, ok.blt, ok.above, ok.inj, ok.has, ok.cab, ok.hd, ok.frames, ok.stk, ok.exf, ok.bs, ok.bsz, ok.noex, ok.exfs, ok.funs, ok.frf⟩
theorem Cx.Ok.unwish {X : Cx} {E : Value → Shared → Prop} (ok : (X.wish E).Ok) : X.Ok :=
  ⟨ok.mod, ok.kind, ok.glob, ok.blt, ok.above, ok.inj, ok.has, ok.cab, ok.hd, ok.frames, ok.stk, ok.exf, ok.bs, ok.bsz, ok.noex, ok.exfs, ok.funs, ok.frf⟩
section
variable {X : Cx} {pins : List (Addr × Obj)} {σ : St} {H : Hp} {s : Shared} {E : Value → Shared → Prop}
theorem Inv.wish (I : Inv X pins σ H s) (E : Value → Shared → Prop) : Inv (X.wish E) pins σ H s := ⟨I.ok.wish E, I.os, I.bare, I.base, I.loc, I.cell, I.free, I.freeC, I.pin, I.hok, I.len⟩
theorem Inv.unwish (I : Inv (X.wish E) pins σ H s) : Inv X pins σ H s := ⟨I.ok.unwish, I.os, I.bare, I.base, I.loc, I.cell, I.free, I.freeC, I.pin, I.hok, I.len⟩
theorem SP.unwish {D : Ends} {f : Flow} {s' : Shared} (h : SP (X.wish E) pins D f s') : SP X pins D f s' := by
  cases f with
  | next => obtain ⟨σ', H', I, q⟩ := h; exact ⟨σ', H', I.unwish, q⟩
  | brk => obtain ⟨σ', H', I, q⟩ := h; exact ⟨σ', H', I.unwish, q⟩
  | cont => obtain ⟨σ', H', I, q⟩ := h; exact ⟨σ', H', I.unwish, q⟩
  | ret u => obtain ⟨v, σ', H', I, r, q⟩ := h; exact ⟨v, σ', H', I.unwish, r, q⟩
theorem PE.nox {e : Expr} {t : TE} (h : PE X.nox e t) : PE X e t := fun pins s σ H Q I hw =>
  wpAny_mono (h pins s σ H Q (I.wish _) hw) (fun _ _ ⟨v, H', I', r, q⟩ => ⟨v, H', I'.unwish, r, q⟩) fun _ _ z => False.elim z
theorem PT.nox {e : Expr} {t : TT} (h : PT X.nox e t) : PT X e t := fun pins s σ H Q I hw =>
  wpAny_mono (h pins s σ H Q (I.wish _) hw) (fun _ _ ⟨H', I', q⟩ => ⟨H', I'.unwish, q⟩) fun _ _ z => False.elim z
theorem PSs.nox {st : List Stmt} {t : TS} (h : PSs X.nox st t) : PSs X st t := fun pins s σ H D I hw =>
  wpAny_mono (h pins s σ H D (I.wish _) hw) (fun _ _ q => q.unwish) fun _ _ z => False.elim z
end
section
variable {X : Cx} {st : Stmt} {rest : List Stmt} {t u : TS} {e : Expr} {te : TE} {pos : Pos}
def tNext : TS := fun D σ H => D.nx σ H
def tSeq (t u : TS) : TS := fun D σ H => t { D with nx := u D } σ H
theorem pss_nil : PSs X [] tNext := fun _ _ σ H _ I h => wpAny_execs_nil ⟨σ, H, I, h⟩
theorem pss_cons (h1 : PS X st t) (h2 : PSs X rest u) : PSs X (st :: rest) (tSeq t u) := by
  intro pins s σ H D I h
  refine wpAny_execs_cons (thn (h1 pins s σ H { D with nx := u D } I h) fun f s1 q => ?_)
  cases f with
  | next =>
    obtain ⟨σ', H', I', q⟩ := q
    exact h2 pins s1 σ' H' D I' q
  | ret v => exact q
  | brk => exact q
  | cont => exact q
theorem pss_one (h1 : PS X st t) : PSs X [st] t := by
  intro pins s σ H D I h
  refine wpAny_execs_cons (thn (h1 pins s σ H D I h) fun f s1 q => ?_)
  cases f with
  | next => exact wpAny_execs_nil q
  | ret v => exact q
  | brk => exact q
  | cont => exact q
/-- in a def's body nothing is shown -/
theorem Inv.quiet {pins : List (Addr × Obj)} {σ : St} {H : Hp} {s : Shared} (I : Inv X pins σ H s) : interactive X.env = false := by simp [interactive, I.ok.kind]
/-- an expression whose value is dropped -/
def tDrop (te : TE) : TS := fun D σ H => te σ H fun _ H1 => D.nx σ H1
theorem ps_expr (he : PE X e te) (hs : swapsWith e none pos.line X.env = pure false := by rfl) : PS X (.Expr e pos) (tDrop te) := by
  intro pins s σ H D I h
  exact wpAny_Expr_any (thn (he pins s σ H _ I h) fun v s1 ⟨x, H1, I1, r1, q1⟩ => ⟨σ, H1, I1, q1⟩) I.quiet hs
def tRet (te : TE) : TS := fun D σ H => te σ H D.rt
theorem ps_ret (he : PE X e te) : PS X (.Return (some e) pos) (tRet te) := by
  intro pins s σ H D I h
  exact wpAny_Return_some (thn (he pins s σ H _ I h) fun v s1 ⟨x, H1, I1, r1, q1⟩ => ⟨x, σ, H1, I1, r1, q1⟩)
def tIfS (c : TT) (t u : TS) : TS := fun D σ H => c σ H fun b H1 => if b = true then t D σ H1 else u D σ H1
theorem ps_if {c : Expr} {a b : List Stmt} {tc : TT} (hc : PT X c tc) (ha : PSs X a t) (hb : PSs X b u) : PS X (.If c a b pos) (tIfS tc t u) := by
  intro pins s σ H D I h
  refine wpAny_If (thn (hc pins s σ H _ I h) fun d s1 ⟨H1, I1, q1⟩ => ?_)
  cases d with
  | true => exact ha pins s1 σ H1 D I1 q1
  | false => exact hb pins s1 σ H1 D I1 q1
end
abbrev TG := V → St → Hp → (St → Hp → Prop) → Prop
abbrev TGs := List V → St → Hp → (St → Hp → Prop) → Prop
def PG (X : Cx) (target : Expr) (t : TG) : Prop :=
  ∀ (pins : List (Addr × Obj)) (s : Shared) (σ : St) (H : Hp) (v : V) (u : Value) (Q : St → Hp → Prop), Inv X pins σ H s → RelV v u → t v σ H Q →
    wpAny (model X.prog X.w) X.A (assign target X.env u) (fun _ s' => ∃ σ' H', Inv X pins σ' H' s' ∧ Q σ' H') X.xe s
/-- several targets, one after another -/
def PGs (X : Cx) (ts : List Expr) (t : TGs) : Prop :=
  ∀ (pins : List (Addr × Obj)) (s : Shared) (σ : St) (H : Hp) (vs : List V) (us : List Value) (Q : St → Hp → Prop), Inv X pins σ H s → Vals vs us → t vs σ H Q →
    wpAny (model X.prog X.w) X.A (assignInOrder ((assignEach ts X.env).map (·.2)) us) (fun _ s' => ∃ σ' H', Inv X pins σ' H' s' ∧ Q σ' H') X.xe s
/-- o[i] = v, by values -/
abbrev TSet := V → V → V → Hp → (Hp → Prop) → Prop
def PSet (X : Cx) (t : TSet) : Prop :=
  ∀ (pins : List (Addr × Obj)) (s : Shared) (σ : St) (H : Hp) (o i v : V) (ov iv u : Value) (Q : Hp → Prop), Inv X pins σ H s → RelV o ov → RelV i iv → RelV v u → t o i v H Q →
    wpAny (model X.prog X.w) X.A (setItem ov iv u) (fun _ s' => ∃ H', Inv X pins σ H' s' ∧ Q H') X.xe s
/-- a op= b, by values -/
abbrev TIp := V → V → Hp → VK → Prop
def PIp (X : Cx) (op : Operator) (t : TIp) : Prop :=
  ∀ (pins : List (Addr × Obj)) (s : Shared) (σ : St) (H : Hp) (x y : V) (v u : Value) (Q : VK), Inv X pins σ H s → RelV x v → RelV y u → t x y H Q →
    wpAny (model X.prog X.w) X.A (inplaceOp op v u) (EP X pins σ Q) X.xe s
section
variable {X : Cx} {pos : Pos}
def gName (i : Nat) : TG := fun v σ H Q => Q (σ.set i (some v)) H
theorem pg_name {i : Nat} {x : Str} (hN : X.N.Nodup) (hi : X.N[i]? = some x) (hx : Loc X.env.scope x) (hf : X.fn x = true ∨ X.env.scope.names.lookup x = some .local := by first | exact .inl rfl | exact .inr rfl | assumption) : PG X (.Name x pos) (gName i) := by
  intro pins s σ H v u Q I r h
  exact wpAny_assign_Name (store_ok I hN hi hx r (fun s' I' => ⟨_, H, I', h⟩) hf)
def gNil : TGs := fun vs σ H Q => vs = [] ∧ Q σ H
def gCons (t : TG) (u : TGs) : TGs := fun vs σ H Q => ∃ v r, vs = v :: r ∧ t v σ H fun σ' H' => u r σ' H' Q
theorem pgs_nil : PGs X [] gNil := by
  intro pins s σ H vs us Q I r h
  obtain ⟨e, h⟩ := h
  subst e
  cases r
  exact assignInOrder_nil ⟨σ, H, I, h⟩
theorem pgs_cons {e : Expr} {es : List Expr} {t : TG} {u : TGs} (h1 : PG X e t) (h2 : PGs X es u)
    (hs : (assignEach (e :: es) X.env).map (·.2) = assign e X.env :: (assignEach es X.env).map (·.2) := by rfl) : PGs X (e :: es) (gCons t u) := by
  intro pins s σ H vs us Q I r h
  obtain ⟨v, vr, e1, h⟩ := h
  subst e1
  cases r with
  | cons r rr =>
    rw [hs]
    refine assignInOrder_cons (thn (h1 pins s σ H _ _ _ I r h) fun _ s1 ⟨σ1, H1, I1, q1⟩ => ?_)
    exact h2 pins s1 σ1 H1 _ _ Q I1 rr q1
/-- (a, b, ..) = a tuple of that length -/
def gTup (K : PySem.W.Frag) (n : Nat) (t : TGs) : TG := fun v σ H Q => ∃ a xs, v = .ref a ∧ SqT K H a xs ∧ xs.length = n ∧ t xs σ H Q
theorem pg_tup {es : List Expr} {k : Nat} {t : TGs} {n : Nat} (hc : X.calm = true) (h : PGs X es t)
    (hn : (assignEach es X.env).length = n := by rfl) (hst : (assignEach es X.env).findIdx? (·.1) = none := by rfl) : PG X (.Tuple es k pos) (gTup X.K n t) := by
  intro pins s σ H v u Q I r hw
  obtain ⟨a, xs, e1, hq, hl, hw⟩ := hw
  subst e1
  cases r
  obtain ⟨its, rv, ht, hz⟩ := I.tuple hq
  refine assign_Tuple_tuple (I.ok.hd hc) ht (by simp [hn, ← hl, rv.length]) hst fun h' hx => ?_
  have I1 : Inv X pins σ H { s with heap := h' } := I.kept (t' := s.toks) fun b o e => hx b o (Nat.ne_of_lt (Heap.lt_size e)) e
  exact h pins _ σ H xs _ Q I1 (by simpa using rv) hw
/-- o[i] = .. -/
def gSub (to ti : TE) (t : TSet) : TG := fun v σ H Q => to σ H fun o H1 => ti σ H1 fun i H2 => t o i v H2 fun H3 => Q σ H3
theorem pg_sub {o i : Expr} {to ti : TE} {t : TSet} (ho : PE X o to) (hi : PE X i ti) (hs : PSet X t)
    (ha : ∀ v, assign (.Subscript o i pos) X.env v = (do
      let ov ← holding [v] (eval o X.env)
      let iv ← holding [v, ov] (eval i X.env)
      standAt pos
      holding [v, ov, iv] (setItem ov iv v)
      release [v, ov, iv] []) := by intro _; rfl) : PG X (.Subscript o i pos) (gSub to ti t) := by
  intro pins s σ H v u Q I r h
  rw [ha]
  refine wpAny_bind (wpAny_holding (thn (ho pins s σ H _ I h) fun ov s1 ⟨x, H1, I1, r1, q1⟩ => ?_))
  refine wpAny_bind (wpAny_holding (thn (hi pins s1 σ H1 _ I1 q1) fun iv s2 ⟨y, H2, I2, r2, q2⟩ => ?_))
  refine wpAny_bind (wpAny_standAt (wpAny_bind (wpAny_holding (thn (hs pins s2 σ H2 x y v ov iv u _ I2 r1 r2 r q2) fun _ s3 ⟨H3, I3, q3⟩ => ?_))))
  exact wpAny_release ⟨σ, H3, I3, q3⟩
/-- target = value -/
def tAsg (te : TE) (g : TG) : TS := fun D σ H => te σ H fun x H1 => g x σ H1 D.nx
theorem ps_asg {tg e : Expr} {te : TE} {g : TG} (he : PE X e te) (hg : PG X tg g) (hs : swapsWithSole [tg] e pos.line X.env = pure false := by rfl) (hw : swappedStores [tg] e X.env = pure none := by rfl)
    (h1 : (assignEach [tg] X.env).map (·.2) = [assign tg X.env] := by rfl) : PS X (.Assign [tg] e pos) (tAsg te g) := by
  intro pins s σ H D I h
  refine wpAny_Assign_stores (thn (he pins s σ H _ I h) fun v s1 ⟨x, H1, I1, r1, q1⟩ => ?_) hs hw
  rw [h1]
  exact thn (hg pins s1 σ H1 x v _ I1 r1 q1) fun _ s2 q => q
/-- name = value -/
theorem ps_set {i : Nat} {x : Str} {e : Expr} {te : TE} {pos' : Pos} (hN : X.N.Nodup) (hi : X.N[i]? = some x) (hx : Loc X.env.scope x) (he : PE X e te) (hs : swapsWith e (some (.Name x pos')) pos.line X.env = pure false := by rfl) (hf : X.fn x = true ∨ X.env.scope.names.lookup x = some .local := by first | exact .inl rfl | exact .inr rfl | assumption) :
    PS X (.Assign [.Name x pos'] e pos) (tAsg te (gName i)) := by
  intro pins s σ H D I h
  refine wpAny_Assign_Name (thn (he pins s σ H _ I h) fun v s1 ⟨y, H1, I1, r1, q1⟩ => ?_) hs
  exact store_ok I1 hN hi hx r1 (fun s2 I2 => ⟨_, H1, I2, q1⟩) hf
/-- name op= e -/
def tAug (i : Nat) (te : TE) (ti : TIp) : TS := fun D σ H => ∃ x, σ[i]? = some (some x) ∧ te σ H fun y H1 => ti x y H1 fun z H2 => D.nx (σ.set i (some z)) H2
theorem ps_aug {i : Nat} {x : Str} {e : Expr} {te : TE} {op : Operator} {ti : TIp} {pos' : Pos} (hN : X.N.Nodup) (hi : X.N[i]? = some x) (hx : Loc X.env.scope x) (he : PE X e te) (ho : PIp X op ti) (hf : X.fn x = true ∨ X.env.scope.names.lookup x = some .local := by first | exact .inl rfl | exact .inr rfl | assumption) :
    PS X (.AugAssign (.Name x pos') op e pos) (tAug i te ti) := by
  intro pins s σ H D I h
  obtain ⟨v, e1, h⟩ := h
  obtain ⟨m, hn, hl⟩ := I.loc
  have vis : Vis X.env.scope x := by rcases hx with k | k; exact .inl k; exact .inr (.inl k)
  obtain ⟨u, r, l⟩ := hl i x v hi e1 vis
  refine wpAny_AugAssign_Name ?_
  have go : wpAny (model X.prog X.w) X.A (eval e X.env) (fun w s₂ => wpAny (model X.prog X.w) X.A (inplaceOp op u w) (fun r s₃ => wpAny (model X.prog X.w) X.A (storeName X.env x r) (fun _ => SP X pins D .next) X.xe s₃) X.xe s₂) X.xe s := by
    refine thn (he pins s σ H _ I h) fun w s1 ⟨y, H1, I1, r1, q1⟩ => ?_
    refine thn (ho pins s1 σ H1 v y u w _ I1 r r1 q1) fun z s2 ⟨zv, H2, I2, r2, q2⟩ => ?_
    exact store_ok I2 hN hi hx r2 (fun s3 I3 => ⟨_, H2, I3, q2⟩) hf
  rcases l with ⟨hk, hm⟩ | ⟨hk, c, hc, hcell⟩
  · exact wpAny_loadName_local I.ok.kind hk hn hm go
  · rcases hk with hk | hk
    · exact wpAny_loadName_cell I.ok.kind hk hc hcell go
    · rcases hx with k | k
      · have : X.env.scope.names.lookup x = some .free := hk
        rw [k] at this; cases this
      · have : X.env.scope.names.lookup x = some .free := hk
        rw [k] at this; cases this
/-- ints -/
def ipI (f : Int → Int → Int) : TIp := fun x y H Q => ∃ i j, x = .int i ∧ y = .int j ∧ Q (.int (f i j)) H
theorem ip_add : PIp X .Add (ipI fun i j => i + j) := by
  intro pins s σ H x y v u Q I r1 r2 h
  obtain ⟨i, j, e1, e2, q⟩ := h
  subst e1; subst e2
  obtain ⟨t, rfl⟩ := r1
  obtain ⟨t', rfl⟩ := r2
  exact iadd_int ⟨.int _, H, I.tok _, ⟨_, rfl⟩, q⟩
end
section
variable {X : Cx} {pos : Pos}
/-- the invariant W with its measure -/
def tWhile (c : TT) (tb : TS) : TS := fun D σ H => ∃ W : Nat → St → Hp → Prop, (∃ m, W m σ H) ∧ ∀ m σ H, W m σ H →
  c σ H fun b H1 => if b = true then ∃ N : St → Hp → Prop, (∀ σ' H', N σ' H' → ∃ m', m' < m ∧ W m' σ' H') ∧ tb { D with nx := N, ct := N, bk := D.nx } σ H1 else D.nx σ H1
theorem ps_while {c : Expr} {body : List Stmt} {tc : TT} {tb : TS} (hp : PassesOwn (model X.prog X.w) X.A X.env X.xe) (hc : PT X c tc) (hb : PSs X body tb) : PS X (.While c body [] pos) (tWhile tc tb) := by
  intro pins s σ H D I h
  obtain ⟨W, ⟨m0, w0⟩, turn⟩ := h
  refine wpAny_While (codeAny_whileLoop (fun n s' => ∃ σ' H', Inv X pins σ' H' s' ∧ W n σ' H') ?_ m0 ⟨σ, H, I, w0⟩)
  rintro n s1 ⟨σ1, H1, I1, w1⟩
  refine wpAny_passesOwn hp (thn (hc pins s1 σ1 H1 _ I1 (turn n σ1 H1 w1)) fun b s2 ⟨H2, I2, q2⟩ => ?_)
  cases b with
  | true =>
    obtain ⟨N, hN, q2⟩ := q2
    rw [if_pos rfl]
    refine wpAny_passesOwn hp (thn (hb pins s2 σ1 H2 _ I2 q2) fun f s3 q3 => ?_)
    cases f with
    | next =>
      obtain ⟨σ3, H3, I3, n3⟩ := q3
      obtain ⟨m', hm, w3⟩ := hN σ3 H3 n3
      exact ⟨m', hm, σ3, H3, I3, w3⟩
    | cont =>
      obtain ⟨σ3, H3, I3, n3⟩ := q3
      obtain ⟨m', hm, w3⟩ := hN σ3 H3 n3
      exact ⟨m', hm, σ3, H3, I3, w3⟩
    | brk => exact q3
    | ret v => exact q3
  | false =>
    rw [if_neg Bool.false_ne_true]
    exact wpAny_execs_nil ⟨σ1, H2, I2, q2⟩
end
/-- at turn i: it yields x (the heap may grow), or it stops -/
structure It where
  go : Nat → Hp → Prop
  yld : Nat → Hp → V → Hp → Prop
  stop : Nat → Hp → Prop
/-- the iterator's own objects may turn: they are not the frame's, not pinned, younger than the entry (or a comprehension's own) -/
def FpOk (X : Cx) (pins : List (Addr × Obj)) (H : Hp) (b : Addr) : Prop :=
  H b = none ∧ b ≠ X.env.locals ∧ b ∉ X.fs ∧ (b ∈ X.ex ∨ X.s_0.heap.objs.size ≤ b) ∧ (∀ x c, X.env.cells.lookup x = some c → c ≠ b) ∧ ∀ p ∈ X.pn ++ pins, p.1 ≠ b
theorem Inv.fpOk {X : Cx} {pins : List (Addr × Obj)} {σ : St} {H H' : Hp} {s : Shared} {b : Addr} (I : Inv X pins σ H s) (hb : s.heap.objs.size ≤ b) (hn : H' b = none) : FpOk X pins H' b := by
  refine ⟨hn, Nat.ne_of_gt (Nat.lt_of_lt_of_le I.lt hb), I.nofs hb, .inr (Nat.le_trans I.sz hb), fun x c e z => ?_, fun p hp z => ?_⟩
  · obtain ⟨v, q⟩ := I.cell x c e
    exact absurd (Nat.lt_of_lt_of_le q.lt (by rw [z]; exact hb)) (Nat.lt_irrefl _)
  · exact absurd (Nat.lt_of_lt_of_le (Heap.lt_size (I.pin p hp).1) (by rw [z]; exact hb)) (Nat.lt_irrefl _)
structure Turn (P : Program) (w : World) (K : PySem.W.Frag) (tg : Expr) (J : It) (fp : List Addr) (it : Addr) (tn : Nat → Heap → Prop) : Prop where
  mem : it ∈ fp
  obj : ∀ i h, tn i h → ∀ b ∈ fp, ∃ o, h.get? b = some o ∧ ∀ v, o.data ≠ .cell v
  keep : ∀ i h h', tn i h → (∀ b ∈ fp, ∀ o, h.get? b = some o → h'.get? b = some o) → tn i h'
  item : ∀ (X : Cx), X.prog = P → X.w = w → X.K = K → X.calm = true → ∀ (i : Nat) (pins : List (Addr × Obj)) (s : Shared) (σ : St) (H : Hp) (E : Value → Shared → Prop), Inv X pins σ H s → (∀ b ∈ fp, FpOk X pins H b) → tn i s.heap → J.go i H →
    wpAny (model P w) X.A (pyNext (.ref it)) (fun r s1 => ∃ u, r = some u ∧
      wpAny (model P w) X.A (letOwnedTupleGo tg (.ref it) u) (fun _ s2 => ∃ x H', Inv X pins σ H' s2 ∧ RelV x u ∧ J.yld i H x H' ∧ tn (i + 1) s2.heap ∧ ∀ b ∈ fp, H' b = none) E s1) E s
  done : ∀ (X : Cx), X.prog = P → X.w = w → X.K = K → X.calm = true → ∀ (i : Nat) (pins : List (Addr × Obj)) (s : Shared) (σ : St) (H : Hp) (E : Value → Shared → Prop), Inv X pins σ H s → (∀ b ∈ fp, FpOk X pins H b) → tn i s.heap → J.stop i H →
    wpAny (model P w) X.A (pyNext (.ref it)) (fun r s1 => r = none ∧ Inv X pins σ H s1) E s
  self : ∀ (A : Around) (i : Nat) (s : Shared) (Q : Value → Shared → Prop) (E : Value → Shared → Prop), tn i s.heap → Q (.ref it) s → wpAny (model P w) A (pyIter (.ref it)) Q E s
abbrev TI := St → Hp → (It → Hp → Prop) → Prop
/-- an iterator has come -/
def PIE (X : Cx) (pins : List (Addr × Obj)) (σ : St) (tg : Expr) (R : It → Hp → Prop) (itv : Value) (s2 : Shared) : Prop :=
  ∃ (it : Addr) (fp : List Addr) (tn : Nat → Heap → Prop) (J : It) (H' : Hp), itv = .ref it ∧ Inv X pins σ H' s2 ∧ Turn X.prog X.w X.K tg J fp it tn ∧ tn 0 s2.heap ∧ (∀ b ∈ fp, FpOk X pins H' b) ∧ R J H'
def PI (X : Cx) (tg iter : Expr) (wi : TI) : Prop :=
  ∀ (pins : List (Addr × Obj)) (s : Shared) (σ : St) (H : Hp) (R : It → Hp → Prop), Inv X pins σ H s → wi σ H R →
    wpAny (model X.prog X.w) X.A (eval iter X.env) (fun v s1 => wpAny (model X.prog X.w) X.A (pyIter v) (PIE X pins σ tg R) X.xe s1) X.xe s

/-- the step ahead of the store is nothing for an iterator that keeps no tuple -/
theorem go_of {M : Model} {A : Around} {E : Value → Shared → Prop} {s : Shared} {tg : Expr} {it : Addr} {u : Value} {o : Obj} {n : String} {vs : Array Value} {Q : Unit → Shared → Prop} (ho : s.heap.get? it = some o) (hc : o.cls = .type n) (hd : o.data = .fields vs)
    (hn : ["enumerate", "zip", "dict_itemiterator", "dict_reverseitemiterator", "odict_iterator", "itertools.zip_longest", "itertools.pairwise"].contains n = false) (hQ : Q () s) : wpAny M A (letOwnedTupleGo tg (.ref it) u) Q E s := by
  unfold letOwnedTupleGo
  cases tg <;> first
    | exact wpAny_pure hQ
    | (cases u <;> first
        | exact wpAny_pure hQ
        | (refine wpAny_bind (wpAny_load ho ?_)
           rw [hc, hd]
           show wpAny M A (if (["enumerate", "zip", "dict_itemiterator", "dict_reverseitemiterator", "odict_iterator", "itertools.zip_longest", "itertools.pairwise"].contains n && vs[0]? == some (rawInt _)) = true then _ else _) Q E s
           rw [if_neg (by intro h; rw [hn, Bool.false_and] at h; cases h)]
           exact wpAny_pure hQ))

/-- the list at a, as it stands at each turn (a loop may append to it) -/
def Itl (K : PySem.W.Frag) (a : Addr) : It :=
  ⟨fun i H => ∃ xs x, SqL K H a xs ∧ xs[i]? = some x, fun i H x H' => H' = H ∧ ∀ xs, SqL K H a xs → xs[i]? = some x, fun i H => ∃ xs, SqL K H a xs ∧ xs.length ≤ i⟩
/-- lo, lo + 1, .. (n of them) -/
def Itr (lo : Int) (n : Nat) : It := ⟨fun i _ => i < n, fun i H x H' => H' = H ∧ x = .int (lo + i), fun i _ => n ≤ i⟩
theorem turn_list {P : Program} {w : World} {K : PySem.W.Frag} {tg : Expr} (a it : Addr) : Turn P w K tg (Itl K a) [it] it (fun i h => h.IsListIter it a i) where
  mem := by simp
  obj := fun i h st b hb => by
    have e : b = it := by simpa using hb
    subst e
    obtain ⟨o, e, c, d⟩ := st
    exact ⟨o, e, fun v z => by rw [d] at z; cases z⟩
  keep := fun i h h' st k => st.at fun o e => k it (by simp) o e
  item := by
    intro X hP hw hK hc i pins s σ H E I hf st hg
    subst hP hw hK
    obtain ⟨xs, x, hq, hx⟩ := hg
    obtain ⟨its, rv, p, hz⟩ := I.list hq
    obtain ⟨u, hu, ru⟩ := rv.get hx
    obtain ⟨f0, f1, f2, f3, f4, f5⟩ := hf it (by simp)
    refine wpAny_pyNext_list_item st p.isList (x := u) (by simpa using hu) fun h' st' sb => ?_
    have I1 : Inv X pins σ H { s with heap := h' } := I.turned (t' := s.toks) (fun b o hb e => (sb.2 b hb).trans e) f0 f1 f3 f4 f5
    obtain ⟨o, e, c, d⟩ := id st'
    exact ⟨u, rfl, go_of (s := { s with heap := h' }) e c d (by decide) ⟨x, H, I1, ru, ⟨rfl, fun ys hy => by rw [I.list_inj hy hq]; exact hx⟩, st', fun b hb => (hf b hb).1⟩⟩
  done := by
    intro X hP hw hK hc i pins s σ H E I hf st hg
    subst hP hw hK
    obtain ⟨xs, hq, hx⟩ := hg
    obtain ⟨its, rv, p, hz⟩ := I.list hq
    obtain ⟨f0, f1, f2, f3, f4, f5⟩ := hf it (by simp)
    have hl := rv.length
    exact wpAny_pyNext_list_end (I.ok.hd hc) st p.isList (by simp; omega) fun h' eb => ⟨rfl, I.turned (t' := s.toks) (fun b o hb e => eb b o hb e) f0 f1 f3 f4 f5⟩
  self := fun _ _ _ _ _ st h => wpAny_pyIter_listiter st h
theorem turn_range {P : Program} {w : World} {K : PySem.W.Frag} {tg : Expr} (it : Addr) (lo : Int) (n : Nat) : Turn P w K tg (Itr lo n) [it] it (fun i h => IsRangeIter h it (lo + (i : Nat) * 1) ((n : Int) - (i : Nat)) 1) where
  mem := by simp
  obj := fun i h st b hb => by
    have e : b = it := by simpa using hb
    subst e
    exact ⟨_, st, fun v z => by
      have z' : Data.fields _ = Data.cell v := z
      cases z'⟩
  keep := fun i h h' st k => k it (by simp) _ st
  item := by
    intro X hP hw hK hc i pins s σ H E I hf st hg
    subst hP hw hK
    obtain ⟨f0, f1, f2, f3, f4, f5⟩ := hf it (by simp)
    have W := Walks.range (prog := X.prog) (w := X.w) (I.ok.hd hc) it lo 1 n
    refine W.item i s _ _ hg st fun v h' tk hv st' kk => ?_
    obtain ⟨t, rfl⟩ := hv
    have I1 : Inv X pins σ H { s with heap := h', toks := tk } := I.turned (fun b o hb e => kk b o (by simpa using hb) e) f0 f1 f3 f4 f5
    refine ⟨_, rfl, go_of (s := { s with heap := h', toks := tk }) (n := "range_iterator") st' rfl rfl (by decide) ⟨.int (lo + i), H, I1, ⟨t, ?_⟩, ⟨rfl, rfl⟩, st', fun b hb => (hf b hb).1⟩⟩
    rw [Int.mul_one]
  done := by
    intro X hP hw hK hc i pins s σ H E I hf st hg
    subst hP hw hK
    obtain ⟨f0, f1, f2, f3, f4, f5⟩ := hf it (by simp)
    exact wpAny_pyNext_range_end (I.ok.hd hc) st (by have : n ≤ i := hg; omega) fun h' eb => ⟨rfl, I.turned (t' := s.toks) (fun b o hb e => eb b o hb e) f0 f1 f3 f4 f5⟩
  self := fun _ _ _ _ _ st h => wpAny_pyIter_rangeiter st h
end L2
namespace L2
open PySem PySem.Spec PyProof.Rows
section
variable {X : Cx} {tg : Expr}
def iList (K : PySem.W.Frag) (tl : TE) : TI := fun σ H R => tl σ H fun x H1 => ∃ a, x = .ref a ∧ (∃ xs, SqL K H1 a xs) ∧ R (Itl K a) H1
theorem pi_list {l : Expr} {tl : TE} (hl : PE X l tl) : PI X tg l (iList X.K tl) := by
  intro pins s σ H R I h
  refine thn (hl pins s σ H _ I h) fun v s1 ⟨x, H1, I1, r1, q1⟩ => ?_
  obtain ⟨a, e, ⟨xs, hq⟩, q⟩ := q1
  subst e
  cases r1
  obtain ⟨its, rv, p, hz⟩ := I1.list hq
  refine wpAny_pyIter_list p.isList ?_
  refine ⟨s1.heap.objs.size, [s1.heap.objs.size], _, _, H1, rfl, I1.kept (t' := s1.toks) fun b o e => Heap.get?_push_of_some _ e, turn_list a _, ⟨_, Heap.get?_push_size _ rfl, rfl, rfl⟩, fun b hb => ?_, q⟩
  have e : b = s1.heap.objs.size := by simpa using hb
  subst e
  exact I1.fpOk (Nat.le_refl _) (I1.hok.fresh (Nat.le_refl _))
/-- a range object just made, walked -/
theorem range_it {pins : List (Addr × Obj)} {σ : St} {H : Hp} {s : Shared} {R : It → Hp → Prop} {E : Value → Shared → Prop} {lo hi : Int} {t u v : Tok} {tk : Nat} (I : Inv X pins σ H s) (h1 : -(2 ^ 62) ≤ lo) (h2 : lo < 2 ^ 62) (h3 : -(2 ^ 62) ≤ hi) (h4 : hi < 2 ^ 62)
    (q : R (Itr lo (hi - lo).toNat) H) : wpAny (model X.prog X.w) X.A (pyIter (.ref s.heap.objs.size)) (PIE X pins σ tg R) E { s with heap := s.heap.push { cls := .type "range", data := .fields #[.int lo t, .int hi u, .int 1 v] }, toks := tk } := by
  refine wpAny_pyIter_range (IsRange.new ..) (small_one h1 h2 h3 h4) ?_
  have I1 : Inv X pins σ H { s with heap := s.heap.push { cls := .type "range", data := .fields #[.int lo t, .int hi u, .int 1 v] }, toks := tk } := I.kept fun b o e => Heap.get?_push_of_some _ e
  refine ⟨(s.heap.push { cls := .type "range", data := .fields #[.int lo t, .int hi u, .int 1 v] }).objs.size, [(s.heap.push { cls := .type "range", data := .fields #[.int lo t, .int hi u, .int 1 v] }).objs.size], _, _, H, rfl,
    I1.kept (t' := tk) fun b o e => Heap.get?_push_of_some _ e, turn_range _ lo (hi - lo).toNat, ?_, fun b hb => ?_, q⟩
  · have e1 : lo + ((0 : Nat) : Int) * 1 = lo := by simp
    have e2 : (((hi - lo).toNat : Nat) : Int) - ((0 : Nat) : Int) = Builtin.Range.rangeSize lo hi 1 := by rw [rangeSize_one]; split <;> omega
    show IsRangeIter _ _ (lo + ((0 : Nat) : Int) * 1) ((((hi - lo).toNat : Nat) : Int) - ((0 : Nat) : Int)) 1
    rw [e1, e2]
    exact Heap.get?_push_size _ rfl
  · have e : b = (s.heap.push { cls := .type "range", data := .fields #[.int lo t, .int hi u, .int 1 v] }).objs.size := by simpa using hb
    subst e
    exact I1.fpOk (Nat.le_refl _) (I1.hok.fresh (Nat.le_refl _))
def iRng1 (ta : TA) : TI := fun σ H R => ta σ H fun vs H1 => ∃ j : Int, vs = [.int j] ∧ -(2 ^ 62) ≤ j ∧ j < 2 ^ 62 ∧ R (Itr 0 j.toNat) H1
def iRng2 (ta : TA) : TI := fun σ H R => ta σ H fun vs H1 => ∃ i j : Int, vs = [.int i, .int j] ∧ (-(2 ^ 62) ≤ i ∧ i < 2 ^ 62 ∧ -(2 ^ 62) ≤ j ∧ j < 2 ^ 62) ∧ R (Itr i (j - i).toNat) H1
theorem pi_range1 {a : Expr} {ta : TA} {p pos : Pos} (hg : Gl X "range") (hm : X.mg "range" = none) (ha : PA X [a] ta) (hs : starEach [a] X.env = [(false, eval a X.env)] := by rfl) : PI X tg (.Call (.Name "range" p) [a] [] pos) (iRng1 ta) := by
  intro pins s σ H R I h
  refine Call_ (ld_blt I hg hm boot_range (PyProof.Rows.callWith_type1 (thn (ha pos pins s σ H _ I h) fun us s1 ⟨vs, H1, I1, r1, q1⟩ => ?_) hs rfl))
  obtain ⟨j, e, q1, q2, q⟩ := q1
  subst e
  cases r1 with
  | cons r rr =>
    cases rr
    obtain ⟨t, rfl⟩ := r
    exact call_range_1 (range_it I1 (by omega) (by omega) q1 q2 (by simpa using q))
theorem pi_range2 {a b : Expr} {ta : TA} {p pos : Pos} (hg : Gl X "range") (hm : X.mg "range" = none) (ha : PA X [a, b] ta) (hs : starEach [a, b] X.env = [(false, eval a X.env), (false, eval b X.env)] := by rfl) (hs2 : starEach [b] X.env = [(false, eval b X.env)] := by rfl) :
    PI X tg (.Call (.Name "range" p) [a, b] [] pos) (iRng2 ta) := by
  intro pins s σ H R I h
  refine Call_ (ld_blt I hg hm boot_range (PyProof.Rows.callWith_type1 (thn (ha pos pins s σ H _ I h) fun us s1 ⟨vs, H1, I1, r1, q1⟩ => ?_) (by rw [hs, hs2]) (by rw [hs2]; rfl)))
  obtain ⟨i, j, e, ⟨q1, q2, q3, q4⟩, q⟩ := q1
  subst e
  cases r1 with
  | cons r rr =>
    cases rr with
    | cons r' rr =>
      cases rr
      obtain ⟨t, rfl⟩ := r
      obtain ⟨t', rfl⟩ := r'
      exact call_range_2 (range_it I1 q1 q2 q3 q4 q)

/-- W: the invariant by the turn and a measure; N: what the body is to reach -/
def tFor (wi : TI) (g : TG) (tb : TS) : TS := fun D σ H => wi σ H fun J H1 => ∃ W : Nat → Nat → St → Hp → Prop, (∃ m, W 0 m σ H1) ∧ ∀ i m σ H, W i m σ H →
  (J.stop i H ∧ D.nx σ H) ∨ (J.go i H ∧ ∃ N : St → Hp → Prop, (∀ σ' H', N σ' H' → ∃ m', m' < m ∧ W (i + 1) m' σ' H') ∧ ∀ x H', J.yld i H x H' → g x σ H' fun σ2 H2 => tb { D with nx := N, ct := N, bk := D.nx } σ2 H2)
/-- the records at fp as they stand -/
def pinsAt (fp : List Addr) (h : Heap) : List (Addr × Obj) := fp.filterMap fun b => (h.get? b).map fun o => (b, o)
theorem mem_pinsAt {fp : List Addr} {h : Heap} {b : Addr} {o : Obj} (hb : b ∈ fp) (e : h.get? b = some o) : (b, o) ∈ pinsAt fp h := List.mem_filterMap.mpr ⟨b, hb, by rw [e]; rfl⟩
theorem of_pinsAt {fp : List Addr} {h : Heap} {p : Addr × Obj} (hp : p ∈ pinsAt fp h) : p.1 ∈ fp ∧ h.get? p.1 = some p.2 := by
  obtain ⟨b, hb, e⟩ := List.mem_filterMap.mp hp
  cases q : h.get? b with
  | none => rw [q] at e; cases e
  | some o =>
    rw [q] at e
    have e' : (b, o) = p := Option.some.inj e
    subst e'
    exact ⟨hb, q⟩
theorem Inv.pinned {pins : List (Addr × Obj)} {σ : St} {H : Hp} {s : Shared} {fp : List Addr} (I : Inv X pins σ H s) (hf : ∀ b ∈ fp, FpOk X pins H b) (ho : ∀ b ∈ fp, ∃ o, s.heap.get? b = some o ∧ ∀ v, o.data ≠ .cell v) : Inv X (pins ++ pinsAt fp s.heap) σ H s :=
  I.pins_of fun p hp => (List.mem_append.mp hp).elim (fun z => I.pin p (List.mem_append_right _ z)) fun z => by
    obtain ⟨hb, e⟩ := of_pinsAt z
    obtain ⟨f0, f1, f2, _⟩ := hf p.1 hb
    obtain ⟨o, e', d⟩ := ho p.1 hb
    rw [e] at e'; cases e'
    exact ⟨e, f0, f1, f2, d⟩
theorem Inv.unpinned {pins pl : List (Addr × Obj)} {σ : St} {H : Hp} {s : Shared} (I : Inv X (pins ++ pl) σ H s) : Inv X pins σ H s := I.pins_of fun p hp => I.pin p (List.mem_append_right _ (List.mem_append_left _ hp))
theorem ps_for {iter : Expr} {body : List Stmt} {wi : TI} {g : TG} {tb : TS} {pos : Pos} (hp : PassesOwn (model X.prog X.w) X.A X.env X.xe) (hc : X.calm = true) (hi : PI X tg iter wi) (hg : PG X tg g) (hb : PSs X body tb)
    (hs : ∀ x, foldedSetIterable iter X.env x = pure x := by intro _; rfl) : PS X (.For tg iter body [] pos) (tFor wi g tb) := by
  intro pins s σ H D I h
  refine wpAny_For (thn (hi pins s σ H _ I h) fun v s1 h1 => thn h1 fun itv s2 h2 => ?_) hs
  obtain ⟨it, fp, tn, J, H2, e, I2, T, st2, f2, W, ⟨m0, w0⟩, turn⟩ := h2
  subst e
  -- what stays true of the iterator's objects through the loop
  have stat : ∀ {H' : Hp}, (∀ b ∈ fp, H' b = none) → ∀ b ∈ fp, FpOk X pins H' b := fun hn b hb => ⟨hn b hb, (f2 b hb).2⟩
  refine codeAny_forLoop_any (fun n s' => ∃ i σ' H', Inv X pins σ' H' s' ∧ tn i s'.heap ∧ (∀ b ∈ fp, H' b = none) ∧ W i n σ' H') ?_ m0 ⟨0, σ, H2, I2, st2, fun b hb => (f2 b hb).1, w0⟩
  rintro n s3 ⟨i, σ3, H3, I3, st3, fr3, w3⟩
  rcases turn i n σ3 H3 w3 with ⟨stop, qn⟩ | ⟨go, N, hN, step⟩
  · refine wpAny_passesOwn hp (thn (T.done X rfl rfl rfl hc i pins s3 σ3 H3 X.xe I3 (stat fr3) st3 stop) fun r s4 ⟨hr, I4⟩ => ?_)
    subst hr
    exact wpAny_execs_nil ⟨σ3, H3, I4, qn⟩
  · refine wpAny_passesOwn hp (thn (T.item X rfl rfl rfl hc i pins s3 σ3 H3 X.xe I3 (stat fr3) st3 go) fun r s4 ⟨u, hr, h4⟩ => ?_)
    subst hr
    refine wpAny_passesOwn hp (thn h4 fun _ s5 ⟨x, H5, I5, r5, y5, st5, fr5⟩ => ?_)
    have I5' := I5.pinned (stat fr5) (T.obj _ _ st5)
    refine wpAny_passesOwn hp (thn (hg _ s5 σ3 H5 x u _ I5' r5 (step x H5 y5)) fun _ s6 ⟨σ6, H6, I6, q6⟩ => ?_)
    refine wpAny_passesOwn hp (thn (hb _ s6 σ6 H6 _ I6 q6) fun f s7 q7 => ?_)
    have again : ∀ {σ7 : St} {H7 : Hp}, Inv X (pins ++ pinsAt fp s5.heap) σ7 H7 s7 → N σ7 H7 → ∃ m, m < n ∧ ∃ i σ' H', Inv X pins σ' H' s7 ∧ tn i s7.heap ∧ (∀ b ∈ fp, H' b = none) ∧ W i m σ' H' := fun {σ7 H7} I7 n7 => by
      obtain ⟨m', hm, w7⟩ := hN σ7 H7 n7
      refine ⟨m', hm, i + 1, σ7, H7, I7.unpinned, T.keep _ _ _ st5 fun b hb o e => (I7.pin (b, o) (List.mem_append_right _ (List.mem_append_right _ (mem_pinsAt hb e)))).1, fun b hb => ?_, w7⟩
      obtain ⟨o, e, d⟩ := T.obj _ _ st5 b hb
      exact (I7.pin (b, o) (List.mem_append_right _ (List.mem_append_right _ (mem_pinsAt hb e)))).2.1
    cases f with
    | next => obtain ⟨σ7, H7, I7, n7⟩ := q7; exact again I7 n7
    | cont => obtain ⟨σ7, H7, I7, n7⟩ := q7; exact again I7 n7
    | brk => obtain ⟨σ7, H7, I7, q7⟩ := q7; exact ⟨σ7, H7, I7.unpinned, q7⟩
    | ret v => obtain ⟨x7, σ7, H7, I7, r7, q7⟩ := q7; exact ⟨x7, σ7, H7, I7.unpinned, r7, q7⟩
end
/-- over a list that the body leaves as it is -/
theorem for_list {K : PySem.W.Frag} {a : Addr} {xs : List V} {g : TG} {tb : TS} {D : Ends} {σ : St} {H : Hp} (Pv : Nat → St → Hp → Prop) (h0 : Pv 0 σ H) (hl : ∀ i σ H, i ≤ xs.length → Pv i σ H → SqL K H a xs)
    (hs : ∀ i x σ H, xs[i]? = some x → Pv i σ H → g x σ H fun σ2 H2 => tb { D with nx := Pv (i + 1), ct := Pv (i + 1), bk := D.nx } σ2 H2) (hd : ∀ σ H, Pv xs.length σ H → D.nx σ H) :
    ∃ W : Nat → Nat → St → Hp → Prop, (∃ m, W 0 m σ H) ∧ ∀ i m σ H, W i m σ H →
      ((Itl K a).stop i H ∧ D.nx σ H) ∨ ((Itl K a).go i H ∧ ∃ N : St → Hp → Prop, (∀ σ' H', N σ' H' → ∃ m', m' < m ∧ W (i + 1) m' σ' H') ∧ ∀ x H', (Itl K a).yld i H x H' → g x σ H' fun σ2 H2 => tb { D with nx := N, ct := N, bk := D.nx } σ2 H2) := by
  refine ⟨fun i m σ H => m = xs.length - i ∧ i ≤ xs.length ∧ Pv i σ H, ⟨xs.length, by simp, Nat.zero_le _, h0⟩, ?_⟩
  rintro i m σ H ⟨rfl, hi, p⟩
  have q := hl i σ H hi p
  by_cases hlt : i < xs.length
  · refine .inr ⟨⟨xs, xs[i], q, by simp [hlt]⟩, Pv (i + 1), fun σ' H' p' => ⟨xs.length - (i + 1), by omega, rfl, hlt, p'⟩, fun x H' y => ?_⟩
    obtain ⟨e, y⟩ := y
    subst e
    exact hs i x σ _ (y xs q) p
  · have e : i = xs.length := by omega
    subst e
    exact .inl ⟨⟨xs, q, Nat.le_refl _⟩, hd σ H p⟩
theorem for_range {lo : Int} {n : Nat} {g : TG} {tb : TS} {D : Ends} {σ : St} {H : Hp} (Pv : Nat → St → Hp → Prop) (h0 : Pv 0 σ H)
    (hs : ∀ i σ H, i < n → Pv i σ H → g (.int (lo + i)) σ H fun σ2 H2 => tb { D with nx := Pv (i + 1), ct := Pv (i + 1), bk := D.nx } σ2 H2) (hd : ∀ σ H, Pv n σ H → D.nx σ H) :
    ∃ W : Nat → Nat → St → Hp → Prop, (∃ m, W 0 m σ H) ∧ ∀ i m σ H, W i m σ H →
      ((Itr lo n).stop i H ∧ D.nx σ H) ∨ ((Itr lo n).go i H ∧ ∃ N : St → Hp → Prop, (∀ σ' H', N σ' H' → ∃ m', m' < m ∧ W (i + 1) m' σ' H') ∧ ∀ x H', (Itr lo n).yld i H x H' → g x σ H' fun σ2 H2 => tb { D with nx := N, ct := N, bk := D.nx } σ2 H2) := by
  refine ⟨fun i m σ H => m = n - i ∧ i ≤ n ∧ Pv i σ H, ⟨n, by simp, Nat.zero_le _, h0⟩, ?_⟩
  rintro i m σ H ⟨rfl, hi, p⟩
  by_cases hlt : i < n
  · refine .inr ⟨hlt, Pv (i + 1), fun σ' H' p' => ⟨n - (i + 1), by omega, rfl, hlt, p'⟩, fun x H' y => ?_⟩
    obtain ⟨e, y⟩ := y
    subst e y
    exact hs i σ _ hlt p
  · have e : i = n := by omega
    subst e
    exact .inl ⟨Nat.le_refl _, hd σ H p⟩
/-- while, by a word and a measure of the state -/
theorem while_by {c : TT} {tb : TS} {D : Ends} {σ : St} {H : Hp} (Pv : St → Hp → Prop) (μ : St → Hp → Nat) (h0 : Pv σ H)
    (hs : ∀ σ H, Pv σ H → c σ H fun b H1 => if b = true then tb { D with nx := fun σ' H' => Pv σ' H' ∧ μ σ' H' < μ σ H, ct := fun σ' H' => Pv σ' H' ∧ μ σ' H' < μ σ H, bk := D.nx } σ H1 else D.nx σ H1)
    (mono : ∀ σ H Q Q', (∀ b H1, Q b H1 → Q' b H1) → c σ H Q → c σ H Q') : tWhile c tb D σ H := by
  refine ⟨fun m σ H => m = μ σ H ∧ Pv σ H, ⟨_, rfl, h0⟩, ?_⟩
  rintro m σ H ⟨rfl, p⟩
  refine mono σ H _ _ (fun b H1 q => ?_) (hs σ H p)
  cases b with
  | true => exact ⟨_, fun σ' H' ⟨p', l⟩ => ⟨_, l, rfl, p'⟩, q⟩
  | false => exact q
end L2
namespace L2
open PySem PySem.Spec PyProof.Rows
abbrev R2 := V → V → Hp → VK → Prop
/-- a two-place operation on values: f is binaryOp op, inplaceOp op or compareOp op -/
def OpR (X : Cx) (f : Value → Value → Sem Value) (r : R2) : Prop :=
  ∀ (pins : List (Addr × Obj)) (s : Shared) (σ : St) (H : Hp) (x y : V) (v u : Value) (Q : VK), Inv X pins σ H s → RelV x v → RelV y u → r x y H Q →
    wpAny (model X.prog X.w) X.A (f v u) (EP X pins σ Q) X.xe s
/-- a one-place operation -/
def UnR (X : Cx) (f : Value → Sem Value) (r : V → Hp → VK → Prop) : Prop :=
  ∀ (pins : List (Addr × Obj)) (s : Shared) (σ : St) (H : Hp) (x : V) (v : Value) (Q : VK), Inv X pins σ H s → RelV x v → r x H Q →
    wpAny (model X.prog X.w) X.A (f v) (EP X pins σ Q) X.xe s
/-- a call of a value that is known (a builtin, a type) with values -/
def CallR (X : Cx) (f : Value) (r : List V → Hp → VK → Prop) : Prop :=
  ∀ (pins : List (Addr × Obj)) (s : Shared) (σ : St) (H : Hp) (xs : List V) (us : List Value) (Q : VK), Inv X pins σ H s → Vals xs us → r xs H Q →
    wpAny (model X.prog X.w) X.A (call f us) (EP X pins σ Q) X.xe s
def tOp (r : R2) (ta tb : TE) : TE := fun σ H Q => ta σ H fun x H1 => tb σ H1 fun y H2 => r x y H2 Q
def tUn (r : V → Hp → VK → Prop) (ta : TE) : TE := fun σ H Q => ta σ H fun x H1 => r x H1 Q
/-- ints in, under C, and a value out -/
def rI (C : Int → Int → Prop) (g : Int → Int → V) : R2 := fun x y H Q => ∃ i j, x = .int i ∧ y = .int j ∧ C i j ∧ Q (g i j) H
def rI0 (g : Int → Int → V) : R2 := fun x y H Q => ∃ i j, x = .int i ∧ y = .int j ∧ Q (g i j) H
def rU (g : Int → V) : V → Hp → VK → Prop := fun x H Q => ∃ i, x = .int i ∧ Q (g i) H

section
variable {X : Cx} {a b c : Expr} {ta tb tc : TE} {pos : Pos}
theorem binT (ha : PE X a ta) (hb : PE X b tb) {pins : List (Addr × Obj)} {s : Shared} {σ : St} {H : Hp} {R : V → V → Hp → Prop} (I : Inv X pins σ H s)
    (h : ta σ H fun x H1 => tb σ H1 fun y H2 => R x y H2) {Q : Value → Shared → Prop} {f : Value → Value → Sem Value}
    (hf : ∀ v u s2 x y H2, Inv X pins σ H2 s2 → RelV x v → RelV y u → R x y H2 → wpAny (model X.prog X.w) X.A (f v u) Q X.xe s2) :
    wpAny (model X.prog X.w) X.A (eval a X.env) (fun v s₁ => wpAny (model X.prog X.w) X.A (eval b X.env) (fun u s₂ => wpAny (model X.prog X.w) X.A (f v u) Q X.xe s₂) X.xe s₁) X.xe s := by
  refine thn (ha pins s σ H _ I h) fun v s1 ⟨x, H1, I1, r1, q1⟩ => ?_
  refine thn (hb pins s1 σ H1 _ I1 q1) fun u s2 ⟨y, H2, I2, r2, q2⟩ => ?_
  exact hf v u s2 x y H2 I2 r1 r2 q2

theorem pe_op {op : Operator} {r : R2} (ho : OpR X (binaryOp op) r) (ha : PE X a ta) (hb : PE X b tb) : PE X (.BinOp a op b pos) (tOp r ta tb) := by
  intro pins s σ H Q I h
  exact wpAny_BinOp (binT ha hb I h fun v u s2 x y H2 I2 rx ry q => ho pins s2 σ H2 x y v u Q I2 rx ry q)
theorem pe_un {op : UnaryOp} {r : V → Hp → VK → Prop} (ho : UnR X (unaryOp op) r) (ha : PE X a ta) : PE X (.UnaryOp op a pos) (tUn r ta) := by
  intro pins s σ H Q I h
  exact UnaryOp_ (thn (ha pins s σ H _ I h) fun v s1 ⟨x, H1, I1, r1, q1⟩ => ho pins s1 σ H1 x v Q I1 r1 q1)
theorem opI {f : Value → Value → Sem Value} {C : Int → Int → Prop} {g : Int → Int → Int}
    (rule : ∀ (i j : Int) (t u : Tok) (s : Shared) (Q : Value → Shared → Prop) (E : Value → Shared → Prop), C i j → Q (.int (g i j) s.toks) { s with toks := s.toks + 1 } → wpAny (model X.prog X.w) X.A (f (.int i t) (.int j u)) Q E s) :
    OpR X f (rI C fun i j => .int (g i j)) := by
  intro pins s σ H x y v u Q I rx ry h
  obtain ⟨i, j, rfl, rfl, hc, q⟩ := h
  obtain ⟨t, rfl⟩ := rx
  obtain ⟨t', rfl⟩ := ry
  exact rule i j t t' s _ _ hc ⟨.int (g i j), H, I.tok _, ⟨_, rfl⟩, q⟩
theorem opI0 {f : Value → Value → Sem Value} {g : Int → Int → Int}
    (rule : ∀ (i j : Int) (t u : Tok) (s : Shared) (Q : Value → Shared → Prop) (E : Value → Shared → Prop), Q (.int (g i j) s.toks) { s with toks := s.toks + 1 } → wpAny (model X.prog X.w) X.A (f (.int i t) (.int j u)) Q E s) :
    OpR X f (rI0 fun i j => .int (g i j)) := by
  intro pins s σ H x y v u Q I rx ry h
  obtain ⟨i, j, rfl, rfl, q⟩ := h
  obtain ⟨t, rfl⟩ := rx
  obtain ⟨t', rfl⟩ := ry
  exact rule i j t t' s _ _ ⟨.int (g i j), H, I.tok _, ⟨_, rfl⟩, q⟩
theorem opB0 {f : Value → Value → Sem Value} {g : Int → Int → Bool}
    (rule : ∀ (i j : Int) (t u : Tok) (s : Shared) (Q : Value → Shared → Prop) (E : Value → Shared → Prop), Q (.bool (g i j)) s → wpAny (model X.prog X.w) X.A (f (.int i t) (.int j u)) Q E s) :
    OpR X f (rI0 fun i j => .bl (g i j)) := by
  intro pins s σ H x y v u Q I rx ry h
  obtain ⟨i, j, rfl, rfl, q⟩ := h
  obtain ⟨t, rfl⟩ := rx
  obtain ⟨t', rfl⟩ := ry
  exact rule i j t t' s _ _ ⟨.bl (g i j), H, I, rfl, q⟩

def CMul (i j : Int) : Prop := (-(2 ^ 64) < i ∧ i < 2 ^ 64) ∨ (-(2 ^ 64) < j ∧ j < 2 ^ 64)
theorem CMul.ok {i j : Int} (h : CMul i j) : IntMulOk i j := by
  rcases h with ⟨h1, h2⟩ | ⟨h1, h2⟩
  · exact .of_left (intBits_le_64 h1 h2)
  · exact .of_right (intBits_le_64 h1 h2)
theorem op_add : OpR X (binaryOp .Add) (rI0 fun i j => .int (i + j)) := opI0 fun _ _ _ _ _ _ _ q => add_int q
theorem op_sub : OpR X (binaryOp .Sub) (rI0 fun i j => .int (i - j)) := opI0 fun _ _ _ _ _ _ _ q => sub_int q
theorem op_mul : OpR X (binaryOp .Mult) (rI CMul fun i j => .int (i * j)) := opI fun _ _ _ _ _ _ _ hc q => mul_int q hc.ok
theorem unI {f : Value → Sem Value} {g : Int → Int}
    (rule : ∀ (i : Int) (t : Tok) (s : Shared) (Q : Value → Shared → Prop) (E : Value → Shared → Prop), Q (.int (g i) s.toks) { s with toks := s.toks + 1 } → wpAny (model X.prog X.w) X.A (f (.int i t)) Q E s) :
    UnR X f (rU fun i => .int (g i)) := by
  intro pins s σ H x v Q I rx h
  obtain ⟨i, rfl, q⟩ := h
  obtain ⟨t, rfl⟩ := rx
  exact rule i t s _ _ ⟨.int (g i), H, I.tok _, ⟨_, rfl⟩, q⟩
theorem un_neg : UnR X (unaryOp .USub) (rU fun i => .int (-i)) := unI fun _ _ _ _ _ q => neg_int q
end
/-- the scalars that == tells apart as data does -/
def scal : V → V → Bool
  | .non, .non => true | .non, .int _ => true | .int _, .non => true | .non, .bl _ => true | .bl _, .non => true | .non, .str _ => true | .str _, .non => true
  | .int _, .int _ => true | .bl _, .bl _ => true | .str _, .str _ => true | .byt _, .byt _ => true
  | .int _, .str _ => true | .str _, .int _ => true | .bl _, .str _ => true | .str _, .bl _ => true
  | _, _ => false
def rEq : R2 := fun x y H Q => scal x y = true ∧ Q (.bl (decide (x = y))) H
def rNe : R2 := fun x y H Q => scal x y = true ∧ Q (.bl (!decide (x = y))) H

theorem dec_int {i j : Int} : decide (V.int i = V.int j) = (i == j) := by
  rw [Bool.eq_iff_iff]
  simp
theorem dec_bl {i j : Bool} : decide (V.bl i = V.bl j) = (i == j) := by
  rw [Bool.eq_iff_iff]
  simp
theorem dec_str {i j : Str} : decide (V.str i = V.str j) = (i == j) := by
  rw [Bool.eq_iff_iff]
  simp
theorem dec_byt {i j : Array UInt8} : decide (V.byt i = V.byt j) = (i.toList == j.toList) := by
  rw [Bool.eq_iff_iff]
  cases i
  cases j
  simp

section
variable {X : Cx} {a b c : Expr} {ta tb tc : TE} {pos : Pos}
theorem fin_bl {pins : List (Addr × Obj)} {σ : St} {H : Hp} {s : Shared} {Q : VK} {k k' : Bool} (I : Inv X pins σ H s) (q : Q (.bl k) H) (e : k = k') : EP X pins σ Q (.bool k') s := by
  subst e
  exact ⟨.bl k, H, I, rfl, q⟩
theorem op_eq : OpR X (compareOp .Eq) rEq := by
  intro pins s σ H x y v u Q I rx ry h
  obtain ⟨hs, q⟩ := h
  cases x with
  | non =>
    cases rx
    cases y with
    | non => cases ry; exact PySem.EqNone.eq_none_none (fin_bl I q (by simp))
    | bl j => cases ry; exact PySem.EqNone.eq_none_bool (fin_bl I q (by simp))
    | int j => obtain ⟨t', rfl⟩ := ry; exact PySem.EqNone.eq_none_int (fin_bl I q (by simp))
    | str j => obtain ⟨t', rfl⟩ := ry; exact PySem.EqNone.eq_none_str (fin_bl I q (by simp))
    | _ => exact absurd (show false = true from hs) Bool.false_ne_true
  | bl i =>
    cases rx
    cases y with
    | non => cases ry; exact PySem.EqNone.eq_bool_none (fin_bl I q (by simp))
    | bl j => cases ry; exact eq_bool (fin_bl I q dec_bl)
    | str j => obtain ⟨t', rfl⟩ := ry; exact PySem.EqMixed.eq_bool_str (fin_bl I q (by simp))
    | _ => exact absurd (show false = true from hs) Bool.false_ne_true
  | int i =>
    obtain ⟨t, rfl⟩ := rx
    cases y with
    | non => cases ry; exact PySem.EqNone.eq_int_none (fin_bl I q (by simp))
    | int j => obtain ⟨t', rfl⟩ := ry; exact eq_int (fin_bl I q dec_int)
    | str j => obtain ⟨t', rfl⟩ := ry; exact PySem.EqMixed.eq_int_str (fin_bl I q (by simp))
    | _ => exact absurd (show false = true from hs) Bool.false_ne_true
  | str i =>
    obtain ⟨t, rfl⟩ := rx
    cases y with
    | non => cases ry; exact PySem.EqNone.eq_str_none (fin_bl I q (by simp))
    | bl j => cases ry; exact PySem.EqMixed.eq_str_bool (fin_bl I q (by simp))
    | int j => obtain ⟨t', rfl⟩ := ry; exact PySem.EqMixed.eq_str_int (fin_bl I q (by simp))
    | str j => obtain ⟨t', rfl⟩ := ry; exact eq_str (fin_bl I q dec_str)
    | _ => exact absurd (show false = true from hs) Bool.false_ne_true
  | byt i =>
    obtain ⟨t, rfl⟩ := rx
    cases y with
    | byt j => obtain ⟨t', rfl⟩ := ry; exact PySem.W.eq_bytes (fin_bl I q dec_byt)
    | _ => exact absurd (show false = true from hs) Bool.false_ne_true
  | _ => cases y <;> exact absurd (show false = true from hs) Bool.false_ne_true
theorem op_ne : OpR X (compareOp .NotEq) rNe := by
  intro pins s σ H x y v u Q I rx ry h
  obtain ⟨hs, q⟩ := h
  cases x with
  | non =>
    cases rx
    cases y with
    | non => cases ry; exact PySem.EqNone.ne_none_none (fin_bl I q (by simp))
    | bl j => cases ry; exact PySem.EqNone.ne_none_bool (fin_bl I q (by simp))
    | int j => obtain ⟨t', rfl⟩ := ry; exact PySem.EqNone.ne_none_int (fin_bl I q (by simp))
    | str j => obtain ⟨t', rfl⟩ := ry; exact PySem.EqNone.ne_none_str (fin_bl I q (by simp))
    | _ => exact absurd (show false = true from hs) Bool.false_ne_true
  | bl i =>
    cases rx
    cases y with
    | non => cases ry; exact PySem.EqNone.ne_bool_none (fin_bl I q (by simp))
    | bl j => cases ry; exact ne_bool (fin_bl I q (congrArg not dec_bl))
    | str j => obtain ⟨t', rfl⟩ := ry; exact PySem.EqMixed.ne_bool_str (fin_bl I q (by simp))
    | _ => exact absurd (show false = true from hs) Bool.false_ne_true
  | int i =>
    obtain ⟨t, rfl⟩ := rx
    cases y with
    | non => cases ry; exact PySem.EqNone.ne_int_none (fin_bl I q (by simp))
    | int j => obtain ⟨t', rfl⟩ := ry; exact ne_int (fin_bl I q (congrArg not dec_int))
    | str j => obtain ⟨t', rfl⟩ := ry; exact PySem.EqMixed.ne_int_str (fin_bl I q (by simp))
    | _ => exact absurd (show false = true from hs) Bool.false_ne_true
  | str i =>
    obtain ⟨t, rfl⟩ := rx
    cases y with
    | non => cases ry; exact PySem.EqNone.ne_str_none (fin_bl I q (by simp))
    | bl j => cases ry; exact PySem.EqMixed.ne_str_bool (fin_bl I q (by simp))
    | int j => obtain ⟨t', rfl⟩ := ry; exact PySem.EqMixed.ne_str_int (fin_bl I q (by simp))
    | str j => obtain ⟨t', rfl⟩ := ry; exact ne_str (fin_bl I q (congrArg not dec_str))
    | _ => exact absurd (show false = true from hs) Bool.false_ne_true
  | byt i =>
    obtain ⟨t, rfl⟩ := rx
    cases y with
    | byt j => obtain ⟨t', rfl⟩ := ry; exact PySem.W.ne_bytes (fin_bl I q (congrArg not dec_byt))
    | _ => exact absurd (show false = true from hs) Bool.false_ne_true
  | _ => cases y <;> exact absurd (show false = true from hs) Bool.false_ne_true

theorem op_lt : OpR X (compareOp .Lt) (rI0 fun i j => .bl (decide (i < j))) := opB0 fun _ _ _ _ _ _ _ q => lt_int q
theorem op_le : OpR X (compareOp .LtE) (rI0 fun i j => .bl (decide (i ≤ j))) := opB0 fun _ _ _ _ _ _ _ q => le_int q
theorem op_gt : OpR X (compareOp .Gt) (rI0 fun i j => .bl (decide (j < i))) := opB0 fun _ _ _ _ _ _ _ q => gt_int q
/-- is None, is not None: the right side a value none -/
theorem op_isN : OpR X (compareOp .Is) (fun x y H Q => y = .non ∧ Q (.bl (decide (x = .non))) H) := by
  intro pins s σ H x y v u Q I rx ry h
  obtain ⟨rfl, q⟩ := h
  cases ry
  refine is_none_gen (fin_bl I q ?_)
  cases x <;> first
    | (cases rx; rfl)
    | (obtain ⟨t, rfl⟩ := rx; rfl)
theorem op_notN : OpR X (compareOp .IsNot) (fun x y H Q => y = .non ∧ Q (.bl (!decide (x = .non))) H) := by
  intro pins s σ H x y v u Q I rx ry h
  obtain ⟨rfl, q⟩ := h
  cases ry
  refine isnot_none_gen (fin_bl I q ?_)
  cases x <;> first
    | (cases rx; rfl)
    | (obtain ⟨t, rfl⟩ := rx; rfl)

/-- two rules for one operation: by cases -/
theorem OpR.or {f : Value → Value → Sem Value} {r r' : R2} (h : OpR X f r) (h' : OpR X f r') : OpR X f (fun x y H Q => r x y H Q ∨ r' x y H Q) := by
  intro pins s σ H x y v u Q I rx ry q
  rcases q with q | q
  · exact h pins s σ H x y v u Q I rx ry q
  · exact h' pins s σ H x y v u Q I rx ry q

theorem nomark (b : Expr) {op : CmpOp} (h : op ≠ .In := by decide) (h2 : op ≠ .NotIn := by decide) : behindInMarks op b = false := by
  have e1 : (op == CmpOp.In) = false := by cases op <;> first | rfl | exact absurd rfl h
  have e2 : (op == CmpOp.NotIn) = false := by cases op <;> first | rfl | exact absurd rfl h2
  cases b <;> simp [behindInMarks, e1, e2]
/-- a comparison as a value; hm: nomark b, or (for in, not in) by with_unfolding_all rfl -/
theorem pe_cmpR {op : CmpOp} {r : R2} (ho : OpR X (compareOp op) r) (ha : PE X a ta) (hb : PE X b tb) (hm : behindInMarks op b = false) : PE X (.Compare a [op] [b] pos) (tOp r ta tb) := by
  intro pins s σ H Q I h
  exact wpAny_Compare1 (binT ha hb I h fun v u s2 x y H2 I2 rx ry q => ho pins s2 σ H2 x y v u Q I2 rx ry q) hm
/-- a reading of a value as a test -/
def tTest (t : TE) : TT := fun σ H Q => t σ H fun x H' => ∃ k, x = .bl k ∧ Q k H'
theorem pt_cmpR {op : CmpOp} {r : R2} (ho : OpR X (compareOp op) r) (ha : PE X a ta) (hb : PE X b tb) (hm : behindInMarks op b = false) : PT X (.Compare a [op] [b] pos) (tTest (tOp r ta tb)) := by
  intro pins s σ H Q I h
  refine wpAny_isTrue_Compare1 (thn (ha pins s σ H _ I h) fun v s1 ⟨x, H1, I1, r1, q1⟩ => thn (hb pins s1 σ H1 _ I1 q1) fun u s2 ⟨y, H2, I2, r2, q2⟩ =>
    thn (ho pins s2 σ H2 x y v u _ I2 r1 r2 q2) fun c s3 ⟨z, H3, I3, r3, k, e, q3⟩ => ?_) hm
  subst e
  cases r3
  exact wpAny_truthy_bool ⟨H3, I3, q3⟩
/-- a op1 b op2 c -/
def tChain (r r' : R2) (ta tb tc : TE) : TE := fun σ H Q => ta σ H fun x H1 => tb σ H1 fun y H2 => r x y H2 fun z H3 => ∃ k, z = .bl k ∧
  (if k = true then tc σ H3 fun w' H4 => r' y w' H4 Q else Q (.bl false) H3)
theorem pe_chain {op op' : CmpOp} {r r' : R2} (ho : OpR X (compareOp op) r) (ho' : OpR X (compareOp op') r') (ha : PE X a ta) (hb : PE X b tb) (hc : PE X c tc)
    (hm : lastMarks [op, op'] [b, c] = false := by with_unfolding_all rfl) : PE X (.Compare a [op, op'] [b, c] pos) (tChain r r' ta tb tc) := by
  intro pins s σ H Q I h
  refine Compare_chain (thn (ha pins s σ H _ I h) fun v s1 ⟨x, H1, I1, r1, q1⟩ => chain_link (thn (hb pins s1 σ H1 _ I1 q1) fun u s2 ⟨y, H2, I2, r2, q2⟩ =>
    thn (ho pins s2 σ H2 x y v u _ I2 r1 r2 q2) fun d s3 ⟨z, H3, I3, r3, k, e, q3⟩ => ?_)) hm
  subst e
  cases r3
  refine wpAny_truthy_bool ?_
  cases k with
  | false => exact ite_ff ⟨.bl false, H3, I3, rfl, q3⟩
  | true => exact ite_tt (chain_last (thn (hc pins s3 σ H3 _ I3 q3) fun w' s4 ⟨z', H4, I4, r4, q4⟩ => ho' pins s4 σ H4 y z' u w' Q I4 r2 r4 q4))
theorem pt_chain {op op' : CmpOp} {r r' : R2} (ho : OpR X (compareOp op) r) (ho' : OpR X (compareOp op') r') (ha : PE X a ta) (hb : PE X b tb) (hc : PE X c tc)
    (hm : lastMarks [op, op'] [b, c] = false := by with_unfolding_all rfl) : PT X (.Compare a [op, op'] [b, c] pos) (tTest (tChain r r' ta tb tc)) := by
  intro pins s σ H Q I h
  refine isTrue_chain (thn (ha pins s σ H _ I h) fun v s1 ⟨x, H1, I1, r1, q1⟩ => test_link (thn (hb pins s1 σ H1 _ I1 q1) fun u s2 ⟨y, H2, I2, r2, q2⟩ =>
    thn (ho pins s2 σ H2 x y v u _ I2 r1 r2 q2) fun d s3 ⟨z, H3, I3, r3, k, e, q3⟩ => ?_)) hm
  subst e
  cases r3
  refine wpAny_truthy_bool ?_
  cases k with
  | false =>
    obtain ⟨k', e', q'⟩ := q3
    cases e'
    exact ite_ff ⟨H3, I3, q'⟩
  | true =>
    refine ite_tt (test_last (thn (hc pins s3 σ H3 _ I3 q3) fun w' s4 ⟨z', H4, I4, r4, q4⟩ => thn (ho' pins s4 σ H4 y z' u w' _ I4 r2 r4 q4) fun d' s5 ⟨z2, H5, I5, r5, k2, e2, q5⟩ => ?_))
    subst e2
    cases r5
    exact wpAny_truthy_bool ⟨H5, I5, q5⟩

theorem line63 : (sizeLine : Nat) < 2 ^ 63 := by rw [sizeLine_eq]; decide
theorem vals1 {x : V} {us : List Value} (r : Vals [x] us) : ∃ u, us = [u] ∧ RelV x u := by
  cases r with
  | cons r1 r2 => cases r2; exact ⟨_, rfl, r1⟩
theorem vals2 {x y : V} {us : List Value} (r : Vals [x, y] us) : ∃ u w', us = [u, w'] ∧ RelV x u ∧ RelV y w' := by
  cases r with
  | cons r1 r2 =>
    cases r2 with
    | cons r3 r4 => cases r4; exact ⟨_, _, rfl, r1, r3⟩
theorem call_abs : CallR X (.builtin "abs") (fun xs H Q => ∃ i, xs = [.int i] ∧ Q (.int (if i < 0 then -i else i)) H) := by
  intro pins s σ H xs us Q I r h
  obtain ⟨i, rfl, q⟩ := h
  obtain ⟨u, rfl, t, rfl⟩ := vals1 r
  exact call_abs_int fun u tk => ⟨.int (if i < 0 then -i else i), H, I.tok _, ⟨_, rfl⟩, q⟩
theorem call_max2 (hc : X.calm = true) : CallR X (.builtin "max") (fun xs H Q => ∃ i j, xs = [.int i, .int j] ∧ Q (.int (if j > i then j else i)) H) := by
  intro pins s σ H xs us Q I r h
  obtain ⟨i, j, rfl, q⟩ := h
  obtain ⟨u, w', rfl, ⟨t, rfl⟩, ⟨t', rfl⟩⟩ := vals2 r
  refine max_two_ints (I.ok.hd hc) fun h' tk k => ⟨_, H, I.kept k, ?_, q⟩
  by_cases hj : j > i
  · rw [if_pos hj, if_pos hj]; exact ⟨_, rfl⟩
  · rw [if_neg hj, if_neg hj]; exact ⟨_, rfl⟩
theorem call_min2 (hc : X.calm = true) : CallR X (.builtin "min") (fun xs H Q => ∃ i j, xs = [.int i, .int j] ∧ Q (.int (if j < i then j else i)) H) := by
  intro pins s σ H xs us Q I r h
  obtain ⟨i, j, rfl, q⟩ := h
  obtain ⟨u, w', rfl, ⟨t, rfl⟩, ⟨t', rfl⟩⟩ := vals2 r
  refine min_two_ints (I.ok.hd hc) fun h' tk k => ⟨_, H, I.kept k, ?_, q⟩
  by_cases hj : j < i
  · rw [if_pos hj, if_pos hj]; exact ⟨_, rfl⟩
  · rw [if_neg hj, if_neg hj]; exact ⟨_, rfl⟩
end
end L2
namespace L2
open PySem PySem.Spec PyProof.Rows
structure ObjM (h : Heap) (x dx C : Addr) (mA : Str → Option Value) : Prop where
  obj : h.get? x = some (PySem.W.instObj C dx)
  ns : h.Ns1 dx mA
  ne : dx ≠ x

theorem lookIn_ns {h : Heap} {dx : Addr} {mA : Str → Option Value} (n : h.Ns1 dx mA) : ∃ od, h.get? dx = some od ∧ ∀ name, PySem.W.lookIn name od = some (mA name) := by
  obtain ⟨o, es, ep, ho, hd, hk, _, hm⟩ := n
  refine ⟨o, ho, fun name => ?_⟩
  have e := hm name
  unfold nsFind findBy at e
  rw [← Array.find?_toList] at e
  unfold PySem.W.lookIn
  rw [hd]
  dsimp only
  split
  · rename_i y q
    rw [q] at e
    exact congrArg some e
  · rename_i q
    rw [q] at e
    have a : es.toList.any (·.refKey) = false := by
      rw [List.any_eq_false]
      intro y hy
      obtain ⟨z, t, hkey⟩ := hk y (Array.mem_toList_iff.mp hy)
      simp [DictEntry.refKey, hkey]
    have a' : ¬ es.toList.any (·.refKey) = true := by rw [a]; exact Bool.false_ne_true
    rw [if_neg a']
    exact congrArg some e

theorem ObjM.look {h : Heap} {x dx C : Addr} {mA : Str → Option Value} (I : ObjM h x dx C mA) : ∃ od, PySem.W.InstAt h x (PySem.W.instObj C dx) C (some od) ∧ ∀ name, PySem.W.lookIn name od = some (mA name) :=
  let ⟨od, ho, hl⟩ := lookIn_ns I.ns
  ⟨od, ⟨I.obj, rfl, rfl, ho⟩, hl⟩

section
variable {prog : Program} {w : World} {A : Around} {E : Value → Shared → Prop} {s : Shared} {K : PySem.W.Frag} {x dx C f : Addr} {mA : Str → Option Value} {name : Str} {v : Value}
theorem get_map {expr : Bool} {Q : Value → Shared → Prop} (X : K.In s.heap) (I : ObjM s.heap x dx C mA) (hg : PySem.W.plainGet K C name = true) (hh : PySem.W.hasDictIn K C = true)
    (ha : PySem.W.findIn K (.ref C) name = some none) (hv : mA name = some v) (hv' : PySem.W.handedIn v = true) (h : Q v { s with toks := s.toks + 1 }) :
    wpAny (model prog w) A (getAttr (.ref x) name expr) Q E s := by
  obtain ⟨od, J, hl⟩ := I.look
  exact PySem.W.get_value X J (PySem.W.plainGet_of hg).1 (PySem.W.findObj_own hh ha rfl (by rw [hl, hv])) hv' h

theorem get_meth {pl : Sem Bool} {Q : Value × List Value → Shared → Prop} (X : K.In s.heap) (I : ObjM s.heap x dx C mA) (hg : PySem.W.plainGet K C name = true)
    (hf : PySem.W.findIn K (.ref C) name = some (some (.ref f))) (ht : PySem.W.isFn K (.ref f) = true) (hv : mA name = none) (h : Q (.ref f, [.ref x]) s) :
    wpAny (model prog w) A (getMethod (.ref x) name pl) Q E s := by
  obtain ⟨od, J, hl⟩ := I.look
  exact PySem.W.method_fn X J (PySem.W.plainGet_of hg).1 (PySem.W.plainGet_of hg).2 hf (beq_iff_eq.mp ht) (by show (PySem.W.lookIn name od).map (·.isSome) = some false; rw [hl, hv]; rfl) h

theorem set_map {ns : List Str} {Q : Unit → Shared → Prop} (X : K.In s.heap) (I : ObjM s.heap x dx C mA)
    (hs : PySem.W.findIn K (.ref C) "__setattr__" = some (some (.builtin "object.__setattr__"))) (hp : PySem.W.plainOver K C = true) (ht : PySem.W.takerIn K C name = some none) (hh : PySem.W.hasDictIn K C = true)
    (hw : PySem.Within mA ns) (hsz : ns.length ≤ sizeLine)
    (h : ∀ h', ObjM h' x dx C (fun y => if y = name then some v else mA y) → Heap.SameBut dx s.heap h' → Q () { s with heap := h', toks := s.toks + 2 }) :
    wpAny (model prog w) A (setAttr (.ref x) name v) Q E s := by
  obtain ⟨od, J, hl⟩ := I.look
  refine PySem.W.set_plain X J hs (PySem.W.osa_open (s := { s with toks := s.toks + 1 }) (r := none) X J hp ht fun b => ?_)
  obtain ⟨cd, hc, hd'⟩ := PySem.W.any_some hh
  have hx : s.heap.get? x = some ⟨.ref C, some dx, .plain, #[]⟩ := I.obj
  refine wpAny_bind (wpAny_pure (wpAny_bind (wpAny_bind (wpAny_loadPart hx (wpAny_bind (PySem.W.Looks.here (s := { s with toks := s.toks + 1 }) (PySem.W.looks_clsIn X hc) ?_))))))
  rw [hd']
  refine wpAny_pure (a := some dx) (wpAny_bind (wpAny_pure (wpAny_bind ?_)))
  refine wpAny_nsSet1 (s := { s with toks := s.toks + 1 }) I.ns fun h' hn2 hs2 => ?_
  obtain ⟨oD, esD, epD, hoD, hdD, hcD⟩ := hn2.count (PySem.Within.cons name v hw)
  refine wpAny_bind (wpAny_lookBehind hoD (by rw [hdD]; exact pastItsLine_dict (Nat.le_trans hcD (by rw [List.length_cons]; omega))) ?_)
  exact wpAny_pure (h _ ⟨(hs2.2 _ (Ne.symm I.ne)).trans I.obj, hn2, I.ne⟩ hs2)

/-- C(..): the dict at the heap's end, the instance behind it; then its __init__ -/
theorem make_map {R : Result → Shared → Prop} {vs : List Value} {kw : List (Str × Value)} (X : K.In s.heap) (hm : PySem.W.makesIn K C = true)
    (hi : PySem.W.findIn K (.ref C) "__init__" = some (some (.ref f))) (hf : PySem.W.typeIn K (.ref f) = some (.type "function"))
    (h : codeAny (model prog w) (A.under (.builtin "type.__call__" ⟨.ref C :: vs, kw⟩)) (.call (.ref f) ⟨.ref (s.heap.objs.size + 1) :: vs, kw⟩) (PySem.W.InitBack (s.heap.objs.size + 1) R)
      { s with heap := (s.heap.push PySem.W.emptyDict).push (PySem.W.instObj C s.heap.objs.size) }) :
    codeAny (model prog w) A (.call (.ref C) ⟨vs, kw⟩) R s := by
  obtain ⟨hh, g, d, t, os⟩ := s
  exact PySem.W.make_core (PySem.W.makes_of X hm) (PySem.W.looks_findIn X hi) (fun self => PySem.W.bind_fn X self hf) (.inl rfl) h
end
def putF (f : Str) (v : V) : List (Str × V) → List (Str × V)
  | [] => [(f, v)]
  | (g, x) :: r => if g = f then (g, v) :: r else (g, x) :: putF f v r
theorem lookup_putF (f g : Str) (v : V) : ∀ fs : List (Str × V), (putF f v fs).lookup g = if g = f then some v else fs.lookup g
  | [] => by
    show List.lookup g [(f, v)] = _
    by_cases h : g = f
    · have hb : (g == f) = true := beq_iff_eq.mpr h
      simp only [List.lookup, hb, if_pos h]
    · have hb : (g == f) = false := beq_eq_false_iff_ne.mpr h
      simp only [List.lookup, hb, if_neg h]
  | (k, x) :: r => by
    have ih := lookup_putF f g v r
    rw [show putF f v ((k, x) :: r) = (if k = f then (k, v) :: r else (k, x) :: putF f v r) from rfl]
    by_cases hk : k = f
    · rw [if_pos hk]
      by_cases h : g = k
      · have hb : (g == k) = true := beq_iff_eq.mpr h
        simp only [List.lookup, hb, if_pos (h.trans hk)]
      · have hb : (g == k) = false := beq_eq_false_iff_ne.mpr h
        simp only [List.lookup, hb, if_neg (fun e : g = f => h (e.trans hk.symm))]
    · rw [if_neg hk]
      by_cases h : g = k
      · have hb : (g == k) = true := beq_iff_eq.mpr h
        simp only [List.lookup, hb, if_neg (fun e : g = f => hk (h.symm.trans e))]
      · have hb : (g == k) = false := beq_eq_false_iff_ne.mpr h
        simp only [List.lookup, hb]
        exact ih
theorem keys_putF (f : Str) (v : V) : ∀ fs : List (Str × V), f ∈ (putF f v fs).map (·.1) ∧ ∀ g, g ∈ fs.map (·.1) → g ∈ (putF f v fs).map (·.1)
  | [] => ⟨by simp [putF], fun g h => by simp at h⟩
  | (k, x) :: r => by
    obtain ⟨i1, i2⟩ := keys_putF f v r
    rw [show putF f v ((k, x) :: r) = (if k = f then (k, v) :: r else (k, x) :: putF f v r) from rfl]
    by_cases hk : k = f
    · rw [if_pos hk]
      subst hk
      exact ⟨by simp, fun g h => by simpa using h⟩
    · rw [if_neg hk]
      refine ⟨?_, fun g h => ?_⟩
      · rw [List.map_cons]
        exact List.mem_cons_of_mem _ i1
      · rw [List.map_cons] at h ⊢
        rcases List.mem_cons.mp h with e | e
        · exact List.mem_cons.mpr (.inl e)
        · exact List.mem_cons_of_mem _ (i2 g e)
theorem length_putF (f : Str) (v : V) : ∀ fs : List (Str × V), (putF f v fs).length ≤ fs.length + 1
  | [] => by simp [putF]
  | (k, x) :: r => by
    have ih := length_putF f v r
    rw [show putF f v ((k, x) :: r) = (if k = f then (k, v) :: r else (k, x) :: putF f v r) from rfl]
    by_cases hk : k = f
    · rw [if_pos hk, List.length_cons, List.length_cons]; omega
    · rw [if_neg hk, List.length_cons, List.length_cons]; omega

theorem RelO.some_of {v : V} {o : Option Value} (r : RelO (some v) o) : ∃ u, o = some u ∧ RelV v u := by
  cases o with
  | none => exact (show False from r).elim
  | some u => exact ⟨u, rfl, r⟩
theorem RelO.none_of {o : Option Value} (r : RelO none o) : o = none := by
  cases o with
  | none => rfl
  | some u => exact (show False from r).elim
theorem handed_of {v : V} {u : Value} (r : RelV v u) : PySem.W.handedIn u = true := by
  cases v with
  | non => cases (show u = Value.none from r); rfl
  | bl b => cases (show u = Value.bool b from r); rfl
  | int i => obtain ⟨t, e⟩ := (show ∃ t, u = Value.int i t from r); cases e; rfl
  | str x => obtain ⟨t, e⟩ := (show ∃ t, u = Value.str x t from r); cases e; rfl
  | byt b => obtain ⟨t, e⟩ := (show ∃ t, u = Value.bytes b t from r); cases e; rfl
  | flt b => obtain ⟨t, e⟩ := (show ∃ t, u = Value.float b t from r); cases e; rfl
  | ref a => cases (show u = Value.ref a from r); rfl
  | ty n => cases (show u = Value.type n from r); rfl

section
variable {P : Program} {w : World} {H H' : Hp} {h h' : Heap} {a C dx : Addr} {fs fs' : List (Str × V)}
theorem ins_get (hok : HOk P w H h) (e : H a = some (.ins C dx fs)) : ∃ mA, ObjM h a dx C mA ∧ (∀ f, RelO (fs.lookup f) (mA f)) ∧ PySem.Within mA (fs.map (·.1)) ∧ fs.length ≤ 1000 ∧ H dx = some (.own a) := by
  obtain ⟨d, z, ne, ob, mA, n, r, q⟩ := (show ObjOk P w H h a (.ins C dx fs) from hok a _ e)
  exact ⟨mA, ⟨ob, n, ne⟩, r, q, z, d⟩
end
structure Cls (K : PySem.W.Frag) (C : Addr) : Prop where
  pg : PySem.W.plainGet K C Str.empty = true
  hd : PySem.W.hasDictIn K C = true
  po : PySem.W.plainOver K C = true
  sa : PySem.W.findIn K (.ref C) "__setattr__" = some (some (.builtin "object.__setattr__"))
theorem Cls.get {K : PySem.W.Frag} {C : Addr} (c : Cls K C) (f : Str) : PySem.W.plainGet K C f = true := c.pg
/-- no class of it has the name -/
def NoAttr (K : PySem.W.Frag) (C : Addr) (f : Str) : Prop := PySem.W.findIn K (.ref C) f = some none
theorem NoAttr.taker {K : PySem.W.Frag} {C : Addr} {f : Str} (n : NoAttr K C f) : PySem.W.takerIn K C f = some none := by
  unfold PySem.W.takerIn
  rw [show PySem.W.findIn K (.ref C) f = some none from n]
  rfl
/-- a method: a plain def of the class or of one above it -/
structure Meth (K : PySem.W.Frag) (C : Addr) (m : Str) (f : Addr) : Prop where
  at_ : PySem.W.findIn K (.ref C) m = some (some (.ref f))
  fn : PySem.W.isFn K (.ref f) = true
  kp : PySem.W.keepIn K (.ref f) = true

section
variable {X : Cx} {pins : List (Addr × Obj)} {σ : St} {H : Hp} {s : Shared} {a C dx : Addr} {fs : List (Str × V)} {f : Str} {v : V} {A : Around} {E : Value → Shared → Prop}
theorem getattr_ok {b : Bool} {Q : Value → Shared → Prop} (I : Inv X pins σ H s) (e : H a = some (.ins C dx fs)) (c : Cls X.K C) (n : NoAttr X.K C f) (l : fs.lookup f = some v)
    (h : ∀ u s', Inv X pins σ H s' → RelV v u → Q u s') : wpAny (model X.prog X.w) A (getAttr (.ref a) f b) Q E s := by
  obtain ⟨mA, O, r, _, _, _⟩ := ins_get I.hok e
  obtain ⟨u, hu, ru⟩ := RelO.some_of (v := v) (o := mA f) (by rw [← l]; exact r f)
  exact get_map I.kIn O (c.get f) c.hd n hu (handed_of ru) (h u _ (I.tok _) ru)

theorem getmeth_ok {m : Str} {g : Addr} {pl : Sem Bool} {Q : Value × List Value → Shared → Prop} (I : Inv X pins σ H s) (e : H a = some (.ins C dx fs)) (c : Cls X.K C) (k : Meth X.K C m g) (l : fs.lookup m = none)
    (h : Q (.ref g, [.ref a]) s) : wpAny (model X.prog X.w) A (getMethod (.ref a) m pl) Q E s := by
  obtain ⟨mA, O, r, _, _, _⟩ := ins_get I.hok e
  have hn : mA m = none := RelO.none_of (by rw [← l]; exact r m)
  exact get_meth I.kIn O (c.get m) k.at_ k.fn hn h

theorem setattr_ok {y : V} {u : Value} {Q : Unit → Shared → Prop} (I : Inv X pins σ H s) (e : H a = some (.ins C dx fs)) (c : Cls X.K C) (n : NoAttr X.K C f) (hl : fs.length < 1000) (ry : RelV y u)
    (h : ∀ s', Inv X pins σ (upd H a (.ins C dx (putF f y fs))) s' → Q () s') : wpAny (model X.prog X.w) A (setAttr (.ref a) f u) Q E s := by
  obtain ⟨mA, O, r, wi, _, ho⟩ := ins_get I.hok e
  have hz : (fs.map (·.1)).length ≤ sizeLine := by rw [List.length_map, sizeLine_eq]; omega
  refine set_map I.kIn O c.sa c.po n.taker c.hd wi hz fun h' O' sb => h _ ?_
  have hd : ∃ o, h'.get? dx = some o := let ⟨o, _, _, e', _⟩ := O'.ns; ⟨o, e'⟩
  refine I.write (x := a) (e := dx) (by rw [e]; exact True.intro) (.inr ho) (fun b q hb z => (sb.2 b hb).trans z) hd ?_
  refine ⟨by rw [upd_ne O.ne]; exact ho, ?_, O.ne, O'.obj, _, O'.ns, fun g => ?_, fun g hg => ?_⟩
  · have := length_putF f y fs; omega
  · show RelO ((putF f y fs).lookup g) (if g = f then some u else mA g)
    rw [lookup_putF]
    by_cases q : g = f
    · rw [if_pos q, if_pos q]; exact ry
    · rw [if_neg q, if_neg q]; exact r g
  · by_cases q : g = f
    · rw [q]; exact (keys_putF f y fs).1
    · refine (keys_putF f y fs).2 g (wi g fun z => hg ?_)
      show (if g = f then some u else mA g) = none
      rw [if_neg q]; exact z

/-- a new instance, tracked, without attributes -/
theorem Inv.made (I : Inv X pins σ H s) : Inv X pins σ (upd (upd H s.heap.objs.size (.own (s.heap.objs.size + 1))) (s.heap.objs.size + 1) (.ins C s.heap.objs.size []))
    { s with heap := (s.heap.push PySem.W.emptyDict).push (PySem.W.instObj C s.heap.objs.size) } := by
  have e1 : (s.heap.push PySem.W.emptyDict).get? s.heap.objs.size = some PySem.W.emptyDict := Heap.get?_push_size s.heap rfl
  have e2 : ((s.heap.push PySem.W.emptyDict).push (PySem.W.instObj C s.heap.objs.size)).get? (s.heap.objs.size + 1) = some (PySem.W.instObj C s.heap.objs.size) := by
    have := Heap.get?_push_size (s.heap.push PySem.W.emptyDict) (o := PySem.W.instObj C s.heap.objs.size) rfl
    rwa [Heap.size_push] at this
  have e3 : (s.heap.push PySem.W.emptyDict).Ns s.heap.objs.size (fun _ => none) := ⟨PySem.W.emptyDict, #[], _, e1, rfl, (fun e he => absurd he (by simp)), fun _ => rfl⟩
  have I1 := I.laid (a := s.heap.objs.size) (o := .own (s.heap.objs.size + 1)) (h' := s.heap.push PySem.W.emptyDict) (t' := s.toks) (fun b u q => Heap.get?_push_of_some _ q) (Nat.le_refl _) ⟨_, e1⟩
  refine I1.laid (a := s.heap.objs.size + 1) (o := .ins C s.heap.objs.size []) (t' := s.toks) (fun b u q => Heap.get?_push_of_some _ q) (Nat.le_of_eq (Heap.size_push _ _)) ?_
  have ne : s.heap.objs.size ≠ s.heap.objs.size + 1 := Nat.ne_of_lt (Nat.lt_succ_self _)
  refine ⟨by rw [upd_ne ne, upd_same], Nat.zero_le _, ne, e2, fun _ => none, (Heap.Ns1.of_empty e3).at fun o q => Heap.get?_push_of_some _ q, fun _ => True.intro, fun y hy => absurd rfl hy⟩

/-- e.f where nothing but the object is asked: through attributeBase (super) and the last hold -/
theorem attr_of {prog : Program} {w : World} {env : Env} {e : Expr} {f : Str} {pos : Pos} {s : Shared} {Q : Value → Shared → Prop} (hb : attributeBase e f env (eval e env) = eval e env)
    (h : wpAny (model prog w) A (eval e env) (fun o s₁ => wpAny (model prog w) A (getAttr o f true) Q E s₁) E s) : wpAny (model prog w) A (eval (.Attribute e f pos) env) Q E s :=
  Attribute_any_ h (by rw [arm_eval_Attribute, hb])
end
/-- e.f, an attribute of the instance -/
def tFld (K : PySem.W.Frag) (ta : TE) (f : Str) : TE := fun σ H Q => ta σ H fun x H1 => ∃ a C dx fs v, x = .ref a ∧ H1 a = some (.ins C dx fs) ∧ Cls K C ∧ NoAttr K C f ∧ fs.lookup f = some v ∧ Q v H1
/-- e.f = value -/
def sFld (K : PySem.W.Frag) (ta tv : TE) (f : Str) : TS := fun D σ H => tv σ H fun y H1 => ta σ H1 fun x H2 => ∃ a C dx fs, x = .ref a ∧ H2 a = some (.ins C dx fs) ∧ Cls K C ∧ NoAttr K C f ∧ fs.length < 1000 ∧
  D.nx σ (upd H2 a (.ins C dx (putF f y fs)))
section
variable {X : Cx} {o e value : Expr} {f : Str} {pos pos' tpos : Pos} {ta tv : TE}
theorem pe_fld (he : PE X e ta) (hb : attributeBase e f X.env (eval e X.env) = eval e X.env) : PE X (.Attribute e f pos) (tFld X.K ta f) := by
  intro pins s σ H Q I h
  refine attr_of hb (thn (he pins s σ H _ I h) fun u s1 ⟨x, H1, I1, rx, a, C, dx, fs, v, ex, ea, c, n, l, q⟩ => ?_)
  subst ex
  obtain rfl : u = Value.ref a := rx
  exact getattr_ok I1 ea c n l fun u' s2 I2 ru => ⟨v, H1, I2, ru, q⟩
theorem ps_fld (ha : PE X o ta) (hv : PE X value tv) (hs : swapsWith value (some (.Attribute o f pos')) pos.line X.env = pure false) : PS X (.Assign [.Attribute o f pos'] value pos) (sFld X.K ta tv f) := by
  intro pins s σ H D I h
  refine plainObj_wpAny_Assign_Attribute (thn (hv pins s σ H _ I h) fun u s1 ⟨y, H1, I1, ry, q⟩ => thn (ha pins s1 σ H1 _ I1 q) fun ov s2 ⟨x, H2, I2, rx, a, C, dx, fs, ex, ea, c, n, l, q2⟩ => ?_) hs
  subst ex
  obtain rfl : ov = Value.ref a := rx
  exact setattr_ok I2 ea c n l ry fun s3 I3 => ⟨σ, _, I3, q2⟩
end
section
variable {X : Cx} {pins : List (Addr × Obj)} {σ : St} {H : Hp} {s : Shared} {A : Around} {E : Value → Shared → Prop} {Q : Value → Shared → Prop} {c : Value} {b : Bool}
end
end L2
namespace L2
open PySem PySem.Spec PyProof.Rows
structure Room (k : Nat) (A : Around) : Prop where
  hd : A.handled = none
  dp : A.depth + 3 * k + 5 < recursionLimit
  un : A.units + 16 * k + 200 < cLine
theorem Room.mono {j k : Nat} {A : Around} (r : Room k A) (h : j ≤ k) : Room j A := ⟨r.hd, by have := r.dp; omega, by have := r.un; omega⟩
theorem Room.deeper {k : Nat} {A : Around} (r : Room (k + 1) A) (env : Env) : Room k (A.deeper env) :=
  ⟨r.hd, by have := r.dp; show A.depth + 1 + 3 * k + 5 < _; omega, by have := r.un; show A.units + 3 + 16 * k + 200 < _; omega⟩
theorem Room.in1 {k : Nat} {A : Around} (r : Room (k + 1) A) : Room k A.in1 :=
  ⟨r.hd, by have := r.dp; show A.depth + 3 * k + 5 < _; omega, by have := r.un; show A.units + 1 + 16 * k + 200 < _; omega⟩
theorem make_depth {A : Around} {C : Addr} {us : List Value} {kw : List (Str × Value)} : (A.under (.builtin "type.__call__" ⟨.ref C :: us, kw⟩)).depth = A.depth + 1 := by
  first | rfl | simp [Around.under, Code.weight, Code.isCreation, Code.isGuard, Code.isCaller, Code.frames, Code.isFrame, guardIds]
theorem make_units {A : Around} {C : Addr} {us : List Value} {kw : List (Str × Value)} : (A.under (.builtin "type.__call__" ⟨.ref C :: us, kw⟩)).units = A.units + 1 := by
  first | rfl | simp [Around.under, Code.cUnits, Code.frames, Code.isFrame]
theorem Room.make {k : Nat} {A : Around} (r : Room (k + 1) A) (C : Addr) (us : List Value) (kw : List (Str × Value)) : Room k (A.under (.builtin "type.__call__" ⟨.ref C :: us, kw⟩)) :=
  ⟨r.hd, by have := r.dp; rw [make_depth]; omega, by have := r.un; rw [make_units]; omega⟩
theorem Room.depth {k : Nat} {A : Around} (r : Room k A) : A.depth < recursionLimit := by have := r.dp; omega
theorem Room.units {k : Nat} {A : Around} (r : Room k A) : A.units + 64 < cLine := by have := r.un; omega
def tNil : TA := fun _ H Q => Q [] H
def tCons (ta : TE) (tr : TA) : TA := fun σ H Q => ta σ H fun x H1 => tr σ H1 fun xs H2 => Q (x :: xs) H2
section
variable {X : Cx} {e : Expr} {es : List Expr} {te : TE} {t : TA} {pos : Pos}
theorem pa_nil : PA X [] tNil := fun _ _ _ _ H Q I h => Calls.spliced_nil ⟨[], H, I, .nil, h⟩
theorem pa_cons (ha : PE X e te) (hr : PA X es t) (hs : starEach (e :: es) X.env = (false, eval e X.env) :: starEach es X.env := by rfl) : PA X (e :: es) (tCons te t) := by
  intro pos pins s σ H Q I h
  rw [hs]
  show wpAny _ _ (spliced ((false, eval e X.env) :: backTo pos (starEach es X.env))) _ _ s
  refine Calls.spliced_cons (thn (ha pins s σ H _ I h) fun u s1 ⟨x, H1, I1, r1, q1⟩ => ?_)
  exact thn (hr pos pins s1 σ H1 _ I1 q1) fun us s2 ⟨xs, H2, I2, r2, q2⟩ => ⟨x :: xs, H2, I2, .cons r1 r2, q2⟩

def tLst (t : TA) : TE := fun σ H Q => t σ H fun xs H1 => xs.length ≤ sizeLine ∧ ∀ p, H1 p = none → Q (.ref p) (upd H1 p (.lst xs))
theorem pe_lst (h : PA X es t) : PE X (.List es pos) (tLst t) := by
  intro pins s σ H Q I hq
  refine wpAny_List_spliced (thn (h pos pins s σ H _ I hq) fun us s1 ⟨xs, H1, I1, r, z, q⟩ => ⟨by rw [← r.length]; exact z, ?_⟩)
  have hf : H1 s1.heap.objs.size = none := I1.hok.fresh (Nat.le_refl _)
  refine ⟨.ref s1.heap.objs.size, upd H1 s1.heap.objs.size (.lst xs), I1.laid (t' := s1.toks) (fun b u e => Heap.get?_push_of_some _ e) (Nat.le_refl _) ?_, rfl, q _ hf⟩
  exact ⟨z, us, 0, r, Heap.get?_push_size _ rfl⟩
end
/-- a def's promise: the bound arguments in the parameters' order, the heap, the wanted end, the wanted exception -/
abbrev Sp := List V → Hp → VK → XK → Prop
/-- how an exception lies behind a call (file 08 gives it): the callers' frames, abstract heap and state ahead of the call, the wish, the exception, the state -/
abbrev CXT := List Env → Hp → Shared → XK → Value → Shared → Prop

/-- the state at a call -/
structure Env0 (P : Program) (w : World) (K : PySem.W.Frag) (mg : Str → Option Value) (base : Heap) (A : Around) (outer : List Env) (s : Shared) (H : Hp) : Prop where
  frames : A.frames = some outer
  mod : Mod K mg base
  bs : ∀ b o, base.get? b = some o → s.heap.get? b = some o ∧ H b = none
  bsz : base.objs.size ≤ s.heap.objs.size
  funs : s.heap.FunFrames base outer
  frf : ∀ b ∈ frs outer, H b = none
  hok : HOk P w H s.heap
  bare : AllBare s.gens
/-- a call's end -/
def CE (outer : List Env) (P : Program) (w : World) (H : Hp) (s : Shared) (Q : VK) (u : Value) (s' : Shared) : Prop :=
  ∃ v H', s'.os = s.os ∧ AllBare s'.gens ∧ Un (frs outer) [] H H' s.heap s'.heap ∧ HOk P w H' s'.heap ∧ RelV v u ∧ Q v H'
def CR (CX : CXT) (outer : List Env) (P : Program) (w : World) (H : Hp) (s : Shared) (Q : VK) (E : XK) (r : Result) (s' : Shared) : Prop :=
  match r with
  | .ok (.ret u) => CE outer P w H s Q u s'
  | .ok _ => False
  | .error e => CX outer H s E e s'
structure FnOk (P : Program) (w : World) (K : PySem.W.Frag) (mg : Str → Option Value) (base : Heap) (CX : CXT) (k : Nat) (f : Addr) (fd : FuncData) (ps : List Str) (sp : Sp) : Prop where
  len : ∀ vs H Q E, sp vs H Q E → vs.length = ps.length
  run : ∀ (A : Around) (outer : List Env) (s : Shared) (H : Hp) (args : Args) (us : List Value) (vs : List V) (Q : VK) (E : XK), Room k A → Env0 P w K mg base A outer s H → BindsTo s fd args (ps.zip us) → Vals vs us → sp vs H Q E →
    codeAny (model P w) A (.call (.ref f) args) (CR CX outer P w H s Q E) s
theorem FnOk.mono {P : Program} {w : World} {K : PySem.W.Frag} {mg : Str → Option Value} {base : Heap} {CX : CXT} {j k : Nat} {f : Addr} {fd : FuncData} {ps : List Str} {sp : Sp} (F : FnOk P w K mg base CX j f fd ps sp) (h : j ≤ k) :
    FnOk P w K mg base CX k f fd ps sp := ⟨F.len, fun A outer s H args us vs Q E hr => F.run A outer s H args us vs Q E (hr.mono h)⟩
theorem Env0.make {P : Program} {w : World} {K : PySem.W.Frag} {mg : Str → Option Value} {base : Heap} {A : Around} {outer : List Env} {s : Shared} {H : Hp} (e : Env0 P w K mg base A outer s H) (C : Addr) (us : List Value) (kw : List (Str × Value)) :
    Env0 P w K mg base (A.under (.builtin "type.__call__" ⟨.ref C :: us, kw⟩)) outer s H := ⟨by first | exact e.frames | (simpa [Around.under, Code.envs, Code.isFrame, pushEnvs] using e.frames), e.mod, e.bs, e.bsz, e.funs, e.frf, e.hok, e.bare⟩
theorem Env0.in1 {P : Program} {w : World} {K : PySem.W.Frag} {mg : Str → Option Value} {base : Heap} {A : Around} {outer : List Env} {s : Shared} {H : Hp} (e : Env0 P w K mg base A outer s H) :
    Env0 P w K mg base A.in1 outer s H := ⟨e.frames, e.mod, e.bs, e.bsz, e.funs, e.frf, e.hok, e.bare⟩

section
variable {X : Cx} {pins : List (Addr × Obj)} {σ : St} {H : Hp} {s s' : Shared}
/-- from a body: what a callee wants -/
theorem Inv.env0 (I : Inv X pins σ H s) : Env0 X.prog X.w X.K X.mg X.base X.A X.stack s H :=
  ⟨I.ok.frames, I.ok.mod, I.bs, Nat.le_trans I.ok.bsz I.sz, I.stack, I.stkFree, I.hok, I.bare⟩
/-- behind a call -/
theorem Inv.after {Q : VK} {u : Value} (I : Inv X pins σ H s) (h : CE X.stack X.prog X.w H s Q u s') : EP X pins σ Q u s' := by
  obtain ⟨v, H', os, bare, un, hok, r, q⟩ := h
  obtain ⟨hh, g, d, t, os'⟩ := s'
  obtain rfl : os' = s.os := os
  exact ⟨v, H', I.call (h' := hh) (g' := g) (d' := d) (t' := t) (ch := []) un hok bare (fun b z => absurd z (by simp)), r, q⟩
end
/-- f(..): the written arguments, then the defaults dvs; E: what is wanted of an exception -/
def tCall (sp : Sp) (dvs : List V) (E : XK) (t : TA) : TE := fun σ H Q => t σ H fun vs H1 => sp (vs ++ dvs) H1 Q E
/-- o.m(..) of an instance of the class at C -/
def tMeth (C : Addr) (m : Str) (sp : Sp) (dvs : List V) (E : XK) (ta : TE) (t : TA) : TE := fun σ H Q => ta σ H fun x H1 => ∃ a dx fs, x = .ref a ∧ H1 a = some (.ins C dx fs) ∧ fs.lookup m = none ∧
  t σ H1 fun vs H2 => sp (x :: (vs ++ dvs)) H2 Q E
/-- C(..): a new instance and its dict, then __init__ -/
def tMake (C : Addr) (sp : Sp) (dvs : List V) (E : XK) (t : TA) : TE := fun σ H Q => t σ H fun vs H1 => ∀ x dx, H1 x = none → H1 dx = none → dx ≠ x →
  sp (.ref x :: (vs ++ dvs)) (upd (upd H1 dx (.own x)) x (.ins C dx [])) (fun v H2 => v = .non ∧ Q (.ref x) H2) E

/-- how the parameters are bound: us the positional arguments, kw the keywords' values by name, ds the defaults that fill up -/
def Binds (K : PySem.W.Frag) (fd : FuncData) (ps : List Str) (ds : List Value) : Prop :=
  ∀ (s : Shared) (us : List Value), K.In s.heap → (us ++ ds).length = ps.length → BindsTo s fd ⟨us, []⟩ (ps.zip (us ++ ds))
/-- every parameter is given -/
theorem Binds.all {K : PySem.W.Frag} {fd : FuncData} {ps : List Str} (h : ∀ us : List Value, us.length = ps.length → bindArgs fd ⟨us, []⟩ = pure (ps.zip us)) : Binds K fd ps [] := fun s us _ hl => by
  rw [List.append_nil] at hl ⊢
  exact .of_eq (h us hl)

/-- an exception of a callee reaches what this body wants of exceptions -/
def Passes (CX : CXT) (X : Cx) (E : XK) : Prop := ∀ (pins : List (Addr × Obj)) (σ : St) (H : Hp) (s : Shared) (e : Value) (s' : Shared), Inv X pins σ H s → CX X.stack H s E e s' → X.xe e s'

section
variable {X : Cx} {CX : CXT} {k : Nat} {f C : Addr} {fd : FuncData} {ps : List Str} {sp : Sp} {dvs : List V} {ds : List Value} {E : XK} {x m : Str} {p pos apos : Pos} {e o : Expr} {es : List Expr} {ta : TE} {t : TA}
/-- the callee runs -/
theorem run_fn {pins : List (Addr × Obj)} {σ : St} {H : Hp} {s : Shared} {Q : VK} {us : List Value} {vs : List V} (F : FnOk X.prog X.w X.K X.mg X.base CX k f fd ps sp) (hr : Room k X.A) (hb : Binds X.K fd ps ds) (hd : Vals dvs ds) (hx : Passes CX X E)
    (I : Inv X pins σ H s) (r : Vals vs us) (h : sp (vs ++ dvs) H Q E) : wpAny (model X.prog X.w) X.A (call (.ref f) us) (EP X pins σ Q) X.xe s := by
  have r2 : Vals (vs ++ dvs) (us ++ ds) := r.append hd
  have hl : (us ++ ds).length = ps.length := by rw [← r2.length]; exact F.len _ _ _ _ h
  refine wpAny_call (codeAny_mono (F.run X.A X.stack s H ⟨us, []⟩ (us ++ ds) (vs ++ dvs) Q E hr I.env0 (hb s us I.kIn hl) r2 h) fun r s' hq => ?_)
  cases r with
  | error e => exact hx pins σ H s e s' I hq
  | ok fl =>
    cases fl with
    | ret u => exact I.after hq
    | next => exact False.elim hq
    | brk => exact False.elim hq
    | cont => exact False.elim hq

theorem pe_call (F : FnOk X.prog X.w X.K X.mg X.base CX k f fd ps sp) (hr : Room k X.A) (hg : Gl X x) (hm : X.mg x = some (.ref f)) (hk : PySem.W.keepIn X.K (.ref f) = true) (hb : Binds X.K fd ps ds) (hd : Vals dvs ds) (hx : Passes CX X E)
    (ha : PA X (e :: es) t) (hdb : (x == ("__debug__" : Str)) = false := by decide) (he : starEach (e :: es) X.env = (false, eval e X.env) :: starEach es X.env := by rfl) (hpl : (backTo pos (starEach es X.env)).any (·.1) = false := by rfl) :
    PE X (.Call (.Name x p) (e :: es) [] pos) (tCall sp dvs E t) := by
  intro pins s σ H Q I h
  refine wpAny_Call_Name_kw (ld_glob I hg hm ?_ hdb)
  refine PySem.W.callWith_K (h₀ := X.base) I.ok.mod.kin hk (thn (ha pos pins s σ H _ I h) fun us s1 ⟨vs, H1, I1, r, q⟩ => ⟨I1.kIn, ?_⟩) he hpl
  exact run_fn F hr hb hd hx I1 r q
/-- o.m(e, ..) -/
theorem pe_meth {pl : Sem Bool} (he : PE X o ta) (c : Cls X.K C) (hm : Meth X.K C m f) (F : FnOk X.prog X.w X.K X.mg X.base CX k f fd ps sp) (hr : Room k X.A) (hb : Binds X.K fd ps ds) (hd : Vals dvs ds) (hx : Passes CX X E) (ha : PA X (e :: es) t)
    (hst : starEach (e :: es) X.env = (false, eval e X.env) :: starEach es X.env := by rfl) (hpl : (backTo pos (starEach es X.env)).any (·.1) = false := by rfl)
    (ht : eval (.Call (.Attribute o m apos) (e :: es) [] pos) X.env = (do
      let ov ← eval o X.env
      standAt apos.atName
      let (f, first) ← holding [ov] (getMethod ov m pl)
      callWith pos f first (backTo pos (starEach (e :: es) X.env)) (backToKw pos (keywordEach [] X.env))) := by rfl) :
    PE X (.Call (.Attribute o m apos) (e :: es) [] pos) (tMeth C m sp dvs E ta t) := by
  intro pins s σ H Q I h
  refine PySem.W.methodCall_KW (pl := pl) (thn (he pins s σ H _ I h) fun u s1 ⟨x, H1, I1, rx, a, dx, fs, ex, ea, l, q⟩ => ?_) ht
  subst ex
  obtain rfl : u = Value.ref a := rx
  refine getmeth_ok I1 ea c hm l ?_
  refine PySem.W.callWith_K (first := [.ref a]) (h₀ := X.base) I.ok.mod.kin hm.kp (thn (ha pos pins s1 σ H1 _ I1 q) fun us s2 ⟨vs, H2, I2, r, q2⟩ => ⟨I2.kIn, ?_⟩) hst hpl
  exact run_fn (us := .ref a :: us) (vs := .ref a :: vs) F hr hb hd hx I2 (.cons rfl r) q2
/-- o.m() -/
theorem pe_meth0 {pl : Sem Bool} (he : PE X o ta) (c : Cls X.K C) (hm : Meth X.K C m f) (F : FnOk X.prog X.w X.K X.mg X.base CX k f fd ps sp) (hr : Room k X.A) (hb : Binds X.K fd ps ds) (hd : Vals dvs ds) (hx : Passes CX X E)
    (ht : eval (.Call (.Attribute o m apos) [] [] pos) X.env = (do
      let ov ← eval o X.env
      standAt apos.atName
      let (f, first) ← holding [ov] (getMethod ov m pl)
      callWith pos f first (backTo pos (starEach [] X.env)) (backToKw pos (keywordEach [] X.env))) := by rfl) :
    PE X (.Call (.Attribute o m apos) [] [] pos) (tMeth C m sp dvs E ta tNil) := by
  intro pins s σ H Q I h
  refine PySem.W.methodCall_KW (pl := pl) (thn (he pins s σ H _ I h) fun u s1 ⟨x, H1, I1, rx, a, dx, fs, ex, ea, l, q⟩ => ?_) ht
  subst ex
  obtain rfl : u = Value.ref a := rx
  refine getmeth_ok I1 ea c hm l ?_
  exact PySem.W.callWith_K0 (first := [.ref a]) I1.kIn hm.kp (run_fn (us := [.ref a]) (vs := [.ref a]) F hr hb hd hx I1 (.cons rfl .nil) q)

/-- what a class must have to be made -/
structure Mk (K : PySem.W.Frag) (C f : Addr) : Prop where
  makes : PySem.W.makesIn K C = true
  init : PySem.W.findIn K (.ref C) "__init__" = some (some (.ref f))
  fn : PySem.W.isFn K (.ref f) = true
  kp : PySem.W.keepIn K (.ref C) = true

theorem run_make {pins : List (Addr × Obj)} {σ : St} {H : Hp} {s : Shared} {Q : VK} {us : List Value} {vs : List V} (M : Mk X.K C f) (F : FnOk X.prog X.w X.K X.mg X.base CX k f fd ps sp) (hr : Room (k + 1) X.A) (hb : Binds X.K fd ps ds) (hd : Vals dvs ds)
    (hx : Passes CX X E) (I : Inv X pins σ H s) (r : Vals vs us)
    (h : ∀ x dx, H x = none → H dx = none → dx ≠ x → sp (.ref x :: (vs ++ dvs)) (upd (upd H dx (.own x)) x (.ins C dx [])) (fun v H2 => v = .non ∧ Q (.ref x) H2) E) :
    wpAny (model X.prog X.w) X.A (call (.ref C) us) (EP X pins σ Q) X.xe s := by
  have hq := h (s.heap.objs.size + 1) s.heap.objs.size (I.hok.fresh (Nat.le_succ _)) (I.hok.fresh (Nat.le_refl _)) (Nat.ne_of_lt (Nat.lt_succ_self _))
  have I2 := Inv.made (C := C) I
  have r2 : Vals (V.ref (s.heap.objs.size + 1) :: (vs ++ dvs)) (Value.ref (s.heap.objs.size + 1) :: (us ++ ds)) := .cons rfl (r.append hd)
  have hl : (Value.ref (s.heap.objs.size + 1) :: us ++ ds).length = ps.length := by
    have e := r2.length
    rw [F.len _ _ _ _ hq] at e
    exact e.symm
  refine wpAny_call (make_map (f := f) I.kIn M.makes M.init (beq_iff_eq.mp M.fn) (codeAny_mono (F.run _ X.stack _ _ ⟨Value.ref (s.heap.objs.size + 1) :: us, []⟩ (Value.ref (s.heap.objs.size + 1) :: (us ++ ds)) _ _ E (hr.make C us [])
    (I2.env0.make C us []) (hb _ (Value.ref (s.heap.objs.size + 1) :: us) I2.kIn hl) r2 hq) fun r s' hq' => ?_))
  cases r with
  | error e => exact hx pins σ _ _ e s' I2 hq'
  | ok fl =>
    cases fl with
    | ret u =>
      obtain ⟨v, H', I3, rv, ev, q3⟩ := I2.after hq'
      subst ev
      exact ⟨rv, ⟨V.ref (s.heap.objs.size + 1), H', I3, rfl, q3⟩⟩
    | next => exact False.elim hq'
    | brk => exact False.elim hq'
    | cont => exact False.elim hq'
theorem pe_make0 (M : Mk X.K C f) (F : FnOk X.prog X.w X.K X.mg X.base CX k f fd ps sp) (hr : Room (k + 1) X.A) (hg : Gl X x) (hm : X.mg x = some (.ref C)) (hb : Binds X.K fd ps ds) (hd : Vals dvs ds) (hx : Passes CX X E)
    (hdb : (x == ("__debug__" : Str)) = false := by decide) : PE X (.Call (.Name x p) [] [] pos) (tMake C sp dvs E tNil) := by
  intro pins s σ H Q I h
  refine wpAny_Call_Name_kw (ld_glob I hg hm ?_ hdb)
  exact PySem.W.callWith_K0 I.kIn M.kp (run_make (us := []) M F hr hb hd hx I .nil h)
end
section
variable {X : Cx} {CX : CXT} {k : Nat} {f C : Addr} {fd : FuncData} {ps ks : List Str} {sp : Sp} {E : XK} {x m : Str} {p pos apos kpos : Pos} {e o : Expr} {es : List Expr} {kws : List Keyword} {te ta : TE} {t tk : TA} {nm : Option Str}
variable {g : List Value → List Value → List Value} {gV : List V → List V → List V}
end
/-- names: the parameters first -/
structure FnScope (N P : List Str) (sc : Scope) : Prop where
  kind : sc.kind = .function
  co : sc.isCoroutine = false
  gen : sc.isGenerator = false
  nd : N.Nodup
  pre : N.take P.length = P
  par : ∀ x ∈ P, sc.names.lookup x = some .local ∨ sc.names.lookup x = some .cell
  nofree : ∀ y ∈ sc.names, y.2 ≠ .free

theorem bindL_out {kindOf : Str → Option NameKind} {x : Str} : ∀ {binds : List (Str × Value)} {m : Str → Option Value}, (∀ v, (x, v) ∉ binds) → bindL kindOf binds m x = m x
  | [], _, _ => rfl
  | (n, v) :: r, m, h => by
    unfold bindL
    rw [bindL_out fun w hw => h w (List.mem_cons_of_mem _ hw)]
    split
    · have : x ≠ n := by rintro rfl; exact h v List.mem_cons_self
      simp [this]
    · rfl
theorem bindC_out {kindOf : Str → Option NameKind} {x : Str} : ∀ {binds : List (Str × Value)} {m : Str → Option Value}, (∀ v, (x, v) ∉ binds) → bindC kindOf binds m x = m x
  | [], _, _ => rfl
  | (n, v) :: r, m, h => by
    unfold bindC
    rw [bindC_out fun w hw => h w (List.mem_cons_of_mem _ hw)]
    split
    · rfl
    · have : x ≠ n := by rintro rfl; exact h v List.mem_cons_self
      simp [this]
theorem bindL_get {kindOf : Str → Option NameKind} {x : Str} {v : Value} : ∀ {P : List Str} {vs : List Value} {i : Nat} {m : Str → Option Value}, P.Nodup → P[i]? = some x → vs[i]? = some v → kindOf x = some .local →
    bindL kindOf (P.zip vs) m x = some v
  | [], _, _, _, _, h, _, _ => by simp at h
  | _ :: _, [], _, _, _, _, h, _ => by simp at h
  | p :: P, w :: vs, 0, m, nd, h1, h2, hk => by
    simp at h1 h2; subst h1; subst h2
    show bindL kindOf ((p, w) :: P.zip vs) m p = _
    unfold bindL
    rw [bindL_out fun v hv => (List.nodup_cons.mp nd).1 (List.of_mem_zip hv).1, if_pos hk]
    simp
  | p :: P, w :: vs, i + 1, m, nd, h1, h2, hk => by
    show bindL kindOf ((p, w) :: P.zip vs) m x = _
    unfold bindL
    exact bindL_get (i := i) (List.nodup_cons.mp nd).2 (by simpa using h1) (by simpa using h2) hk
theorem bindC_get {kindOf : Str → Option NameKind} {x : Str} {v : Value} : ∀ {P : List Str} {vs : List Value} {i : Nat} {m : Str → Option Value}, P.Nodup → P[i]? = some x → vs[i]? = some v → kindOf x ≠ some .local →
    bindC kindOf (P.zip vs) m x = some v
  | [], _, _, _, _, h, _, _ => by simp at h
  | _ :: _, [], _, _, _, _, h, _ => by simp at h
  | p :: P, w :: vs, 0, m, nd, h1, h2, hk => by
    simp at h1 h2; subst h1; subst h2
    show bindC kindOf ((p, w) :: P.zip vs) m p = _
    unfold bindC
    rw [bindC_out fun v hv => (List.nodup_cons.mp nd).1 (List.of_mem_zip hv).1, if_neg hk]
    simp
  | p :: P, w :: vs, i + 1, m, nd, h1, h2, hk => by
    show bindC kindOf ((p, w) :: P.zip vs) m x = _
    unfold bindC
    exact bindC_get (i := i) (List.nodup_cons.mp nd).2 (by simpa using h1) (by simpa using h2) hk

/-- the names' values at the entry -/
def start (N : List Str) (vs : List V) : St := vs.map some ++ List.replicate (N.length - vs.length) none

/-- the context of a def's body, at its entry; an exception leaves the frame, then lies as CX says -/
def cxOf (CX : CXT) (P : Program) (w : World) (K : PySem.W.Frag) (mg : Str → Option Value) (base : Heap) (N : List Str) (qual : Str) (scope : Scope) (f : Addr) (cd : Value) (A : Around) (outer : List Env) (s : Shared) (H : Hp) (E : XK) : Cx where
  prog := P
  w := w
  K := K
  mg := mg
  base := base
  A := A.deeper (envOfC qual scope s.heap.objs.size f cd)
  N := N
  s_0 := s
  H_0 := H
  env := envOfC qual scope s.heap.objs.size f cd
  outer := outer
  stack := envOfC qual scope s.heap.objs.size f cd :: outer
  ex := []
  calm := true
  fn := fun _ => true
  pn := []
  xe := fun e s' => wpAny (model P w) (A.deeper (envOfC qual scope s.heap.objs.size f cd)) (leaving (envOfC qual scope s.heap.objs.size f cd) e) (fun _ s'' => CX outer H s E e s'') (fun e' s'' => CX outer H s E e' s'') s'

theorem cell_has {sc : Scope} {n : Nat} {x : Str} (h : sc.names.lookup x = some .cell) : ∃ c, (cellsFrom n sc.names []).lookup x = some c := by
  have q := PySem.W.cellsFrom_some sc.names n [] (.inl h)
  exact Option.isSome_iff_exists.mp q

theorem inv_start {CX : CXT} {P : Program} {w : World} {K : PySem.W.Frag} {mg : Str → Option Value} {base : Heap} {N ps : List Str} {qual : Str} {scope : Scope} {f : Addr} {cd : Value} {A : Around} {outer : List Env} {s s1 : Shared} {H : Hp} {E : XK} {us : List Value} {vs : List V}
    (S : FnScope N ps scope) (hd : A.handled = none) (e0 : Env0 P w K mg base A outer s H) (hl : vs.length = ps.length) (r : Vals vs us)
    (x : InCallC s s.heap.objs.size (bindL (envOfC qual scope s.heap.objs.size f cd).kindOf (ps.zip us) fun _ => none) (cellsFrom (s.heap.objs.size + 1) scope.names []) (bindC (envOfC qual scope s.heap.objs.size f cd).kindOf (ps.zip us) fun _ => none) s1) :
    Inv (cxOf CX P w K mg base N qual scope f cd A outer s H E) [] (start N vs) H s1 := by
  have hpl : ps.length ≤ N.length := by have := congrArg List.length S.pre; rw [List.length_take] at this; omega
  obtain ⟨h1, tk, rfl, hk⟩ := x.done
  have noA : ∀ b : Addr, b ∉ (cxOf CX P w K mg base N qual scope f cd A outer s H E).ex := fun b z => absurd (show b ∈ ([] : List Addr) from z) (by simp)
  refine ⟨⟨e0.mod, S.kind, rfl, rfl, Nat.le_refl _, fun y z c h1 h2 => ?_, fun y hy => ?_, fun y c _ h => ?_, fun _ => hd, Around.frames_deeper e0.frames, .inr ⟨rfl, rfl⟩, fun b z => absurd z (noA b), e0.bs, e0.bsz, fun b _ _ => noA b, fun b z => absurd z (noA b), e0.funs, e0.frf⟩,
    rfl, e0.bare, Un.kept hk, ⟨_, x.toInCall.ns, fun i y v h1 h2 h3 => ?_⟩, fun y c h => ⟨_, x.cell y c h⟩, e0.hok.fresh (Nat.le_refl _), fun y c h => ?_, fun p hp => absurd (show p ∈ ([] : List (Addr × Obj)) from hp) (by simp), e0.hok.kept hk, ?_⟩
  · exact name_of_addr x.apart (PySem.mem_of_lookup h1) (PySem.mem_of_lookup h2)
  · have hy : scope.names.lookup y = some .cell ∨ scope.names.lookup y = some .free := hy
    rcases hy with hy | hy
    · exact cell_has hy
    · exact absurd rfl (S.nofree _ (PySem.mem_of_lookup hy))
  · exact Nat.le_of_lt (x.above y c (PySem.mem_of_lookup h))
  · have hi : i < vs.length := by
      unfold start at h2
      by_cases hi : i < vs.length
      · exact hi
      · rw [List.getElem?_append_right (by simpa using hi)] at h2
        rw [List.getElem?_replicate] at h2
        split at h2 <;> cases h2
    have ha : vs[i]? = some v := by
      unfold start at h2
      rw [List.getElem?_append_left (by simpa using hi), List.getElem?_map] at h2
      cases e : vs[i]? with
      | none => rw [e] at h2; cases h2
      | some a => rw [e] at h2; cases h2; rfl
    obtain ⟨u, hu, rv⟩ := r.get ha
    have hp : ps[i]? = some y := by
      rw [← S.pre, List.getElem?_take_of_lt (by omega)]; exact h1
    have ndP : ps.Nodup := by rw [← S.pre]; exact S.nd.sublist (List.take_sublist _ _)
    refine ⟨u, rv, ?_⟩
    rcases S.par y (List.mem_of_getElem? hp) with k | k
    · exact .inl ⟨k, bindL_get ndP hp hu k⟩
    · obtain ⟨c, e⟩ := cell_has (n := s.heap.objs.size + 1) k
      refine .inr ⟨.inl k, c, e, ?_⟩
      have q := x.cell y c e
      rw [bindC_get ndP hp hu (by show scope.names.lookup y ≠ _; rw [k]; decide)] at q
      exact q
  · exact e0.hok.fresh (Nat.le_of_lt (x.above y c (PySem.mem_of_lookup h)))
  · unfold start
    show _ = N.length
    rw [List.length_append, List.length_map, List.length_replicate]
    omega

/-- THE RULE: a def (or a method) of the text, by its body. The body's reading t is chosen for each entry; it is run at the parameters' values -/
theorem fn_of {CX : CXT} {P : Program} {w : World} {K : PySem.W.Frag} {mg : Str → Option Value} {base : Heap} {k : Nat} {f : Addr} {name qual : Str} {params : Arguments} {body : List Stmt} {scope : Scope} {dV kV doc pm cdv ct oc : Value} {an od : Option Addr}
    {osl : Array (Option Value)} {N ps : List Str} {sp : Sp} (lk : K.lookup f = some ⟨oc, od, .func (PySem.W.fnOf name qual params body scope dV kV doc pm an cdv ct), osl⟩) (hcd : PySem.W.codeIn K cdv qual = true) (S : FnScope N ps scope)
    (len : ∀ vs H Q E, sp vs H Q E → vs.length = ps.length)
    (hbody : ∀ (A : Around) (outer : List Env) (s : Shared) (H : Hp) (vs : List V) (Q : VK) (E : XK), Room k (A.deeper (envOfC qual scope s.heap.objs.size f cdv)) → sp vs H Q E →
      ∃ t, PSs (cxOf CX P w K mg base N qual scope f cdv A outer s H E) body t ∧ t { nx := fun _ H' => Q .non H', rt := Q } (start N vs) H) :
    FnOk P w K mg base CX (k + 1) f (PySem.W.fnOf name qual params body scope dV kV doc pm an cdv ct) ps sp := by
  refine ⟨len, fun A outer s H args us vs Q E hr e0 hb r hsp => ?_⟩
  have hl := len _ _ _ _ hsp
  have KX : K.In s.heap := e0.mod.kin.keeps fun b o e => (e0.bs b o e).1
  have lim : s.heap.NoLimit := e0.mod.nolimit.keeps fun b o e => (e0.bs b o e).1
  have hkind : ∀ y ∈ ps.zip us, scope.names.lookup y.1 = some .local ∨ (scope.names.lookup y.1 = some .cell ∧ ((cellsFrom (s.heap.objs.size + 1) scope.names []).lookup y.1).isSome = true) := fun ⟨n, v⟩ hy => by
    rcases S.par n (List.of_mem_zip hy).1 with q | q
    · exact .inl q
    · exact .inr ⟨q, PySem.W.cellsFrom_some _ _ _ (.inl q)⟩
  refine codeAny_call_function hr.depth (KX _ _ lk) rfl S.co S.gen rfl (PySem.W.codeRec_of KX hcd) (hb _ _ _ _ ?_)
  refine wpAny_newFunctionEnv_cells S.kind hkind fun env he s1 x => ?_
  subst he
  refine ⟨lim.keeps x.toInCall.keep, codeAny_func ?_⟩
  obtain ⟨t, ht, hq⟩ := hbody A outer s H vs Q E (hr.deeper _) hsp
  have I : Inv (cxOf CX P w K mg base N qual scope f cdv A outer s H E) [] (start N vs) H s1 := inv_start S hr.hd e0 hl r x
  refine wpAny_mono (ht [] s1 (start N vs) H _ I hq) (fun fl s' hs => ?_) fun e s' hs => hs
  have fin : ∀ {σ' : St} {H' : Hp} {v : V} {u : Value}, Inv (cxOf CX P w K mg base N qual scope f cdv A outer s H E) [] σ' H' s' → RelV v u → Q v H' → CE outer P w H s Q u s' :=
    fun {σ' H' v u} J rv q => ⟨v, H', J.os, J.bare, J.base, J.hok, rv, q⟩
  cases fl with
  | ret u =>
    obtain ⟨v, σ', H', J, rv, q⟩ := hs
    exact fin J rv q
  | next =>
    obtain ⟨σ', H', J, q⟩ := hs
    exact fin (v := V.non) (u := Value.none) J rfl q
  | brk =>
    obtain ⟨_, _, _, q⟩ := hs
    exact False.elim q
  | cont =>
    obtain ⟨_, _, _, q⟩ := hs
    exact False.elim q
end L2
namespace L2
open PySem PySem.Spec PyProof.Rows
section
variable {X : Cx} {x : Str} {p pos : Pos} {e : Expr} {es : List Expr} {t : TA} {id T : String} {r : List V → Hp → VK → Prop}
def tCB (r : List V → Hp → VK → Prop) (t : TA) : TE := fun σ H Q => t σ H fun vs H1 => r vs H1 Q
/-- f(e, ..), f a built-in function -/
theorem pe_callB (hc : CallR X (.builtin id) r) (hg : Gl X x) (hm : X.mg x = none) (hv : bootBuiltins x = some (.builtin id)) (ha : PA X (e :: es) t) (hn : x ≠ "__name__" := by decide) (hdb : (x == ("__debug__" : Str)) = false := by decide)
    (he : starEach (e :: es) X.env = (false, eval e X.env) :: starEach es X.env := by rfl) (hpl : (backTo pos (starEach es X.env)).any (·.1) = false := by rfl) : PE X (.Call (.Name x p) (e :: es) [] pos) (tCB r t) := by
  intro pins s σ H Q I h
  refine wpAny_Call_Name_kw (ld_blt I hg hm hv ?_ hn hdb)
  exact PyProof.Rows.callWith_builtin1 (thn (ha pos pins s σ H _ I h) fun us s1 ⟨vs, H1, I1, r1, q1⟩ => hc pins s1 σ H1 vs us Q I1 r1 q1) he hpl
/-- T(e, ..), T a built-in type -/
theorem pe_callTy (hc : CallR X (.type T) r) (hg : Gl X x) (hm : X.mg x = none) (hv : bootBuiltins x = some (.type T)) (ha : PA X (e :: es) t) (hn : x ≠ "__name__" := by decide) (hdb : (x == ("__debug__" : Str)) = false := by decide)
    (he : starEach (e :: es) X.env = (false, eval e X.env) :: starEach es X.env := by rfl) (hpl : (backTo pos (starEach es X.env)).any (·.1) = false := by rfl) : PE X (.Call (.Name x p) (e :: es) [] pos) (tCB r t) := by
  intro pins s σ H Q I h
  refine wpAny_Call_Name_kw (ld_blt I hg hm hv ?_ hn hdb)
  exact PyProof.Rows.callWith_type1 (thn (ha pos pins s σ H _ I h) fun us s1 ⟨vs, H1, I1, r1, q1⟩ => hc pins s1 σ H1 vs us Q I1 r1 q1) he hpl
end
end L2
namespace HT
open PySem PyProof.Rows
section
open PySem.SeqAt
open PySem.AutoSeq1 (wpAny_loadPart')
open PySem.MeetsSeq PySem.MeetsSeq2 PySem.MeetsSeq3
end
section
variable {prog : Program} {w : World} {A : Around} {E : Value → Shared → Prop} {s : Shared}
/-- a slice's bound as a place among n (d where it is left out) -/
def sIx (n d : Nat) : Option Int → Nat
  | none => d
  | some v => if v < 0 then (v + (n : Int)).toNat else min v.toNat n
theorem sIx_nat (n d k : Nat) : sIx n d (some (k : Int)) = min k n := by
  show (if (k : Int) < 0 then ((k : Int) + (n : Int)).toNat else min (k : Int).toNat n) = min k n
  rw [if_neg (by omega), Int.toNat_natCast]
end
end HT
namespace L2
open PySem PySem.Spec PyProof.Rows
abbrev TO := St → Hp → (Option Int → Hp → Prop) → Prop
/-- a slice's part (left out, or an int) -/
def PO (X : Cx) (e : Option Expr) (t : TO) : Prop :=
  ∀ (pins : List (Addr × Obj)) (s : Shared) (σ : St) (H : Hp) (Q : Option Int → Hp → Prop), Inv X pins σ H s → t σ H Q →
    wpAny (model X.prog X.w) X.A (evalPart e X.env) (fun u s' => ∃ o H', Inv X pins σ H' s' ∧ IsPart u o ∧ Q o H') X.xe s
def tNoPart : TO := fun _ H Q => Q none H
def tPart (t : TE) : TO := fun σ H Q => t σ H fun x H1 => ∃ i, x = .int i ∧ Q (some i) H1

section
variable {X : Cx} {e : Expr} {te : TE} {lo hi : Option Expr} {tl th : TO} {pos p2 : Pos}
theorem po_none : PO X none tNoPart := by
  intro pins s σ H Q I h
  rw [evalPart_none]
  exact wpAny_pure ⟨none, H, I, .none, h⟩
theorem po_some (h : PE X e te) : PO X (some e) (tPart te) := by
  intro pins s σ H Q I hw
  rw [evalPart_some]
  refine thn (h pins s σ H _ I hw) fun u s1 ⟨x, H1, I1, r1, q1⟩ => ?_
  obtain ⟨i, rfl, q⟩ := q1
  obtain ⟨t, rfl⟩ := r1
  exact ⟨some i, H1, I1, .int i t, q⟩

/-- what a slice of a value is, by values: the slice object stands at sl -/
def SlR (X : Cx) (r : V → Option Int → Option Int → Hp → VK → Prop) : Prop :=
  ∀ (pins : List (Addr × Obj)) (s : Shared) (σ : St) (H : Hp) (x : V) (v vl vu : Value) (lo hi : Option Int) (sl : Addr) (Q : VK), Inv X pins σ H s → RelV x v → s.heap.IsSliceOf sl vl vu .none → IsPart vl lo → IsPart vu hi → r x lo hi H Q →
    ∃ T id, typeLookup (.type T) "__getitem__" = pure (some (.builtin id)) ∧ s.TypeIs v T ∧ wpAny (model X.prog X.w) X.A (getItem v (.ref sl)) (EP X pins σ Q) X.xe s
theorem SlR.or {r r' : V → Option Int → Option Int → Hp → VK → Prop} (h : SlR X r) (h' : SlR X r') : SlR X (fun x lo hi H Q => r x lo hi H Q ∨ r' x lo hi H Q) := by
  intro pins s σ H x v vl vu lo hi sl Q I rx hs pl pu q
  rcases q with q | q
  · exact h pins s σ H x v vl vu lo hi sl Q I rx hs pl pu q
  · exact h' pins s σ H x v vl vu lo hi sl Q I rx hs pl pu q
def tSl (r : V → Option Int → Option Int → Hp → VK → Prop) (te : TE) (tl th : TO) : TE := fun σ H Q => te σ H fun x H1 => tl σ H1 fun l H2 => th σ H2 fun u H3 => r x l u H3 Q
/-- a[lo:hi], any a -/
theorem pe_slice {r : V → Option Int → Option Int → Hp → VK → Prop} (hr : SlR X r) (he : PE X e te) (hl : PO X lo tl) (hu : PO X hi th) : PE X (.Subscript e (.Slice lo hi none p2) pos) (tSl r te tl th) := by
  intro pins s σ H Q I h
  refine Subscript_ (thn (he pins s σ H _ I h) fun v s1 ⟨x, H1, I1, r1, q1⟩ => ?_)
  refine wpAny_Slice (thn (hl pins s1 σ H1 _ I1 q1) fun vl s2 ⟨l, H2, I2, pl, q2⟩ => thn (hu pins s2 σ H2 _ I2 q2) fun vu s3 ⟨u, H3, I3, pu, q3⟩ => ?_)
  rw [evalPart_none]
  refine wpAny_pure ?_
  have I4 : Inv X pins σ H3 { s3 with heap := s3.heap.push { cls := .type "slice", data := .fields #[vl, vu, .none] } } := I3.kept (t' := s3.toks) fun b ob q => Heap.get?_push_of_some _ q
  obtain ⟨T, id, hT, ht, hg⟩ := hr pins { s3 with heap := s3.heap.push { cls := .type "slice", data := .fields #[vl, vu, .none] } } σ H3 x v vl vu l u s3.heap.objs.size Q I4 r1 (Heap.IsSliceOf.new ..) pl pu q3
  show wpAny (model X.prog X.w) X.A (subscriptTail e (.Slice lo hi none p2) v (.ref s3.heap.objs.size)) (EP X pins σ Q) X.xe { s3 with heap := s3.heap.push { cls := .type "slice", data := .fields #[vl, vu, .none] } }
  exact tail_any (ops := [.ref s3.heap.objs.size, v]) ht hT hg (by with_unfolding_all rfl)

/-- the items of xs[lo:hi] -/
def cutV (xs : List V) (lo hi : Option Int) : List V := (xs.drop (HT.sIx xs.length 0 lo)).take (HT.sIx xs.length xs.length hi - HT.sIx xs.length 0 lo)
theorem cutV_length (xs : List V) (lo hi : Option Int) : (cutV xs lo hi).length ≤ xs.length := by
  unfold cutV
  rw [List.length_take, List.length_drop]
  omega
end
end L2
namespace L2
open PySem PySem.Spec PyProof.Rows
/-- the place that an index of any sign means -/
def ixN (n : Nat) (i : Int) : Option Nat := if 0 ≤ i then (if i < n then some i.toNat else none) else if -(n : Int) ≤ i then some (i + n).toNat else none
def atI {α : Type} (xs : List α) (i : Int) : Option α := (ixN xs.length i).bind fun j => xs[j]?
theorem ixN_seq {n : Nat} {i : Int} {j : Nat} (h : ixN n i = some j) : seqIndex? i n = some j ∧ j < n ∧ -(n : Int) ≤ i ∧ i < n := by
  unfold ixN at h
  by_cases h0 : 0 ≤ i
  · rw [if_pos h0] at h
    by_cases h1 : i < n
    · rw [if_pos h1] at h
      have e : i.toNat = j := Option.some.inj h
      exact ⟨by rw [seqIndex_of h0 h1, e], by omega, by omega, h1⟩
    · rw [if_neg h1] at h; cases h
  · rw [if_neg h0] at h
    by_cases h1 : -(n : Int) ≤ i
    · rw [if_pos h1] at h
      have e : (i + n).toNat = j := Option.some.inj h
      exact ⟨by rw [seqIndex_neg (by omega) h1, e], by omega, h1, by omega⟩
    · rw [if_neg h1] at h; cases h
theorem atI_get {α : Type} {xs : List α} {i : Int} {v : α} (h : atI xs i = some v) : ∃ j, seqIndex? i xs.length = some j ∧ xs[j]? = some v ∧ j < xs.length ∧ -(xs.length : Int) ≤ i ∧ i < xs.length := by
  unfold atI at h
  cases e : ixN xs.length i with
  | none => rw [e] at h; cases h
  | some j =>
    rw [e] at h
    obtain ⟨h1, h2, h3, h4⟩ := ixN_seq e
    exact ⟨j, h1, h, h2, h3, h4⟩
theorem atI_nat {α : Type} {xs : List α} {j : Nat} {v : α} (h : xs[j]? = some v) : atI xs (j : Int) = some v := by
  have hj : j < xs.length := (List.getElem?_eq_some_iff.mp h).1
  have e : ixN xs.length (j : Int) = some j := by
    unfold ixN
    rw [if_pos (by omega), if_pos (by omega)]; simp
  unfold atI; rw [e]; exact h
/-- what stands as an index of a plain subscript -/
def PlainIx (b : Expr) : Prop := ∀ o i, subscripted b false o i = operate [o, i] (getItem o i)
/-- a subscript by values -/
def IxR (X : Cx) (r : R2) : Prop :=
  ∀ (value slice : Expr) (pins : List (Addr × Obj)) (s : Shared) (σ : St) (H : Hp) (x y : V) (v u : Value) (Q : VK), Inv X pins σ H s → RelV x v → RelV y u → r x y H Q →
    subscripted slice false v u = operate [v, u] (getItem v u) → wpAny (model X.prog X.w) X.A (subscriptTail value slice v u) (EP X pins σ Q) X.xe s
/-- a call of a builtin's method by values: the receiver, the arguments -/
def MtR (X : Cx) (id : String) (r : V → List V → Hp → VK → Prop) : Prop :=
  ∀ (pins : List (Addr × Obj)) (s : Shared) (σ : St) (H : Hp) (x : V) (xs : List V) (v : Value) (us : List Value) (Q : VK), Inv X pins σ H s → RelV x v → Vals xs us → r x xs H Q →
    wpAny (model X.prog X.w) X.A (call (.builtin id) (v :: us)) (EP X pins σ Q) X.xe s
section
variable {X : Cx} {a b : Expr} {ta tb : TE} {pos : Pos}
theorem IxR.or {r r' : R2} (h : IxR X r) (h' : IxR X r') : IxR X (fun x y H Q => r x y H Q ∨ r' x y H Q) := by
  intro value slice pins s σ H x y v u Q I rx ry q hs
  rcases q with q | q
  · exact h value slice pins s σ H x y v u Q I rx ry q hs
  · exact h' value slice pins s σ H x y v u Q I rx ry q hs
theorem MtR.or {id : String} {r r' : V → List V → Hp → VK → Prop} (h : MtR X id r) (h' : MtR X id r') : MtR X id (fun x xs H Q => r x xs H Q ∨ r' x xs H Q) := by
  intro pins s σ H x xs v us Q I rx rs q
  rcases q with q | q
  · exact h pins s σ H x xs v us Q I rx rs q
  · exact h' pins s σ H x xs v us Q I rx rs q
/-- a[b] -/
theorem pe_ix {r : R2} (hr : IxR X r) (ha : PE X a ta) (hb : PE X b tb) (hs : PlainIx b) : PE X (.Subscript a b pos) (tOp r ta tb) := by
  intro pins s σ H Q I h
  exact Subscript_ (binT ha hb I h fun v u s2 x y H2 I2 rx ry q => hr a b pins s2 σ H2 x y v u Q I2 rx ry q (hs _ _))

def rIxL (K : PySem.W.Frag) : R2 := fun x y H Q => ∃ p xs i v, x = .ref p ∧ y = .int i ∧ SqL K H p xs ∧ atI xs i = some v ∧ Q v H
def rIxT (K : PySem.W.Frag) : R2 := fun x y H Q => ∃ p xs i v, x = .ref p ∧ y = .int i ∧ SqT K H p xs ∧ atI xs i = some v ∧ Q v H
theorem ix_list : IxR X (rIxL X.K) := by
  intro value slice pins s σ H x y v u Q I rx ry h hs
  obtain ⟨p, xs, i, z, rfl, rfl, hq, he, q⟩ := h
  cases rx
  obtain ⟨t, rfl⟩ := ry
  obtain ⟨its, r, pl, hz⟩ := I.list hq
  obtain ⟨j, h1, h2, h3, h4, h5⟩ := atI_get he
  obtain ⟨w, ew, rw'⟩ := r.get h2
  have hl := r.length
  have hn := line63
  have fin : EP X pins σ Q w s := ⟨z, H, I, rw', q⟩
  by_cases h0 : 0 ≤ i
  · have hj : i.toNat = j := by
      rw [seqIndex_of h0 h5] at h1
      exact Option.some.inj h1
    exact item_listR pl.isList h0 (by omega) (by rw [hj]; simpa using ew) fin hs
  · have hj : (i + (its.toArray.size : Int)).toNat = j := by
      rw [seqIndex_neg (by omega) h4] at h1
      rw [List.size_toArray, ← hl]
      exact Option.some.inj h1
    exact subscriptTail_builtinR (x := w) pl.isList.typeIs slot_list_getitem.lookup
      (wpAny_getItem_list_neg (Q := fun r s' => r = w ∧ EP X pins σ Q r s') pl.isList (by omega) (by rw [List.size_toArray] <;> omega) (by omega) (by rw [hj]; simpa using ew) ⟨rfl, fin⟩) hs
theorem ix_tup : IxR X (rIxT X.K) := by
  intro value slice pins s σ H x y v u Q I rx ry h hs
  obtain ⟨p, xs, i, z, rfl, rfl, hq, he, q⟩ := h
  cases rx
  obtain ⟨t, rfl⟩ := ry
  obtain ⟨its, r, pl, hz⟩ := I.tuple hq
  obtain ⟨j, h1, h2, h3, h4, h5⟩ := atI_get he
  obtain ⟨w, ew, rw'⟩ := r.get h2
  have hl := r.length
  have hn := line63
  have fin : EP X pins σ Q w s := ⟨z, H, I, rw', q⟩
  exact subscriptTail_builtinR (x := w) pl.typeIs slot_tuple_getitem.lookup
    (getItem_tuple (j := j) (Q := fun r s' => r = w ∧ EP X pins σ Q r s') pl (by omega) (by omega) (by rw [List.size_toArray, ← hl]; exact h1) (by simpa using ew) ⟨rfl, fin⟩) hs
/-- the list's object behind a store -/
theorem mapSeq_set (its : List Value) (n j : Nat) (u : Value) : Obj.mapSeq (·.setIfInBounds j u) { cls := .type "list", data := .seq its.toArray n } = { cls := .type "list", data := .seq (its.set j u).toArray n } := by
  simp [Obj.mapSeq]
theorem Inv.lst {pins : List (Addr × Obj)} {σ : St} {H : Hp} {s : Shared} {p : Addr} {xs : List V} (I : Inv X pins σ H s) (h : H p = some (.lst xs)) :
    ∃ (its : List Value) (n : Nat), Vals xs its ∧ s.heap.get? p = some { cls := .type "list", data := .seq its.toArray n } ∧ xs.length ≤ sizeLine := by
  obtain ⟨z, its, n, r, e⟩ := I.hok p _ h
  exact ⟨its, n, r, e, z⟩
/-- the list at p is written by an update of its object -/
theorem Inv.lstUpd {pins : List (Addr × Obj)} {σ : St} {H : Hp} {s : Shared} {p : Addr} {xs ys : List V} {its its' : List Value} {n n' : Nat} {f : Obj → Obj} (I : Inv X pins σ H s) (h : H p = some (.lst xs))
    (ho : s.heap.get? p = some { cls := .type "list", data := .seq its.toArray n }) (hf : f { cls := .type "list", data := .seq its.toArray n } = { cls := .type "list", data := .seq its'.toArray n' }) (r : Vals ys its') (hz : ys.length ≤ sizeLine) (t : Nat) :
    Inv X pins σ (upd H p (.lst ys)) { s with heap := s.heap.update p f, toks := t } := by
  have e : (s.heap.update p f).get? p = some { cls := .type "list", data := .seq its'.toArray n' } := by
    rw [Heap.get?_update_self f ho (by rw [hf] <;> rfl), hf]
  refine I.write (x := p) (e := p) (by rw [h]; trivial) (.inl rfl) (fun b u hb q => (Heap.get?_update_other _ _ (Ne.symm hb)).trans q) ⟨_, e⟩ ?_
  exact ⟨hz, its', n', r, e⟩
def rSetL : V → V → V → Hp → (Hp → Prop) → Prop := fun o i v H Q => ∃ p xs k j, o = .ref p ∧ i = .int k ∧ H p = some (.lst xs) ∧ ixN xs.length k = some j ∧ Q (upd H p (.lst (xs.set j v)))
theorem set_list : PSet X rSetL := by
  intro pins s σ H o i v ov iv u Q I ro ri rv h
  obtain ⟨p, xs, k, j, rfl, rfl, hp, hj, q⟩ := h
  cases ro
  obtain ⟨t, rfl⟩ := ri
  obtain ⟨its, n, r, ho, hz⟩ := I.lst hp
  obtain ⟨h1, h2, h3, h4⟩ := ixN_seq hj
  have hl := r.length
  have hn := line63
  have I' : Inv X pins σ (upd H p (.lst (xs.set j v))) { s with heap := s.heap.update p (Obj.mapSeq (·.setIfInBounds j u)) } :=
    I.lstUpd hp ho (mapSeq_set its n j u) (r.set rv j) (by rw [List.length_set]; exact hz) s.toks
  by_cases h0 : 0 ≤ k
  · have hk : k.toNat = j := by
      rw [seqIndex_of h0 h4] at h1
      exact Option.some.inj h1
    exact PySem.W.ki_setAt ho h0 (by omega) (by rw [List.size_toArray, ← hl]; exact h4) (by rw [hk]; exact ⟨_, I', q⟩)
  · have hk : (k + (its.toArray.size : Int)).toNat = j := by
      rw [seqIndex_neg (by omega) h3] at h1
      rw [List.size_toArray, ← hl]
      exact Option.some.inj h1
    exact PySem.W.ki_setBack ho (by omega) (by rw [List.size_toArray, ← hl]; exact h3) (by omega) (by rw [hk]; exact ⟨_, I', q⟩)

theorem slice_bounds (lo hi : Option Int) (n : Nat) : (sliceBounds lo hi none n).1 = ((HT.sIx n 0 lo : Nat) : Int) ∧ (sliceBounds lo hi none n).2.1 = ((HT.sIx n n hi : Nat) : Int) ∧ (sliceBounds lo hi none n).2.2 = 1 := by
  refine ⟨?_, ?_, rfl⟩
  · cases lo with
    | none => simp [sliceBounds, HT.sIx]
    | some i =>
      simp only [sliceBounds, HT.sIx, Option.getD_none, show (1 : Int) > 0 by decide, if_true]
      by_cases h : i < 0
      · simp only [h, if_true] <;> omega
      · simp only [h, if_false] <;> omega
  · cases hi with
    | none => simp [sliceBounds, HT.sIx]
    | some i =>
      simp only [sliceBounds, HT.sIx, Option.getD_none, show (1 : Int) > 0 by decide, if_true]
      by_cases h : i < 0
      · simp only [h, if_true] <;> omega
      · simp only [h, if_false] <;> omega
theorem slicePick_cut (its : List Value) (lo hi : Option Int) : slicePick its.toArray lo hi none = ((its.drop (HT.sIx its.length 0 lo)).take (HT.sIx its.length its.length hi - HT.sIx its.length 0 lo)).toArray := by
  obtain ⟨h1, h2, h3⟩ := slice_bounds lo hi its.toArray.size
  unfold slicePick
  rw [h1, h2, h3]
  simp only [sliceRange_one, pick_run, List.size_toArray] <;> rfl
/-- xs[lo:hi] of a list: a new list -/
def rSlL (K : PySem.W.Frag) : V → Option Int → Option Int → Hp → VK → Prop := fun x lo hi H Q => ∃ a xs, x = .ref a ∧ SqL K H a xs ∧ ∀ p, H p = none → Q (.ref p) (upd H p (.lst (cutV xs lo hi)))
theorem sl_list : SlR X (rSlL X.K) := by
  intro pins s σ H x v vl vu lo hi sl Q I rx hs pl pu h
  obtain ⟨a, xs, rfl, hx, q⟩ := h
  cases rx
  obtain ⟨its, r, ht, hz⟩ := I.list hx
  have hlen := r.length
  refine ⟨"list", _, slot_list_getitem.lookup, ht.isList.typeIs, ?_⟩
  refine wpAny_getItem_list_slice ht.isList hs pl pu .none (by simp) ?_ (by rw [List.size_toArray] <;> omega)
  rw [slicePick_cut, ← hlen]
  refine ⟨.ref s.heap.objs.size, _, I.laid (t' := s.toks) (o := .lst (cutV xs lo hi)) (fun b ob q => Heap.get?_push_of_some _ q) (Nat.le_refl _) ?_, rfl, q _ (I.hok.fresh (Nat.le_refl _))⟩
  exact ⟨Nat.le_trans (cutV_length xs lo hi) hz, _, 0, (r.drop (HT.sIx xs.length 0 lo)).take (HT.sIx xs.length xs.length hi - HT.sIx xs.length 0 lo), Heap.get?_push_size _ rfl⟩

theorem call_len_seq : CallR X (.builtin "len") (fun xs H Q => ∃ p ys, xs = [.ref p] ∧ (SqL X.K H p ys ∨ SqT X.K H p ys) ∧ Q (.int ys.length) H) := by
  intro pins s σ H xs us Q I r h
  obtain ⟨p, ys, rfl, hq, q⟩ := h
  obtain ⟨u, rfl, rx⟩ := vals1 r
  cases rx
  have hn := line63
  rcases hq with hq | hq
  · obtain ⟨its, r', pl, hz⟩ := I.list hq
    have hlen := r'.length
    exact Calls.call_len_list pl.isList (by simp only [List.size_toArray] <;> omega) ⟨.int ys.length, H, I.tok _, ⟨s.toks + 1, by rw [List.size_toArray, hlen]⟩, q⟩
  · obtain ⟨its, r', pl, hz⟩ := I.tuple hq
    have hlen := r'.length
    exact len_tuple pl (by simp only [List.size_toArray] <;> omega) ⟨.int ys.length, H, I.tok _, ⟨s.toks + 1, by rw [List.size_toArray, hlen]⟩, q⟩
theorem CallR.or {f : Value} {r r' : List V → Hp → VK → Prop} (h : CallR X f r) (h' : CallR X f r') : CallR X f (fun xs H Q => r xs H Q ∨ r' xs H Q) := by
  intro pins s σ H xs us Q I rs q
  rcases q with q | q
  · exact h pins s σ H xs us Q I rs q
  · exact h' pins s σ H xs us Q I rs q
theorem call_list_of : CallR X (.type "list") (fun xs H Q => ∃ p ys, xs = [.ref p] ∧ (SqL X.K H p ys ∨ SqT X.K H p ys) ∧ ∀ l, H l = none → Q (.ref l) (upd H l (.lst ys))) := by
  intro pins s σ H xs us Q I r h
  obtain ⟨p, ys, rfl, hq, q⟩ := h
  obtain ⟨u, rfl, rx⟩ := vals1 r
  cases rx
  have fin : ∀ (its : List Value), Vals ys its → ys.length ≤ sizeLine → ∀ (h' : Heap) (c' : Nat), (∀ b o', s.heap.get? b = some o' → h'.get? b = some o') →
      h'.get? s.heap.objs.size = some { cls := .type "list", dict := none, data := .seq its.toArray c', slots := #[] } → EP X pins σ Q (.ref s.heap.objs.size) { s with heap := h' } := fun its r' hz h' c' kp e =>
    ⟨.ref s.heap.objs.size, _, I.laid (t' := s.toks) kp (Nat.le_refl _) (show ObjOk X.prog X.w _ h' _ (.lst ys) from ⟨hz, its, c', r', e⟩), rfl, q _ (I.hok.fresh (Nat.le_refl _))⟩
  rcases hq with hq | hq
  · obtain ⟨its, r', pl, hz⟩ := I.list hq
    have hlen := r'.length
    obtain ⟨o, ho, hc, n, hd⟩ := pl.isList
    exact call_list_seq p (.inl rfl) ho hc hd (fun h' c' kp e => fin its r' hz h' c' kp e) (by simp only [List.size_toArray] <;> omega)
  · obtain ⟨its, r', pl, hz⟩ := I.tuple hq
    have hlen := r'.length
    obtain ⟨o, ho, hc, n, hd⟩ := pl
    exact call_list_seq p (.inr rfl) ho hc hd (fun h' c' kp e => fin its r' hz h' c' kp e) (by simp only [List.size_toArray] <;> omega)
/-- the value is of that builtin type -/
def tyV (K : PySem.W.Frag) (T : String) (x : V) (H : Hp) : Prop := match x with
  | .str _ => T = "str"
  | .int _ => T = "int"
  | .ref p => (T = "list" ∧ ∃ xs, SqL K H p xs) ∨ (T = "tuple" ∧ ∃ o, K.lookup p = some o ∧ o.cls = .type "tuple" ∧ o.dict = none) ∨
      (T = "dict" ∧ ((∃ kvs, H p = some (.dK kvs)) ∨ ∃ kvs, H p = some (.dT kvs))) ∨ (T = "set" ∧ ∃ S n, H p = some (.set S n))
  | _ => False
theorem tyV_is {pins : List (Addr × Obj)} {σ : St} {H : Hp} {s : Shared} {T : String} {x : V} {v : Value} (I : Inv X pins σ H s) (r : RelV x v) (ty : tyV X.K T x H) :
    s.TypeIs v T ∧ ∀ a, v = .ref a → ∃ ob, s.heap.get? a = some ob ∧ ob.dict = none := by
  cases x with
  | str z =>
    obtain ⟨t, rfl⟩ := r
    cases (show T = "str" from ty)
    exact ⟨typeIs_str s z t, fun _ e => nomatch e⟩
  | int i =>
    obtain ⟨t, rfl⟩ := r
    cases (show T = "int" from ty)
    exact ⟨typeIs_int s i t, fun _ e => nomatch e⟩
  | ref p =>
    cases r
    rcases ty with ⟨rfl, xs, hq⟩ | ⟨rfl, o, hk, hc, hd⟩ | ⟨rfl, hk⟩ | ⟨rfl, S, n, hk⟩
    · obtain ⟨its, _, pl, _⟩ := I.list hq
      refine ⟨pl.isList.typeIs, fun a e => ?_⟩
      cases e
      obtain ⟨o, n, e, c, hd, _⟩ := pl
      exact ⟨o, e, hd⟩
    · refine ⟨⟨o, I.kIn p o hk, hc⟩, fun a e => ?_⟩
      cases e
      exact ⟨o, I.kIn _ o hk, hd⟩
    · have z : ∃ o, s.heap.get? p = some o ∧ o.ExactDict := by
        rcases hk with ⟨kvs, hk⟩ | ⟨kvs, hk⟩
        · obtain ⟨_, _, _, _, o, _, _, e, ex, _⟩ := I.hok p _ hk
          exact ⟨o, e, ex⟩
        · obtain ⟨_, _, _, _, o, _, _, e, ex, _⟩ := I.hok p _ hk
          exact ⟨o, e, ex⟩
      obtain ⟨o, e, ex⟩ := z
      refine ⟨⟨o, e, ex.1⟩, fun a e2 => ?_⟩
      cases e2
      exact ⟨o, e, ex.2.1⟩
    · obtain ⟨o, _, _, _, e, ex, _⟩ := I.hok p _ hk
      refine ⟨⟨o, e, ex.1⟩, fun a e2 => ?_⟩
      cases e2
      exact ⟨o, e, ex.2.1⟩
  | _ => exact False.elim ty
def tBM0 (K : PySem.W.Frag) (T : String) (r : V → List V → Hp → VK → Prop) (to : TE) : TE := fun σ H Q => to σ H fun x H1 => tyV K T x H1 ∧ r x [] H1 Q
def tBM (K : PySem.W.Frag) (T : String) (r : V → List V → Hp → VK → Prop) (to : TE) (t : TA) : TE := fun σ H Q => to σ H fun x H1 => tyV K T x H1 ∧ t σ H1 fun xs H2 => r x xs H2 Q
variable {o e : Expr} {es : List Expr} {to : TE} {t : TA} {name : Str} {apos cpos : Pos} {T id : String} {r : V → List V → Hp → VK → Prop}
theorem pe_bm (pa : PlainAttrs T) (slot : Slot T name id) (hty : typeOf (.builtin id) = pure (.type "method_descriptor")) (hm : MtR X id r) (ho : PE X o to) (ha : PA X (e :: es) t)
    (hbase : attributeBase o name X.env (eval o X.env) = eval o X.env := by rfl)
    (hfew : ((backTo cpos (starEach (e :: es) X.env)).all (fun x => !x.1) && (backToKw cpos (keywordEach [] X.env)).all (fun x => x.1.isSome)
      && decide ((e :: es).length + ([] : List Keyword).length + (if ([] : List Keyword).isEmpty then 0 else 1) < 30)) = true := by rfl)
    (hline : (apos.endLine == cpos.line) = true := by rfl) (hs : starEach (e :: es) X.env = (false, eval e X.env) :: starEach es X.env := by rfl) (hplain : (backTo cpos (starEach es X.env)).any (·.1) = false := by rfl) :
    PE X (.Call (.Attribute o name apos) (e :: es) [] cpos) (tBM X.K T r to t) := by
  intro pins s σ H Q I h
  refine wpAny_Call_method_late hbase hfew hline rfl (thn (ho pins s σ H _ I h) fun v s1 ⟨x, H1, I1, r1, ty, q1⟩ => ?_)
  obtain ⟨h1, h2⟩ := tyV_is I1 r1 ty
  refine ⟨T, id, pa, slot, hty, h1, h2, ?_⟩
  have hA := ha cpos pins s1 σ H1 _ I1 q1
  rw [hs] at hA ⊢
  refine Calls.callWith_builtin (by show (false || (backTo cpos (starEach es X.env)).any (·.1)) = false; rw [hplain] <;> rfl) (Calls.evalArgs_plain ?_)
  exact thn hA fun us s2 ⟨vs, H2, I2, r2, q2⟩ => hm pins s2 σ H2 x vs v us Q I2 r1 r2 q2
end
end L2
namespace L2
open PySem PySem.Spec PyProof.Rows
def MtM (X : Cx) (id : String) (r : V → List V → Hp → VK → Prop) : Prop :=
  ∀ (pins : List (Addr × Obj)) (s : Shared) (σ : St) (H : Hp) (x : V) (xs : List V) (v : Value) (us : List Value) (Q : VK), Inv X pins σ H s → RelV x v → Vals xs us → r x xs H Q →
    wpAny (model X.prog X.w) X.A (call (.builtin id) (v :: us)) (EP X pins σ Q) X.xe s

theorem Vals.one : ∀ {x : V} {us : List Value}, Vals [x] us → ∃ u, us = [u] ∧ RelV x u
  | _, _, .cons r .nil => ⟨_, rfl, r⟩
theorem Vals.two : ∀ {x y : V} {us : List Value}, Vals [x, y] us → ∃ u v, us = [u, v] ∧ RelV x u ∧ RelV y v
  | _, _, _, .cons r (.cons q .nil) => ⟨_, _, rfl, r, q⟩
theorem Vals.zero : ∀ {us : List Value}, Vals [] us → us = []
  | _, .nil => rfl
section
variable {X : Cx} {pins : List (Addr × Obj)} {σ : St} {H : Hp} {s : Shared} {l b : Addr} {xs ys zs : List V}
theorem Inv.lset {its its' : List Value} {n : Nat} {f : Array Value → Array Value} {t' : Nat} (I : Inv X pins σ H s) (hH : H l = some (.lst xs))
    (e : s.heap.get? l = some { cls := .type "list", data := .seq its.toArray n }) (hf : f its.toArray = its'.toArray) (hv : Vals ys its') (hz : ys.length ≤ sizeLine) :
    Inv X pins σ (upd H l (.lst ys)) { s with heap := s.heap.update l (Obj.mapSeq f), toks := t' } := by
  have q := PySem.IsL.update e f
  rw [hf] at q
  refine I.write (x := l) (e := l) (by rw [hH]; exact trivial) (.inl rfl) (fun b' u hb hu => (Heap.get?_update_other s.heap (Obj.mapSeq f) (Ne.symm hb)).trans hu) ⟨_, q⟩ ?_
  exact ⟨hz, its', _, hv, q⟩
theorem Inv.lnew {its : List Value} {t' : Nat} (I : Inv X pins σ H s) (hv : Vals ys its) (hz : ys.length ≤ sizeLine) :
    Inv X pins σ (upd H s.heap.objs.size (.lst ys)) { s with heap := s.heap.push { cls := .type "list", data := .seq its.toArray }, toks := t' } :=
  I.laid (fun _ _ q => Heap.get?_push_of_some _ q) (Nat.le_refl _) ⟨hz, its, 0, hv, Heap.get?_push_size _ rfl⟩
theorem Inv.fresh (I : Inv X pins σ H s) : H s.heap.objs.size = none := I.hok.fresh (Nat.le_refl _)
theorem Inv.lstM (I : Inv X pins σ H s) (hH : H l = some (.lst xs)) : xs.length ≤ sizeLine ∧ ∃ (its : List Value) (n : Nat), Vals xs its ∧ xs.length = its.length ∧ s.heap.get? l = some { cls := .type "list", data := .seq its.toArray n } := by
  obtain ⟨z, its, n, r, e⟩ := I.hok l _ hH
  exact ⟨z, its, n, r, r.length, e⟩

theorem notLongL {n : Nat} (h : n ≤ sizeLine) : Builtin.List.listTooLong n = false := by
  unfold Builtin.List.listTooLong
  exact decide_eq_false (by omega)
end
section
variable {X : Cx}
def rAppend : V → List V → Hp → VK → Prop := fun x vs H Q => ∃ l xs y, x = .ref l ∧ vs = [y] ∧ H l = some (.lst xs) ∧ xs.length < sizeLine ∧ Q .non (upd H l (.lst (xs ++ [y])))
theorem mt_append : MtM X "list.append" rAppend := by
  intro pins s σ H x vs v us Q I rx rv h
  obtain ⟨l, xs, y, rfl, rfl, hH, hz, q⟩ := h
  cases rx
  obtain ⟨u, rfl, ru⟩ := rv.one
  obtain ⟨z, its, n, r, hl, e⟩ := I.lstM hH
  refine call_meets F.slot_list_append ⟨_, e, rfl⟩ F.entry_list_append (F.args_list_append_2 _ _) (PySem.list_append l its.toArray n u (by rw [List.size_toArray]; omega)) ⟨e, ?_⟩
  refine ⟨.non, _, I.lset (its' := its ++ [u]) hH e (by simp) (r.append (.cons ru .nil)) ?_, rfl, q⟩
  rw [List.length_append, List.length_singleton]
  omega

def rExtend : V → List V → Hp → VK → Prop := fun x vs H Q => ∃ l b xs zs, x = .ref l ∧ vs = [.ref b] ∧ H l = some (.lst xs) ∧ H b = some (.lst zs) ∧ xs.length + zs.length ≤ sizeLine ∧ Q .non (upd H l (.lst (xs ++ zs)))
theorem mt_extend : MtM X "list.extend" rExtend := by
  intro pins s σ H x vs v us Q I rx rv h
  obtain ⟨l, b, xs, zs, rfl, rfl, hH, hB, hz, q⟩ := h
  cases rx
  obtain ⟨u, rfl, ru⟩ := rv.one
  cases ru
  obtain ⟨z, its, n, r, hl, e⟩ := I.lstM hH
  obtain ⟨z2, its2, n2, r2, hl2, e2⟩ := I.lstM hB
  have hsz : its.toArray.size + its2.toArray.size ≤ sizeLine := by rw [List.size_toArray, List.size_toArray]; omega
  have hlong : ¬ (!its.toArray.isEmpty && Builtin.List.listTooLong (its.toArray.size + its2.toArray.size)) = true := by
    rw [notLongL hsz, Bool.and_false]
    exact Bool.false_ne_true
  refine call_meets F.slot_list_extend ⟨_, e, rfl⟩ F.entry_list_extend (F.args_list_extend_2 _ _)
    (AutoSeq1.list_extend_list_list_0 l its.toArray n b its2.toArray n2 hlong (by rw [List.size_toArray]; omega) (by omega)) ⟨e, e2, ?_⟩
  refine ⟨.non, _, I.lset (its' := its ++ its2) hH e (by simp) (r.append r2) ?_, rfl, q⟩
  rw [List.length_append]
  omega

def rCat : R2 := fun x y H Q => ∃ l b xs zs, x = .ref l ∧ y = .ref b ∧ H l = some (.lst xs) ∧ H b = some (.lst zs) ∧ xs.length + zs.length ≤ sizeLine ∧ ∀ p, H p = none → Q (.ref p) (upd H p (.lst (xs ++ zs)))
theorem op_cat : OpR X (binaryOp .Add) rCat := by
  intro pins s σ H x y v u Q I rx ry h
  obtain ⟨l, b, xs, zs, rfl, rfl, hH, hB, hz, q⟩ := h
  cases rx
  cases ry
  obtain ⟨z, its, n, r, hl, e⟩ := I.lstM hH
  obtain ⟨z2, its2, n2, r2, hl2, e2⟩ := I.lstM hB
  refine PySem.P.add_list e e2 ?_ (by rw [List.size_toArray, List.size_toArray]; omega)
  have ea : its.toArray ++ its2.toArray = (its ++ its2).toArray := by simp
  rw [ea]
  exact ⟨.ref _, _, I.lnew (t' := s.toks) (r.append r2) (by rw [List.length_append]; omega), rfl, q _ I.fresh⟩
end
section
variable {prog : Program} {w : World} {A : Around} {E : Value → Shared → Prop} {s : Shared}
end
section
variable {X : Cx}
end
end L2
namespace L2
open PySem PySem.Spec PyProof.Rows
theorem Vals.ints : ∀ {ns : List Int} {us : List Value}, Vals (ns.map V.int) us → IntsAre us ns
  | [], us, h => by
    rw [List.map_nil] at h
    cases h
    exact IntsAre.nil
  | n :: ns, us, h => by
    rw [List.map_cons] at h
    cases h with
    | cons r t =>
      obtain ⟨k, rfl⟩ := r
      exact IntsAre.cons n k (Vals.ints t)
theorem Vals.bls : ∀ {bs : List Bool} {us : List Value}, Vals (bs.map V.bl) us → us = bs.map Value.bool
  | [], us, h => by
    rw [List.map_nil] at h
    cases h
    rfl
  | b :: bs, us, h => by
    rw [List.map_cons] at h
    cases h with
    | cons r t =>
      cases r
      rw [Vals.bls t, List.map_cons]
theorem Vals.ref1 {a : Addr} {us : List Value} (r : Vals [V.ref a] us) : us = [Value.ref a] := by
  cases r with
  | cons r t =>
    cases t
    cases r
    rfl
section
variable {prog : Program} {w : World} {A : Around} {E : Value → Shared → Prop} {s : Shared} {l : Addr} {its : List Value} {ns : List Int} {Q : Value → Shared → Prop}
theorem sum_raw (hh : A.handled = none) (hl : s.heap.IsList l its.toArray) (hi : IntsAre its ns)
    (h : ∀ h' tk t', (∀ b o, s.heap.get? b = some o → h'.get? b = some o) → Q (.int ns.sum t') { s with heap := h', toks := tk }) : wpAny (model prog w) A (call (.builtin "sum") [.ref l]) Q E s := by
  obtain ⟨xs, e⟩ := hi.allInts.items
  have hn : numsOf (intItems xs).toList = ns := by rw [← e]; exact hi.numsOf
  rw [nums_intItems] at hn
  rw [e] at hl
  refine PySem.sum_intListG hh hl fun h' tk t' hk => ?_
  have := h h' tk t' hk
  rw [preSum_eq, List.take_of_length_le (by simp), hn]; exact this
theorem max_raw (hh : A.handled = none) (hl : s.heap.IsList l its.toArray) (hi : IntsAre its ns) (hne : 0 < ns.length)
    (h : ∀ h' tk M t', (∀ b o, s.heap.get? b = some o → h'.get? b = some o) → M ∈ ns → (∀ a, a ∈ ns → a ≤ M) → Q (.int M t') { s with heap := h', toks := tk }) : wpAny (model prog w) A (call (.builtin "max") [.ref l]) Q E s := by
  obtain ⟨xs, e⟩ := hi.allInts.items
  have hn : numsOf (intItems xs).toList = ns := by rw [← e]; exact hi.numsOf
  rw [nums_intItems] at hn
  subst hn
  rw [e] at hl
  have hsz : 0 < xs.size := by simpa using hne
  refine PySem.max_intList hh hl hsz fun v h' tk hv hk => ?_
  obtain ⟨t, rfl⟩ := intItems_at hv
  obtain ⟨h1, h2⟩ := argBest_gt (numAt xs) (xs.size - 1)
  refine h h' tk _ t hk ?_ fun a ha => ?_
  · rw [numAt_eq]; exact PySem.getD_mem (by rw [List.length_map, Array.length_toList]; omega)
  · obtain ⟨j, hj, rfl⟩ := mem_getD ha
    rw [List.length_map, Array.length_toList] at hj
    rw [← numAt_eq]; exact h2 j (by omega)
theorem min_raw (hh : A.handled = none) (hl : s.heap.IsList l its.toArray) (hi : IntsAre its ns) (hne : 0 < ns.length)
    (h : ∀ h' tk M t', (∀ b o, s.heap.get? b = some o → h'.get? b = some o) → M ∈ ns → (∀ a, a ∈ ns → M ≤ a) → Q (.int M t') { s with heap := h', toks := tk }) : wpAny (model prog w) A (call (.builtin "min") [.ref l]) Q E s := by
  obtain ⟨xs, e⟩ := hi.allInts.items
  have hn : numsOf (intItems xs).toList = ns := by rw [← e]; exact hi.numsOf
  rw [nums_intItems] at hn
  subst hn
  rw [e] at hl
  have hsz : 0 < xs.size := by simpa using hne
  refine PySem.min_intList hh hl hsz fun v h' tk hv hk => ?_
  obtain ⟨t, rfl⟩ := intItems_at hv
  obtain ⟨h1, h2⟩ := argBest_lt (numAt xs) (xs.size - 1)
  refine h h' tk _ t hk ?_ fun a ha => ?_
  · rw [numAt_eq]; exact PySem.getD_mem (by rw [List.length_map, Array.length_toList]; omega)
  · obtain ⟨j, hj, rfl⟩ := mem_getD ha
    rw [List.length_map, Array.length_toList] at hj
    rw [← numAt_eq]; exact h2 j (by omega)
end
section
variable {X : Cx}
/-- sum(xs) of a list of ints -/
def rSum (K : PySem.W.Frag) : List V → Hp → VK → Prop := fun vs H Q => ∃ (a : Addr) (ns : List Int), vs = [V.ref a] ∧ SqL K H a (ns.map V.int) ∧ Q (.int ns.sum) H
/-- max(xs), min(xs) of a list of ints -/
def rMax (K : PySem.W.Frag) : List V → Hp → VK → Prop := fun vs H Q => ∃ (a : Addr) (ns : List Int), vs = [V.ref a] ∧ SqL K H a (ns.map V.int) ∧ 0 < ns.length ∧ ∀ m, m ∈ ns → (∀ y, y ∈ ns → y ≤ m) → Q (.int m) H
def rMin (K : PySem.W.Frag) : List V → Hp → VK → Prop := fun vs H Q => ∃ (a : Addr) (ns : List Int), vs = [V.ref a] ∧ SqL K H a (ns.map V.int) ∧ 0 < ns.length ∧ ∀ m, m ∈ ns → (∀ y, y ∈ ns → m ≤ y) → Q (.int m) H
theorem cr_sum (hc : X.calm = true) : CallR X (.builtin "sum") (rSum X.K) := by
  intro pins s σ H vs us Q I r h
  obtain ⟨a, ns, rfl, hs, q⟩ := h
  obtain ⟨its, rv, hl, _⟩ := I.list hs
  rw [Vals.ref1 r]
  exact sum_raw (I.ok.hd hc) hl.isList rv.ints fun h' tk t' hk => ⟨.int _, H, I.kept hk, ⟨_, rfl⟩, q⟩
theorem cr_max (hc : X.calm = true) : CallR X (.builtin "max") (rMax X.K) := by
  intro pins s σ H vs us Q I r h
  obtain ⟨a, ns, rfl, hs, hne, q⟩ := h
  obtain ⟨its, rv, hl, _⟩ := I.list hs
  rw [Vals.ref1 r]
  exact max_raw (I.ok.hd hc) hl.isList rv.ints hne fun h' tk m t' hk h1 h2 => ⟨.int _, H, I.kept hk, ⟨_, rfl⟩, q m h1 h2⟩
theorem cr_min (hc : X.calm = true) : CallR X (.builtin "min") (rMin X.K) := by
  intro pins s σ H vs us Q I r h
  obtain ⟨a, ns, rfl, hs, hne, q⟩ := h
  obtain ⟨its, rv, hl, _⟩ := I.list hs
  rw [Vals.ref1 r]
  exact min_raw (I.ok.hd hc) hl.isList rv.ints hne fun h' tk m t' hk h1 h2 => ⟨.int _, H, I.kept hk, ⟨_, rfl⟩, q m h1 h2⟩

end
section
variable {X : Cx}
end
section
variable {X : Cx}
end
theorem iter_any {prog : Program} {w : World} {A : Around} {E : Value → Shared → Prop} {s : Shared} {l : Addr} {items : Array Value} {Q : Value → Shared → Prop} (hl : s.heap.IsList l items)
    (h : ∀ s₂ : Shared, s₂ = { s with heap := s.heap.push { cls := .type "list_iterator", data := .fields #[.ref l, .int 0 0] } } →
      (s₂.heap.IsListIter s.heap.objs.size l 0 ∧ s₂.heap.IsList l items) → l ≠ s.heap.objs.size → Q (.ref s.heap.objs.size) s₂) : wpAny (model prog w) A (pyIter (.ref l)) Q E s := by
  have hlt : l < s.heap.objs.size := by obtain ⟨_, e, _⟩ := hl; exact Heap.lt_size e
  exact wpAny_pyIter_list hl (h _ rfl ⟨⟨_, Heap.get?_push_size _ rfl, rfl, rfl⟩, hl.push _⟩ (Nat.ne_of_lt hlt))
theorem truth_bools {prog : Program} {w : World} {A : Around} {bs : List Bool} {its : List Value} (e : its = bs.map Value.bool) :
    TruthOf prog w A (fun i v => its.toArray[i]? = some v) (fun i => bs.getD i false) := fun i v s Q E hv hq => by
  have hv' : its[i]? = some v := by simpa using hv
  rw [e, List.getElem?_map] at hv'
  obtain ⟨b, hb, rfl⟩ := Option.map_eq_some_iff.mp hv'
  have hg : bs.getD i false = b := by rw [List.getD_eq_getElem?_getD, hb] <;> rfl
  have hq' : Q (bs.getD i false) s := hq
  rw [hg] at hq'
  exact wpAny_truthy_bool hq'
theorem all_range : ∀ bs : List Bool, (List.range bs.length).all (fun i => bs.getD i false) = bs.all id
  | [] => rfl
  | b :: bs => by
    rw [List.length_cons, List.range_succ_eq_map, List.all_cons, List.all_map, List.all_cons, ← all_range bs]
    all_goals rfl
section
variable {X : Cx}
def rAny (K : PySem.W.Frag) : List V → Hp → VK → Prop := fun vs H Q => ∃ (a : Addr) (bs : List Bool), vs = [V.ref a] ∧ SqL K H a (bs.map V.bl) ∧ Q (.bl (bs.any id)) H
def rAll (K : PySem.W.Frag) : List V → Hp → VK → Prop := fun vs H Q => ∃ (a : Addr) (bs : List Bool), vs = [V.ref a] ∧ SqL K H a (bs.map V.bl) ∧ Q (.bl (bs.all id)) H
theorem cr_all (hc : X.calm = true) : CallR X (.builtin "all") (rAll X.K) := by
  intro pins s σ H vs us Q I r h
  obtain ⟨a, bs, rfl, hs, q⟩ := h
  obtain ⟨its, rv, hl, _⟩ := I.list hs
  rw [Vals.ref1 r]
  have hb := rv.bls
  refine call_all_walk (iter_any hl.isList fun s₂ e2 st hne => ?_)
  subst e2
  refine ⟨_, _, _, _, _, _, _, rfl, Walks.list (A := X.A.in1) (I.ok.hd hc) _ a hne its.toArray, st, truth_bools hb, fun h' tk hk => ?_⟩
  refine ⟨.bl _, H, I.kept fun b o eo => hk b o (fun hmem => ?_) (Heap.get?_push_of_some _ eo), ?_, q⟩
  · rcases List.mem_cons.mp hmem with e1 | hmem
    · exact absurd (e1 ▸ Heap.lt_size eo) (Nat.lt_irrefl _)
    · cases hmem
  · show Value.bool _ = Value.bool _
    rw [← all_range, hb, List.size_toArray, List.length_map]
end
mutual
inductive Dp (K : PySem.W.Frag) (H : Hp) : V → PyData → Prop
  | non : Dp K H .non .none
  | bl (b : Bool) : Dp K H (.bl b) (.bool b)
  | int (i : Int) : Dp K H (.int i) (.int i)
  | str (x : Str) : Dp K H (.str x) (.str x)
  | lst {a : Addr} {xs : List V} {ds : List PyData} : SqL K H a xs → DpAll K H xs ds → Dp K H (.ref a) (.list ds)
  | tup {a : Addr} {xs : List V} {ds : List PyData} : SqT K H a xs → DpAll K H xs ds → Dp K H (.ref a) (.tuple ds)
inductive DpAll (K : PySem.W.Frag) (H : Hp) : List V → List PyData → Prop
  | nil : DpAll K H [] []
  | cons {v : V} {vs : List V} {d : PyData} {ds : List PyData} : Dp K H v d → DpAll K H vs ds → DpAll K H (v :: vs) (d :: ds)
end
section
variable {X : Cx} {pins : List (Addr × Obj)} {σ : St} {H : Hp} {s : Shared}
mutual
theorem Dp.reads (I : Inv X pins σ H s) : ∀ (d : PyData) (v : V) (u : Value), Dp X.K H v d → RelV v u → ∃ as, Reads s.heap u d as
  | .none, _, _, h, r => by
    cases h
    cases r
    exact ⟨_, Reads.none⟩
  | .bool b, _, _, h, r => by
    cases h
    cases r
    exact ⟨_, Reads.bool b⟩
  | .int i, _, _, h, r => by
    cases h
    obtain ⟨t, rfl⟩ := r
    exact ⟨_, Reads.int i t⟩
  | .str x, _, _, h, r => by
    cases h
    obtain ⟨t, rfl⟩ := r
    exact ⟨_, Reads.str x t⟩
  | .list ds, _, _, h, r => by
    cases h with
    | lst hs ha =>
      cases r
      obtain ⟨its, rv, ⟨o, n, ho, hc, _, hd⟩, _⟩ := I.list hs
      obtain ⟨as, hr⟩ := Dp.readsAll I ds _ its ha rv
      exact ⟨_, Reads.list ho hc hd hr⟩
  | .tuple ds, _, _, h, r => by
    cases h with
    | tup hs ha =>
      cases r
      obtain ⟨its, rv, ⟨o, ho, hc, n, hd⟩, _⟩ := I.tuple hs
      obtain ⟨as, hr⟩ := Dp.readsAll I ds _ its ha rv
      exact ⟨_, Reads.tuple ho hc hd hr⟩
  | .dict _, _, _, h, _ => by cases h
theorem Dp.readsAll (I : Inv X pins σ H s) : ∀ (ds : List PyData) (vs : List V) (us : List Value), DpAll X.K H vs ds → Vals vs us → ∃ as, ReadsAll s.heap us ds as
  | [], _, _, h, r => by
    cases h
    cases r
    exact ⟨_, ReadsAll.nil⟩
  | d :: ds, _, _, h, r => by
    cases h with
    | cons h1 h2 =>
      cases r with
      | cons r1 r2 =>
        obtain ⟨as, q1⟩ := Dp.reads I d _ _ h1 r1
        obtain ⟨bs, q2⟩ := Dp.readsAll I ds _ _ h2 r2
        exact ⟨_, ReadsAll.cons q1 q2⟩
end
end
section
variable {X : Cx}
end
end L2
namespace L2
open PySem PySem.Spec PyProof.Rows
abbrev CellAt (h : Heap) (c : Addr) (v : Option Value) : Prop := h.IsCell c v
def relS (scope sc : Scope) : Scope :=
  { scope with names := scope.names.map fun (n, k) => if (k == .free && sc.kind == .function && sc.names.lookup n == some .cell) then (n, .cell) else (n, k) }

def cloFrom (cells : List (Str × Addr)) : List (Str × NameKind) → List (Str × Addr) → List (Str × Addr)
  | [], acc => acc
  | (n, k) :: r, acc => if k == .free then cloFrom cells r ((n, (cells.lookup n).getD 0) :: acc) else cloFrom cells r acc

theorem closure_loop (env : Env) (f : Str × NameKind → List (Str × Addr) → Sem (ForInStep (List (Str × Addr))))
    (hf : ∀ n k c, f (n, k) c = if k == .free then (do let a ← cellOf env n; pure (.yield ((n, a) :: c))) else pure (.yield c)) :
    ∀ (names : List (Str × NameKind)) (acc : List (Str × Addr)), (∀ y ∈ names, y.2 = .free → ∃ c, env.cells.lookup y.1 = some c) → forIn names acc f = pure (cloFrom env.cells names acc)
  | [], acc, _ => by rw [List.forIn_nil]; rfl
  | (n, k) :: r, acc, h => by
    rw [List.forIn_cons, hf]
    have ih := fun acc => closure_loop env f hf r acc fun y hy => h y (List.mem_cons_of_mem _ hy)
    unfold cloFrom
    by_cases hk : (k == NameKind.free) = true
    · rw [if_pos hk, if_pos hk]
      obtain ⟨c, hc⟩ := h (n, k) List.mem_cons_self (by simpa using hk)
      have e : cellOf env n = pure c := by unfold cellOf; rw [hc]
      rw [e]
      have e2 : (env.cells.lookup n).getD 0 = c := by rw [hc]; rfl
      rw [e2]
      exact ih _
    · rw [if_neg hk, if_neg hk]
      exact ih _
theorem closure_ok {scope : Scope} {env : Env} (h : ∀ y ∈ scope.names, y.2 = .free → ∃ c, env.cells.lookup y.1 = some c) : closureFor scope env = pure (cloFrom env.cells scope.names []) := by
  simp only [closureFor]
  rw [closure_loop env _ (fun n k c => rfl) scope.names [] h]
  rfl

theorem mem_lookup {α : Type} : ∀ {l : List (Str × α)} {n : Str} {c : α}, (n, c) ∈ l → ∃ c', l.lookup n = some c'
  | (k, v) :: r, n, c, h => by
    rw [List.lookup_cons]
    cases hb : n == k with
    | true => exact ⟨_, rfl⟩
    | false =>
      rcases List.mem_cons.mp h with e | h
      · cases e; simp at hb
      · exact mem_lookup h

theorem cloFrom_mem {cells : List (Str × Addr)} : ∀ {names : List (Str × NameKind)} {acc : List (Str × Addr)} {n : Str} {c : Addr}, (n, c) ∈ cloFrom cells names acc → (n, c) ∈ acc ∨ ((n, .free) ∈ names ∧ c = (cells.lookup n).getD 0)
  | [], _, _, _, h => .inl h
  | (m, k) :: r, acc, n, c, h => by
    unfold cloFrom at h
    split at h
    · rename_i hk
      have hk : k = .free := by simpa using hk
      rcases cloFrom_mem h with h | ⟨h1, h2⟩
      · rcases List.mem_cons.mp h with e | h
        · cases e; exact .inr ⟨hk ▸ List.mem_cons_self, rfl⟩
        · exact .inl h
      · exact .inr ⟨List.mem_cons_of_mem _ h1, h2⟩
    · rcases cloFrom_mem h with h | ⟨h1, h2⟩
      · exact .inl h
      · exact .inr ⟨List.mem_cons_of_mem _ h1, h2⟩
theorem cloFrom_acc {cells : List (Str × Addr)} : ∀ {names : List (Str × NameKind)} {acc : List (Str × Addr)} {p : Str × Addr}, p ∈ acc → p ∈ cloFrom cells names acc
  | [], _, _, h => h
  | (m, k) :: r, acc, p, h => by
    unfold cloFrom
    split
    · exact cloFrom_acc (List.mem_cons_of_mem _ h)
    · exact cloFrom_acc h
theorem cloFrom_has {cells : List (Str × Addr)} : ∀ {names : List (Str × NameKind)} {acc : List (Str × Addr)} {n : Str}, (n, .free) ∈ names → (n, (cells.lookup n).getD 0) ∈ cloFrom cells names acc
  | (m, k) :: r, acc, n, h => by
    unfold cloFrom
    rcases List.mem_cons.mp h with e | h
    · cases e
      exact cloFrom_acc List.mem_cons_self
    · split
      · exact cloFrom_has h
      · exact cloFrom_has h

theorem cells_mem : ∀ {names : List (Str × NameKind)} {h : Heap} {acc : List (Str × Addr)} {x : Str} {c : Addr}, (x, c) ∈ cellsFrom h.objs.size names acc →
    (x, c) ∈ acc ∨ ((x, .cell) ∈ names ∧ h.objs.size ≤ c ∧ CellAt (pushCells h names) c none)
  | [], _, _, _, _, h => .inl h
  | (n, k) :: r, h, acc, x, c, hm => by
    unfold cellsFrom at hm
    unfold pushCells
    split at hm
    · rename_i hk
      rw [if_pos hk]
      have hk : k = .cell := by simpa using hk
      rw [← Heap.size_push h { cls := .type "cell", data := .cell none }] at hm
      rcases cells_mem hm with hm | ⟨h1, h2, h3⟩
      · rcases List.mem_cons.mp hm with e | hm
        · cases e
          exact .inr ⟨hk ▸ List.mem_cons_self, Nat.le_refl _, _, pushCells_keeps r _ _ _ (Heap.get?_push_size _ rfl), rfl⟩
        · exact .inl hm
      · rw [Heap.size_push] at h2
        exact .inr ⟨List.mem_cons_of_mem _ h1, Nat.le_of_succ_le h2, h3⟩
    · rename_i hk
      rw [if_neg hk]
      rcases cells_mem hm with hm | ⟨h1, h2, h3⟩
      · exact .inl hm
      · exact .inr ⟨List.mem_cons_of_mem _ h1, h2, h3⟩
theorem cells_acc : ∀ {names : List (Str × NameKind)} {n : Nat} {acc : List (Str × Addr)} {p : Str × Addr}, p ∈ acc → p ∈ cellsFrom n names acc
  | [], _, _, _, h => h
  | (m, k) :: r, n, acc, p, h => by
    unfold cellsFrom
    split
    · exact cells_acc (List.mem_cons_of_mem _ h)
    · exact cells_acc h
theorem cells_has : ∀ {names : List (Str × NameKind)} {n : Nat} {acc : List (Str × Addr)} {x : Str}, (x, .cell) ∈ names → ∃ c, (x, c) ∈ cellsFrom n names acc
  | (m, k) :: r, n, acc, x, h => by
    unfold cellsFrom
    rcases List.mem_cons.mp h with e | h
    · cases e
      exact ⟨n, cells_acc List.mem_cons_self⟩
    · split
      · exact cells_has h
      · exact cells_has h
theorem cells_inj : ∀ {names : List (Str × NameKind)} {h : Heap} {acc : List (Str × Addr)} {x y : Str} {c : Addr}, (∀ p ∈ acc, p.2 < h.objs.size) → (∀ x y c, (x, c) ∈ acc → (y, c) ∈ acc → x = y) →
    (x, c) ∈ cellsFrom h.objs.size names acc → (y, c) ∈ cellsFrom h.objs.size names acc → x = y
  | [], _, _, _, _, _, _, hi, h1, h2 => hi _ _ _ h1 h2
  | (n, k) :: r, h, acc, x, y, c, hl, hi, h1, h2 => by
    unfold cellsFrom at h1 h2
    split at h1
    · rename_i hk
      rw [if_pos hk] at h2
      rw [← Heap.size_push h { cls := .type "cell", data := .cell none }] at h1 h2
      refine cells_inj (h := h.push _) (fun p hp => ?_) (fun x y c a b => ?_) h1 h2
      · rw [Heap.size_push]
        rcases List.mem_cons.mp hp with rfl | hp
        · exact Nat.lt_succ_self _
        · exact Nat.lt_succ_of_lt (hl p hp)
      · rcases List.mem_cons.mp a with e | a <;> rcases List.mem_cons.mp b with e' | b
        · cases e; cases e'; rfl
        · cases e; exact absurd (hl _ b) (Nat.lt_irrefl _)
        · cases e'; exact absurd (hl _ a) (Nat.lt_irrefl _)
        · exact hi _ _ _ a b
    · rename_i hk
      rw [if_neg hk] at h2
      exact cells_inj hl hi h1 h2

theorem newEnv_comp {M : Model} {A : Around} {E : Value → Shared → Prop} {s : Shared} {scope : Scope} {globals : Addr} {closure : List (Str × Addr)} {qual : Str} {func : Option Addr} {code : Value} {around : Env} {builtins : Addr} {Q : Env → Shared → Prop}
    (h : Q (newEnv scope s.heap.objs.size globals (cellsFrom (s.heap.objs.size + 1) scope.names closure) qual func code (some around) builtins)
      { s with heap := pushCells (s.heap.push { cls := .type "dict", data := .dict #[] }) scope.names }) :
    wpAny M A (newFunctionEnv scope globals closure [] qual func code (some around) builtins) Q E s := by
  simp only [newFunctionEnv, Option.isSome_some, if_true]
  refine wpAny_bind (wpAny_alloc ?_)
  refine wpAny_bind (wpAny_layCells _ (fun n k c => rfl) scope.names closure _ _ ?_)
  rw [show ({ s with heap := s.heap.push { cls := .type "dict", data := .dict #[] } } : Shared).heap.objs.size = s.heap.objs.size + 1 from Heap.size_push ..]
  rw [List.forIn_nil]
  exact wpAny_bind (wpAny_pure (wpAny_pure h))

/-- every name of the written scope, in the scope that runs -/
theorem lookup_relS {sc : Scope} : ∀ {names : List (Str × NameKind)} {x : Str} {k : NameKind},
    (names.map fun (n, k) => if (k == NameKind.free && sc.kind == .function && sc.names.lookup n == some .cell) then (n, NameKind.cell) else (n, k)).lookup x = some k →
    ∃ k', names.lookup x = some k' ∧ (k = k' ∨ (k' = .free ∧ k = .cell))
  | [], _, _, h => by simp at h
  | (n, k₀) :: r, x, k, h => by
    have ih := @lookup_relS sc r x k
    have h' : List.lookup x ((if (k₀ == NameKind.free && sc.kind == .function && sc.names.lookup n == some .cell) = true then (n, NameKind.cell) else (n, k₀)) :: (r.map _)) = some k := h
    cases hx : x == n with
    | true =>
      simp only [List.lookup_cons, hx]
      by_cases hc : (k₀ == NameKind.free && sc.kind == .function && sc.names.lookup n == some .cell) = true
      · rw [if_pos hc] at h'
        simp only [List.lookup_cons, hx] at h'
        cases h'
        simp only [Bool.and_eq_true, beq_iff_eq] at hc
        exact ⟨k₀, rfl, .inr ⟨hc.1.1, rfl⟩⟩
      · rw [if_neg hc] at h'
        simp only [List.lookup_cons, hx] at h'
        cases h'
        exact ⟨_, rfl, .inl rfl⟩
    | false =>
      simp only [List.lookup_cons, hx]
      by_cases hc : (k₀ == NameKind.free && sc.kind == .function && sc.names.lookup n == some .cell) = true
      · rw [if_pos hc] at h'
        simp only [List.lookup_cons, hx] at h'
        exact ih h'
      · rw [if_neg hc] at h'
        simp only [List.lookup_cons, hx] at h'
        exact ih h'
/-- the names of a comprehension's block: its own (with their places in N), or captured -/
structure BlkOk (N : List Str) (sc scope : Scope) (own : List (Str × Nat)) : Prop where
  kind : scope.kind = .function
  uniq : ∀ y ∈ scope.names, scope.names.lookup y.1 = some y.2
  ix : ∀ p ∈ own, N[p.2]? = some p.1
  free : ∀ y ∈ scope.names, y.2 = .free → sc.names.lookup y.1 = some .cell ∨ sc.names.lookup y.1 = some .free
  own : ∀ y ∈ scope.names, y.2 = .local ∨ y.2 = .cell → y.1 ∈ own.map (·.1) ∨ y.1 ∉ N
/-- the slots of the block's own names forgotten -/
def wipe (σ : St) : List Nat → St
  | [] => σ
  | v :: vs => (wipe σ vs).set v none
theorem wipe_length (σ : St) : ∀ vs : List Nat, (wipe σ vs).length = σ.length
  | [] => rfl
  | v :: vs => by unfold wipe; rw [List.length_set, wipe_length σ vs]
theorem wipe_some {σ : St} {i : Nat} {x : V} : ∀ {vs : List Nat}, (wipe σ vs)[i]? = some (some x) → σ[i]? = some (some x) ∧ i ∉ vs
  | [], h => ⟨h, by simp⟩
  | v :: vs, h => by
    unfold wipe at h
    by_cases hi : v = i
    · subst hi
      by_cases hv : v < (wipe σ vs).length
      · rw [List.getElem?_set_self hv] at h; cases h
      · rw [List.getElem?_eq_none (by simpa using hv)] at h; cases h
    · rw [List.getElem?_set_ne hi] at h
      obtain ⟨h1, h2⟩ := wipe_some h
      exact ⟨h1, by simp only [List.mem_cons, not_or]; exact ⟨fun e => hi e.symm, h2⟩⟩

/-- the context of a block that starts at s, its iterator's objects at fp -/
abbrev Cx.blk (X : Cx) (s : Shared) (H : Hp) (scope : Scope) (cenv : Env) (fp : List Addr) : Cx := { X with s_0 := s, H_0 := H, env := cenv, outer := X.stack, ex := fp, fn := fun x => scope.names.lookup x == some .cell, pn := [], xe := fun _ _ => False }
section
variable {X : Cx} {pins : List (Addr × Obj)} {σ : St} {H : Hp} {s : Shared}
theorem block_start {scope : Scope} {own : List (Str × Nat)} {fp : List Addr} (I : Inv X pins σ H s) (ok : BlkOk X.N X.env.scope scope own) (hN : X.N.Nodup) (hfp : ∀ b ∈ fp, FpOk X pins H b ∧ b < s.heap.objs.size) :
    Inv (X.blk s H scope (compEnvC scope (cellsFrom (s.heap.objs.size + 1) scope.names (cloFrom X.env.cells scope.names [])) s.heap.objs.size X.env) fp) [] (wipe σ (own.map (·.2))) H { s with heap := pushCells (s.heap.push { cls := .type "dict", data := .dict #[] }) scope.names } := by
  have hfree : ∀ y ∈ scope.names, y.2 = .free → ∃ c, X.env.cells.lookup y.1 = some c := fun y hy e => by
    rcases ok.free y hy e with k | k
    · exact I.ok.has _ (.inl k)
    · exact I.ok.has _ (.inr k)
  generalize hcenv : compEnvC scope (cellsFrom (s.heap.objs.size + 1) scope.names (cloFrom X.env.cells scope.names [])) s.heap.objs.size X.env = cenv
  have kp : ∀ b o, s.heap.get? b = some o → (pushCells (s.heap.push { cls := .type "dict", data := .dict #[] }) scope.names).get? b = some o := fun b o e => pushCells_keeps _ _ _ _ (Heap.get?_push_of_some _ e)
  have hL : cenv.locals = s.heap.objs.size := by rw [← hcenv]; rfl
  have hcl : cenv.cells = cellsFrom (s.heap.objs.size + 1) scope.names (cloFrom X.env.cells scope.names []) := by rw [← hcenv]; rfl
  have hsc : cenv.scope = relS scope X.env.scope := by rw [← hcenv]; rfl
  rw [← Heap.size_push s.heap { cls := .type "dict", data := .dict #[] }] at hcl
  have cm : ∀ {y c}, (y, c) ∈ cloFrom X.env.cells scope.names [] → X.env.cells.lookup y = some c ∧ c < s.heap.objs.size := fun {y c} hm => by
    rcases cloFrom_mem hm with hm | ⟨h1, rfl⟩
    · cases hm
    · obtain ⟨c, hc⟩ := hfree _ h1 rfl
      rw [hc]
      obtain ⟨w, z⟩ := I.cell _ _ hc
      exact ⟨rfl, z.lt⟩
  have mem : ∀ {y c}, cenv.cells.lookup y = some c → (X.env.cells.lookup y = some c ∧ c < s.heap.objs.size) ∨ (s.heap.objs.size + 1 ≤ c ∧ CellAt (pushCells (s.heap.push { cls := .type "dict", data := .dict #[] }) scope.names) c none) := fun {y c} e => by
    rw [hcl] at e
    rcases cells_mem (PySem.mem_of_lookup e) with hm | ⟨_, h2, h3⟩
    · exact .inl (cm hm)
    · rw [Heap.size_push] at h2; exact .inr ⟨h2, h3⟩
  have look : ∀ {y}, scope.names.lookup y = some .free → ∃ c, cenv.cells.lookup y = some c ∧ X.env.cells.lookup y = some c := fun {y} hl => by
    have hy : (y, NameKind.free) ∈ scope.names := PySem.mem_of_lookup hl
    obtain ⟨c', e'⟩ := mem_lookup (cells_acc (names := scope.names) (n := (s.heap.push { cls := .type "dict", data := .dict #[] }).objs.size) (cloFrom_has (cells := X.env.cells) (acc := []) hy))
    rw [← hcl] at e'
    refine ⟨c', e', ?_⟩
    rw [hcl] at e'
    rcases cells_mem (PySem.mem_of_lookup e') with hm | ⟨h1, _, _⟩
    · exact (cm hm).1
    · have := ok.uniq _ h1
      rw [hl] at this; cases this
  have okB : (X.blk s H scope cenv fp).Ok := by
    refine ⟨I.ok.mod, by show cenv.scope.kind = _; rw [hsc]; exact ok.kind, by show cenv.globals = _; rw [← hcenv]; exact I.ok.glob, by show cenv.builtins = _; rw [← hcenv]; exact I.ok.blt, by show s.heap.objs.size ≤ cenv.locals; rw [hL]; exact Nat.le_refl _,
      fun y z c e1 e2 => ?_, fun y hy => ?_, fun y c z e => ?_, I.ok.hd, I.ok.frames, .inl rfl, fun b hb => ⟨?_, fun y c e z => ?_⟩, I.bs, Nat.le_trans I.ok.bsz I.sz, fun b o e hb => ?_, fun b hb z => ?_, I.stack, I.stkFree⟩
    · have e1 : cenv.cells.lookup y = some c := e1
      have e2 : cenv.cells.lookup z = some c := e2
      rw [hcl] at e1 e2
      refine cells_inj (fun p hp => ?_) (fun y z c a b => I.ok.inj y z c (cm a).1 (cm b).1) (PySem.mem_of_lookup e1) (PySem.mem_of_lookup e2)
      rw [Heap.size_push]
      exact Nat.lt_succ_of_lt (cm (y := p.1) (c := p.2) hp).2
    · show ∃ c, cenv.cells.lookup y = some c
      have key : ∀ k, cenv.kindOf y = some k → (k = .cell ∨ k = .free) → ∃ c, cenv.cells.lookup y = some c := fun k hk hk' => by
        unfold Env.kindOf at hk
        rw [hsc] at hk
        obtain ⟨k', e, r⟩ := lookup_relS hk
        have : k' = .cell ∨ k' = .free := by
          rcases r with rfl | ⟨rfl, _⟩
          · exact hk'
          · exact .inr rfl
        rcases this with rfl | rfl
        · obtain ⟨c, hm⟩ := cells_has (n := (s.heap.push { cls := .type "dict", data := .dict #[] }).objs.size) (acc := cloFrom X.env.cells scope.names []) (PySem.mem_of_lookup e)
          obtain ⟨c', e'⟩ := mem_lookup hm
          exact ⟨c', by rw [hcl]; exact e'⟩
        · obtain ⟨c, h1, _⟩ := look e
          exact ⟨c, h1⟩
      rcases hy with hy | hy
      · exact key _ hy (.inl rfl)
      · exact key _ hy (.inr rfl)
    · have z : (scope.names.lookup y == some NameKind.cell) = true := z
      have z : scope.names.lookup y = some .cell := by simpa using z
      have e : cenv.cells.lookup y = some c := e
      rw [hcl] at e
      rcases cells_mem (PySem.mem_of_lookup e) with hm | ⟨_, h2, _⟩
      · rcases cloFrom_mem hm with hm | ⟨h1, _⟩
        · cases hm
        · have q := ok.uniq _ h1
          rw [z] at q; cases q
      · rw [Heap.size_push] at h2
        exact Nat.le_of_succ_le h2
    · show b ≠ cenv.locals
      rw [hL]; exact Nat.ne_of_lt (hfp b hb).2
    · have e : cenv.cells.lookup y = some c := e
      rcases mem e with ⟨h1, _⟩ | ⟨h1, _⟩
      · exact (hfp b hb).1.2.2.2.2.1 y c h1 z
      · have h2 : s.heap.objs.size + 1 ≤ b := by rw [← z]; exact h1
        exact absurd (Nat.lt_of_lt_of_le (hfp b hb).2 (Nat.le_of_succ_le h2)) (Nat.lt_irrefl _)
    · rcases (hfp b hb).1.2.2.2.1 with z | z
      · exact I.ok.noex b o e z
      · exact absurd (Nat.lt_of_lt_of_le (Heap.lt_size e) (Nat.le_trans I.ok.bsz z)) (Nat.lt_irrefl _)
    · rcases List.mem_cons.mp (I.stkSub b z) with z | z
      · exact (hfp b hb).1.2.1 z
      · exact (hfp b hb).1.2.2.1 z
  refine ⟨okB, rfl, I.bare, Un.kept kp, ⟨fun _ => none, ?_, fun i y av e1 e2 e3 => ?_⟩, fun y c e => ?_, ?_, fun y c e => ?_, fun p hp => ?_, I.hok.kept kp, by rw [wipe_length]; exact I.len⟩
  · show Heap.Ns _ cenv.locals _
    rw [hL]
    exact Heap.Ns.keeps (Heap.Ns.new ..) fun b o e => pushCells_keeps _ _ _ _ e
  · obtain ⟨e2, hne⟩ := wipe_some e2
    have hfr : scope.names.lookup y = some .free ∧ (cenv.kindOf y = some .cell ∨ cenv.kindOf y = some .free) := by
      have key : ∀ k, cenv.scope.names.lookup y = some k → k = .local ∨ k = .cell ∨ k = .free → scope.names.lookup y = some .free ∧ (cenv.kindOf y = some .cell ∨ cenv.kindOf y = some .free) := fun k hk hk' => by
        have hk0 := hk
        rw [hsc] at hk
        obtain ⟨k', e, r⟩ := lookup_relS hk
        have no : ¬ (k' = .local ∨ k' = .cell) := fun hh => by
          rcases ok.own _ (PySem.mem_of_lookup e) hh with e' | e'
          · obtain ⟨p, hp, hpy⟩ := List.mem_map.mp e'
            have e3 := ok.ix p hp
            have : p.1 = y := hpy
            rw [this] at e3
            exact hne (List.mem_map.mpr ⟨p, hp, nodup_ix hN e3 e1⟩)
          · exact e' (List.mem_of_getElem? e1)
        rcases r with rfl | ⟨rfl, rfl⟩
        · rcases hk' with rfl | rfl | rfl
          · exact absurd (.inl rfl) no
          · exact absurd (.inr rfl) no
          · exact ⟨e, .inr hk0⟩
        · exact ⟨e, .inl hk0⟩
      have e3 : Vis cenv.scope y := e3
      rcases e3 with e3 | e3 | e3
      · exact key _ e3 (.inl rfl)
      · exact key _ e3 (.inr (.inl rfl))
      · exact key _ e3 (.inr (.inr rfl))
    obtain ⟨m, hn, hl⟩ := I.loc
    have hvis : Vis X.env.scope y := (ok.free _ (PySem.mem_of_lookup hfr.1) rfl).elim (fun k => .inr (.inl k)) (fun k => .inr (.inr k))
    obtain ⟨w, r, q⟩ := hl i y av e1 e2 hvis
    refine ⟨w, r, .inr ⟨hfr.2, ?_⟩⟩
    obtain ⟨c, h1, h2⟩ := look hfr.1
    rcases q with ⟨k, _⟩ | ⟨_, c', e', z⟩
    · have k : X.env.scope.names.lookup y = some .local := k
      rcases ok.free _ (PySem.mem_of_lookup hfr.1) rfl with k' | k' <;> rw [show X.env.scope.names.lookup y = _ from k'] at k <;> cases k
    · rw [h2] at e'; cases e'
      exact ⟨c, h1, z.keeps kp⟩
  · have e : cenv.cells.lookup y = some c := e
    rcases mem e with ⟨h1, _⟩ | ⟨_, z⟩
    · obtain ⟨w, z⟩ := I.cell y c h1
      exact ⟨w, z.keeps kp⟩
    · exact ⟨_, z⟩
  · show H cenv.locals = none
    rw [hL]; exact I.hok.fresh (Nat.le_refl _)
  · have e : cenv.cells.lookup y = some c := e
    rcases mem e with ⟨h1, _⟩ | ⟨h1, _⟩
    · exact I.freeC y c h1
    · exact I.hok.fresh (Nat.le_of_succ_le h1)
  · exact absurd (show p ∈ ([] : List (Addr × Obj)) ++ [] from hp) (by simp)

/-- an item appended to a tracked list -/
theorem app_ok {E : Value → Shared → Prop} {D : Addr} {xs : List V} {y : V} {v : Value} {Q : Value → Shared → Prop} (I : Inv X pins σ H s) (hD : H D = some (.lst xs)) (hz : xs.length < sizeLine) (r : RelV y v)
    (h : ∀ s', Inv X pins σ (upd H D (.lst (xs ++ [y]))) s' → Q .none s') : wpAny (model X.prog X.w) X.A (call (.builtin "list.append") [.ref D, v]) Q E s := by
  obtain ⟨hz', its, n, ri, e⟩ := I.hok D _ hD
  have hl := ri.length
  refine append_at (hsz := by rw [List.size_toArray]; omega) e fun h' sb ho' => ?_
  refine h { s with heap := h' } (I.write (t' := s.toks) (by rw [hD]; trivial) (.inl rfl) (fun b u hb q => (sb.2 b hb).trans q) ⟨_, ho'⟩ ⟨by rw [List.length_append]; exact hz, its ++ [v], n + 1, ri.append (.cons r .nil), ?_⟩)
  rw [ho']
  simp

/-- a clause's tests -/
def PTs (X : Cx) (ifs : List Expr) (t : TT) : Prop :=
  ∀ (pins : List (Addr × Obj)) (s : Shared) (σ : St) (H : Hp) (Q : Bool → Hp → Prop), Inv X pins σ H s → t σ H Q →
    wpAny (model X.prog X.w) X.A (forIn ifs true fun c r => if r = true then do let ok ← isTrue c X.env (eval c X.env); pure (ForInStep.yield ok) else pure (ForInStep.yield r)) (TP X pins σ Q) X.xe s
def tYes : TT := fun _ H Q => Q true H
theorem pts_nil : PTs X [] tYes := fun _ _ _ H _ I h => wpAny_tests_nil ⟨H, I, h⟩
theorem pts_one {c : Expr} {t : TT} (h : PT X c t) : PTs X [c] t := fun pins s σ H Q I hw => wpAny_tests_one (h pins s σ H Q I hw)
end
theorem thnF {α : Type} {t : Sem α} {Q Q' : α → Shared → Prop} {M : Model} {A : Around} {E : Value → Shared → Prop} {s : Shared} (h : wpAny M A t Q (fun _ _ => False) s) (hQ : ∀ a s, Q a s → Q' a s) : wpAny M A t Q' E s := wpAny_mono h hQ fun _ _ z => False.elim z

/-- the loop of a list comprehension's block, the target of any form (codeAny_compLoop_tests asks a target that no tuple goes to; statement and proof follow it, PyProof/CompMap.lean:41-61, with the step letOwnedTupleGo kept) -/
theorem compLoop_any {prog : Program} {w : World} {A : Around} {R : Result → Shared → Prop} {s : Shared} {elt target iter : Expr} {ifs : List Expr} {scope : Scope} {pos : Pos} {it acc : Value} {env : Env} (I : Nat → Shared → Prop)
    (turn : ∀ n s, I n s → wpAny (model prog w) A (pyNext it) (fun r s₁ => match r with
      | none => R (.ok .next) s₁
      | some v => wpAny (model prog w) A (letOwnedTupleGo target it v) (fun _ s₁' => wpAny (model prog w) A (assign target env v) (fun _ s₂ =>
          wpAny (model prog w) A (forIn ifs true fun c r => if r = true then do let ok ← isTrue c env (eval c env); pure (ForInStep.yield ok) else pure (ForInStep.yield r)) (fun ok s₃ =>
            if ok = true then wpAny (model prog w) A (eval elt env) (fun x s₄ =>
              wpAny (model prog w) A (call (.builtin "list.append") [acc, x]) (fun _ s₅ => ∃ m, m < n ∧ I m s₅) (notedBy (model prog w) A env fun e s' => R (.error e) s') s₄) (notedBy (model prog w) A env fun e s' => R (.error e) s') s₃
            else ∃ m, m < n ∧ I m s₃) (notedBy (model prog w) A env fun e s' => R (.error e) s') s₂) (notedBy (model prog w) A env fun e s' => R (.error e) s') s₁') (notedBy (model prog w) A env fun e s' => R (.error e) s') s₁) (notedBy (model prog w) A env fun e s' => R (.error e) s') s)
    (n : Nat) (h : I n s) :
    codeAny (model prog w) A (.compLoop (.ListComp elt [⟨target, iter, ifs, 0⟩] scope pos) 0 it acc env) R s := by
  refine codeAny_loop rfl I (fun n s hI => ?_) n h
  show wpAny _ A ((compTurn (.ListComp elt [⟨target, iter, ifs, 0⟩] scope pos) 0 it acc env).onRaise (fun x => do noteFrame x env; theTreesLotGoes x)) _ _ s
  refine wpAny_noted ?_
  rw [compTurn_list]
  refine wpAny_bind (wpAny_standAt (wpAny_bind (wpAny_mono (turn n s hI) (fun r s₁ h₁ => ?_) fun _ _ h' => h')))
  cases r with
  | none => exact wpAny_pure h₁
  | some v =>
    refine wpAny_bind (wpAny_mono h₁ (fun _ s₁' h₁' => ?_) fun _ _ h' => h')
    refine wpAny_bind (wpAny_mono h₁' (fun _ s₂ h₂ => wpAny_bind (wpAny_mono h₂ (fun ok s₃ h₃ => ?_) fun _ _ h' => h')) fun _ _ h' => h')
    cases ok with
    | false => exact wpAny_pure ⟨rfl, h₃⟩
    | true =>
      exact wpAny_bind (wpAny_bind (wpAny_mono h₃ (fun x s₄ h₄ => wpAny_bind (wpAny_mono h₄ (fun _ s₅ h₅ => wpAny_pure (wpAny_pure ⟨rfl, h₅⟩)) fun _ _ h' => h')) fun _ _ h' => h'))

section
variable {X : Cx}
/-- [elt for target in iter if ..]: D the new list; W by the turn and a measure, Nx what a turn is to reach -/
def tLc (wi : TI) (g : TG) (tt : TT) (te : TE) (vs : List Nat) : TE := fun σ H Q => wi σ H fun J H1 => ∀ D, H1 D = none → ∃ W : Nat → Nat → Hp → Prop, (∃ m, W 0 m (upd H1 D (.lst []))) ∧ ∀ i m H, W i m H →
  (J.stop i H ∧ Q (.ref D) H) ∨ (J.go i H ∧ ∃ Nx : Hp → Prop, (∀ H', Nx H' → ∃ m', m' < m ∧ W (i + 1) m' H') ∧ ∀ x H', J.yld i H x H' → g x (wipe σ vs) H' fun σ2 H2 => wipe σ2 vs = wipe σ vs ∧ tt σ2 H2 fun b H3 =>
    if b = true then te σ2 H3 fun y H4 => ∃ acc, H4 D = some (.lst acc) ∧ acc.length < sizeLine ∧ Nx (upd H4 D (.lst (acc ++ [y]))) else Nx H3)
theorem lc_core {pins : List (Addr × Obj)} {s : Shared} {σ : St} {H : Hp} {Q : VK} {elt tg iter : Expr} {ifs : List Expr} {scope : Scope} {own : List (Str × Nat)} {pos pos' : Pos} {wi : TI} {g : TG} {tt : TT} {te : TE} {use : Option (Value → Sem Unit)} {Qf : Value → Shared → Prop}
    (hc : X.calm = true) (hN : X.N.Nodup) (I : Inv X pins σ H s) (hi : PI X tg iter wi) (ok : BlkOk X.N X.env.scope scope own)
    (hg : ∀ (s : Shared) (H : Hp) (C : Addr) (cl : List (Str × Addr)) (fp : List Addr), PG (X.blk s H scope (compEnvC scope cl C X.env) fp) tg g) (ht : ∀ (s : Shared) (H : Hp) (C : Addr) (cl : List (Str × Addr)) (fp : List Addr), PTs (X.blk s H scope (compEnvC scope cl C X.env) fp) ifs tt)
    (he : ∀ (s : Shared) (H : Hp) (C : Addr) (cl : List (Str × Addr)) (fp : List Addr), PE (X.blk s H scope (compEnvC scope cl C X.env) fp) elt te) (hs : ∀ x, foldedSetIterable iter X.env x = pure x)
    (h : tLc wi g tt te (own.map (·.2)) σ H Q)
    (hRR : ∀ D C s' m H', Inv X pins σ H' s' → Q (.ref D) H' → s'.heap.Ns C m → FpOk X pins H' C → compPost (model X.prog X.w) X.A X.xe use Qf (.ref D) C (.ok .next) s') :
    wpAny (model X.prog X.w) X.A (comprehension (.ListComp elt [⟨tg, iter, ifs, 0⟩] scope pos) scope X.env pos' (newList []) false (eval iter X.env) use) Qf X.xe s := by
  have hfree : ∀ y ∈ scope.names, y.2 = .free → ∃ c, X.env.cells.lookup y.1 = some c := fun y hy e => by
    rcases ok.free y hy e with k | k
    · exact I.ok.has _ (.inl k)
    · exact I.ok.has _ (.inr k)
  refine wpAny_comprehension_free (use := use) rfl hs (closure_ok hfree) ok.kind (fun y hy e => by rw [ok.uniq y hy, e])
    (thn (hi pins s σ H _ I h) fun xv s1 hx => thn hx fun itv s2 h2 => ?_)
  obtain ⟨it, fp, tn, J, H2, e, I2, T, st2, f2, q⟩ := h2
  subst e
  refine wpAny_newObj_type (newEnv_comp ?_) (by show 0 ≤ sizeLine; decide)
  generalize hD : s2.heap.objs.size = D
  have hDn : H2 D = none := I2.hok.fresh (Nat.le_of_eq hD)
  obtain ⟨W, ⟨m0, w0⟩, turn⟩ := q D hDn
  -- the new list
  generalize hs3 : ({ s2 with heap := s2.heap.push { cls := .type "list", data := .seq ([] : List Value).toArray } } : Shared) = s3
  have I3 : Inv X pins σ (upd H2 D (.lst [])) s3 := by
    rw [← hs3]
    refine I2.laid (t' := s2.toks) (fun b o e => Heap.get?_push_of_some _ e) (Nat.le_of_eq hD) ⟨Nat.zero_le _, [], 0, .nil, ?_⟩
    rw [← hD]
    exact Heap.get?_push_size _ rfl
  have h3 : s3.heap = s2.heap.push { cls := .type "list", data := .seq ([] : List Value).toArray } := by rw [← hs3]
  have sz : ∀ b ∈ fp, b < s2.heap.objs.size := fun b hb => by
    obtain ⟨o, e, _⟩ := T.obj _ _ st2 b hb
    exact Heap.lt_size e
  have f3 : ∀ b ∈ fp, FpOk X pins (upd H2 D (.lst [])) b ∧ b < s3.heap.objs.size := fun b hb => by
    have hlt := sz b hb
    refine ⟨⟨?_, (f2 b hb).2⟩, by rw [h3, Heap.size_push]; exact Nat.lt_succ_of_lt hlt⟩
    rw [upd_ne (by rw [← hD]; exact Nat.ne_of_lt hlt)]
    exact (f2 b hb).1
  have st3 : tn 0 s3.heap := T.keep _ _ _ st2 fun b _ o e => by rw [h3]; exact Heap.get?_push_of_some _ e
  have I4 := block_start I3 ok hN f3
  have pg := hg s3 (upd H2 D (.lst [])) s3.heap.objs.size (cellsFrom (s3.heap.objs.size + 1) scope.names (cloFrom X.env.cells scope.names [])) fp
  have pt := ht s3 (upd H2 D (.lst [])) s3.heap.objs.size (cellsFrom (s3.heap.objs.size + 1) scope.names (cloFrom X.env.cells scope.names [])) fp
  have pe := he s3 (upd H2 D (.lst [])) s3.heap.objs.size (cellsFrom (s3.heap.objs.size + 1) scope.names (cloFrom X.env.cells scope.names [])) fp
  show codeAny _ _ (.compStart (.ListComp elt [⟨tg, iter, ifs, 0⟩] scope pos) 0 (.ref it) (.ref D) (compEnvC scope (cellsFrom (s3.heap.objs.size + 1) scope.names (cloFrom X.env.cells scope.names [])) s3.heap.objs.size X.env)) (compPost (model X.prog X.w) X.A X.xe use Qf (.ref D) s3.heap.objs.size) { s3 with heap := pushCells (s3.heap.push { cls := .type "dict", data := .dict #[] }) scope.names }
  have nfp : ∀ b ∈ fp, (upd H2 D (.lst [])) b = none := fun b hb => (f3 b hb).1.1
  generalize hce : compEnvC scope (cellsFrom (s3.heap.objs.size + 1) scope.names (cloFrom X.env.cells scope.names [])) s3.heap.objs.size X.env = ce at I4 pg pt pe ⊢
  have cL : ce.locals = s3.heap.objs.size := by subst hce; rfl
  generalize hH3 : upd H2 D (.lst []) = H3 at I3 I4 pg pt pe w0 nfp f3
  generalize hs4 : ({ s3 with heap := pushCells (s3.heap.push { cls := .type "dict", data := .dict #[] }) scope.names } : Shared) = s4 at I4 ⊢
  have st4 : tn 0 s4.heap := T.keep _ _ _ st3 fun b _ o e => by rw [← hs4]; exact pushCells_keeps _ _ _ _ (Heap.get?_push_of_some _ e)
  have stat : ∀ {σ' : St} {H' : Hp} {s' : Shared}, Inv (X.blk s3 H3 scope ce fp) [] σ' H' s' → (∀ b ∈ fp, H' b = none) → ∀ b ∈ fp, FpOk (X.blk s3 H3 scope ce fp) [] H' b := fun {σ' H' s'} I' hn b hb =>
    ⟨hn b hb, (I'.ok.exf b hb).1, I'.ok.exfs b hb, .inl hb, fun x c e => (I'.ok.exf b hb).2 x c e, fun p hp => absurd (show p ∈ ([] : List (Addr × Obj)) ++ [] from hp) (by simp)⟩
  have loop : codeAny (model X.prog X.w) X.A (.compLoop (.ListComp elt [⟨tg, iter, ifs, 0⟩] scope pos) 0 (.ref it) (.ref D) ce) (compPost (model X.prog X.w) X.A X.xe use Qf (.ref D) s3.heap.objs.size) s4 := by
    refine compLoop_any (fun n s' => ∃ i H', Inv (X.blk s3 H3 scope ce fp) [] (wipe σ (own.map (·.2))) H' s' ∧ tn i s'.heap ∧ (∀ b ∈ fp, H' b = none) ∧ W i n H') ?_ m0 ⟨0, H3, I4, st4, nfp, w0⟩
    rintro n s5 ⟨i, H5, I5, st5, n5, w5⟩
    rcases turn i n H5 w5 with ⟨stop, qq⟩ | ⟨go, Nx, hNx, step⟩
    · have td := T.done (X.blk s3 H3 scope ce fp) rfl rfl rfl hc i [] s5 _ H5 (fun _ _ => False) I5 (stat I5 n5) st5 stop
      refine thnF td fun r s6 ⟨hr, I6⟩ => ?_
      subst hr
      -- back in the def's context
      have I7 : Inv X pins σ H5 s6 := I3.call' (ch := fp) I6.os I6.base I6.hok I6.bare fun b hb => ⟨(f3 b hb).1.2.2.2.1, (f3 b hb).1.2.1, (f3 b hb).1.2.2.2.2.1, (f3 b hb).1.2.2.2.2.2⟩
      have nC : H5 s3.heap.objs.size = none := by
        have z : H5 ce.locals = none := I6.free
        rw [cL] at z
        exact z
      obtain ⟨m, hn, _⟩ := I6.loc
      have hn : s6.heap.Ns ce.locals m := hn
      rw [cL] at hn
      exact hRR D s3.heap.objs.size s6 m H5 I7 qq hn (I3.fpOk (Nat.le_refl _) nC)
    · have ti := T.item (X.blk s3 H3 scope ce fp) rfl rfl rfl hc i [] s5 _ H5 (fun _ _ => False) I5 (stat I5 n5) st5 go
      refine thnF ti fun r s6 ⟨u, hr, h6⟩ => ?_
      subst hr
      refine thnF h6 fun _ s7 ⟨x, H7, I7, r7, y7, st7, n7⟩ => ?_
      have I7' := I7.pinned (stat I7 n7) (T.obj _ _ st7)
      refine thnF (pg _ s7 _ H7 x u _ I7' r7 (step x H7 y7)) fun _ s8 ⟨σ8, H8, I8, hw8, q8⟩ => ?_
      refine thnF (pt _ s8 σ8 H8 _ I8 q8) fun b s9 ⟨H9, I9, q9⟩ => ?_
      -- the turn's end
      have fin : ∀ {s' : Shared} {H' : Hp}, Inv (X.blk s3 H3 scope ce fp) ([] ++ pinsAt fp s7.heap) σ8 H' s' → Nx H' → ∃ m, m < n ∧ ∃ i H', Inv (X.blk s3 H3 scope ce fp) [] (wipe σ (own.map (·.2))) H' s' ∧ tn i s'.heap ∧ (∀ b ∈ fp, H' b = none) ∧ W i m H' := fun {s' H'} I' nx => by
        obtain ⟨m', hm, w'⟩ := hNx H' nx
        have pin' : ∀ b ∈ fp, ∀ o, s7.heap.get? b = some o → s'.heap.get? b = some o ∧ H' b = none := fun b hb o e =>
          let z := I'.pin (b, o) (List.mem_append_right _ (List.mem_append_right _ (mem_pinsAt hb e)))
          ⟨z.1, z.2.1⟩
        have hl : (wipe σ (own.map (·.2))).length = σ8.length := by rw [← hw8, wipe_length]
        refine ⟨m', hm, i + 1, H', (I'.unpinned (pins := [])).weak hl (fun j v e => ?_), T.keep _ _ _ st7 fun b hb o e => (pin' b hb o e).1, fun b hb => ?_, w'⟩
        · rw [← hw8] at e
          exact (wipe_some e).1
        · obtain ⟨o, e, _⟩ := T.obj _ _ st7 b hb
          exact (pin' b hb o e).2
      cases b with
      | false =>
        simp only [Bool.false_eq_true, if_false] at q9 ⊢
        exact fin I9 q9
      | true =>
        simp only [if_true] at q9 ⊢
        refine thnF (pe _ s9 σ8 H9 _ I9 q9) fun z s10 ⟨yv, H10, I10, r10, acc, hD10, hz10, nx⟩ => ?_
        exact app_ok (X := X.blk s3 H3 scope ce fp) I10 hD10 hz10 r10 fun s11 I11 => fin I11 nx
  exact codeAny_compStart_list loop (T.self X.A 0 _ _ _ st4 loop)
/-- as a value -/
theorem pe_lc {elt tg iter : Expr} {ifs : List Expr} {scope : Scope} {own : List (Str × Nat)} {pos : Pos} {wi : TI} {g : TG} {tt : TT} {te : TE} (hc : X.calm = true) (hN : X.N.Nodup) (hi : PI X tg iter wi) (ok : BlkOk X.N X.env.scope scope own)
    (hg : ∀ (s : Shared) (H : Hp) (C : Addr) (cl : List (Str × Addr)) (fp : List Addr), PG (X.blk s H scope (compEnvC scope cl C X.env) fp) tg g) (ht : ∀ (s : Shared) (H : Hp) (C : Addr) (cl : List (Str × Addr)) (fp : List Addr), PTs (X.blk s H scope (compEnvC scope cl C X.env) fp) ifs tt)
    (he : ∀ (s : Shared) (H : Hp) (C : Addr) (cl : List (Str × Addr)) (fp : List Addr), PE (X.blk s H scope (compEnvC scope cl C X.env) fp) elt te) (hs : ∀ x, foldedSetIterable iter X.env x = pure x := by intro _; rfl) :
    PE X (.ListComp elt [⟨tg, iter, ifs, 0⟩] scope pos) (tLc wi g tt te (own.map (·.2))) := by
  intro pins s σ H Q I h
  rw [eval_ListComp]
  refine lc_core hc hN I hi ok hg ht he hs h fun D C s' m H' I' q hn f => ⟨m, hn, fun h'' sb => ?_⟩
  obtain ⟨f0, f1, f2, f3, f4, f5⟩ := f
  exact ⟨.ref D, H', I'.turned (t' := s'.toks) (fun b o hb e => (sb.2 b hb).trans e) f0 f1 f3 f4 f5, rfl, q⟩
/-- name = [..] on one line, the name a local -/
theorem ps_setLc {i : Nat} {y : Str} {py : Pos} {elt tg iter : Expr} {ifs : List Expr} {scope : Scope} {own : List (Str × Nat)} {pos spos : Pos} {wi : TI} {g : TG} {tt : TT} {te : TE} (hc : X.calm = true) (hN : X.N.Nodup) (hy : X.N[i]? = some y) (hyl : X.env.scope.names.lookup y = some .local)
    (hsw : swapsWith (.ListComp elt [⟨tg, iter, ifs, 0⟩] scope pos) (some (.Name y py)) spos.line X.env = pure true) (hi : PI X tg iter wi) (ok : BlkOk X.N X.env.scope scope own)
    (hg : ∀ (s : Shared) (H : Hp) (C : Addr) (cl : List (Str × Addr)) (fp : List Addr), PG (X.blk s H scope (compEnvC scope cl C X.env) fp) tg g) (ht : ∀ (s : Shared) (H : Hp) (C : Addr) (cl : List (Str × Addr)) (fp : List Addr), PTs (X.blk s H scope (compEnvC scope cl C X.env) fp) ifs tt)
    (he : ∀ (s : Shared) (H : Hp) (C : Addr) (cl : List (Str × Addr)) (fp : List Addr), PE (X.blk s H scope (compEnvC scope cl C X.env) fp) elt te) (hs : ∀ x, foldedSetIterable iter X.env x = pure x := by intro _; rfl) :
    PS X (.Assign [.Name y py] (.ListComp elt [⟨tg, iter, ifs, 0⟩] scope pos) spos) (tAsg (tLc wi g tt te (own.map (·.2))) (gName i)) := by
  intro pins s σ H D I h
  rw [exec_Assign_Name_used _ _ _ _ hsw]
  refine wpAny_bind (wpAny_standAt (wpAny_bind ?_))
  show wpAny _ X.A (do let _ ← comprehension (.ListComp elt [⟨tg, iter, ifs, 0⟩] scope pos) scope X.env (firstIterPos [⟨tg, iter, ifs, 0⟩] pos) (newList []) false (eval iter X.env) (some (assign (.Name y py) X.env))) _ _ s
  have h : tLc wi g tt te (own.map (·.2)) σ H (fun x H1 => gName i x σ H1 D.nx) := h
  refine wpAny_bind (thn (lc_core (Qf := fun _ s' => SP X pins D .next s') hc hN I hi ok hg ht he hs h fun L C s' m H' I' q hn f => ?_) fun _ s' hq => wpAny_pure (wpAny_pure hq))
  show wpAny _ _ (assign (.Name y py) X.env (.ref L)) _ _ _
  refine wpAny_assign_Name (store_ok2 (v := V.ref L) I' hN hy (.inl hyl) rfl (fun s2 I2 ⟨a, sb, ha⟩ => ?_) (.inr hyl))
  obtain ⟨f0, f1, f2, f3, f4, f5⟩ := f
  have haC : C ≠ a := by
    rcases ha with z | z
    · rw [z]; exact f1
    · exact fun e => f4 y a z e.symm
  refine ⟨m, hn.sameBut sb haC, fun h3 sb3 => ?_⟩
  exact ⟨_, H', I2.turned (t' := s2.toks) (fun b o hb e => (sb3.2 b hb).trans e) f0 f1 f3 f4 f5, q⟩
theorem sw_true {elt : Expr} {gs : List Comprehension} {scope : Scope} {pos py : Pos} {y : Str} {l : Nat} {env : Env} (hk : env.scope.kind = .function) (hy : env.scope.names.lookup y = some .local) (hl : (py.line == pos.line) = true)
    (ha : (scope.names.any fun (n, k) => n == y && (k == .local || k == .cell)) = false) : swapsWith (.ListComp elt gs scope pos) (some (.Name y py)) l env = pure true := by
  have ky : env.kindOf y = some .local := hy
  have hb : env.blockKind = .function := by unfold Env.blockKind; rw [hk]; rfl
  unfold swapsWith
  simp only [hb, ky, ha, Expr.pos, hl]
  rfl
end
/-- over a range: Pv by the turn and the heap (the new list at D within) -/
theorem lc_range {lo : Int} {n : Nat} {g : TG} {tt : TT} {te : TE} {vs : List Nat} {σ : St} {H1 : Hp} {D : Addr} {Qd : Hp → Prop} (Pv : Nat → Hp → Prop) (h0 : Pv 0 (upd H1 D (.lst [])))
    (hs : ∀ i H, i < n → Pv i H → g (.int (lo + i)) (wipe σ vs) H fun σ2 H2 => wipe σ2 vs = wipe σ vs ∧ tt σ2 H2 fun b H3 =>
      if b = true then te σ2 H3 fun y H4 => ∃ acc, H4 D = some (.lst acc) ∧ acc.length < sizeLine ∧ Pv (i + 1) (upd H4 D (.lst (acc ++ [y]))) else Pv (i + 1) H3) (hd : ∀ H, Pv n H → Qd H) :
    ∃ W : Nat → Nat → Hp → Prop, (∃ m, W 0 m (upd H1 D (.lst []))) ∧ ∀ i m H, W i m H →
      ((Itr lo n).stop i H ∧ Qd H) ∨ ((Itr lo n).go i H ∧ ∃ Nx : Hp → Prop, (∀ H', Nx H' → ∃ m', m' < m ∧ W (i + 1) m' H') ∧ ∀ x H', (Itr lo n).yld i H x H' → g x (wipe σ vs) H' fun σ2 H2 => wipe σ2 vs = wipe σ vs ∧ tt σ2 H2 fun b H3 =>
        if b = true then te σ2 H3 fun y H4 => ∃ acc, H4 D = some (.lst acc) ∧ acc.length < sizeLine ∧ Nx (upd H4 D (.lst (acc ++ [y]))) else Nx H3) := by
  refine ⟨fun i m H => m = n - i ∧ i ≤ n ∧ Pv i H, ⟨n, by simp, Nat.zero_le _, h0⟩, ?_⟩
  rintro i m H ⟨rfl, hi, p⟩
  by_cases hlt : i < n
  · refine .inr ⟨hlt, Pv (i + 1), fun H' p' => ⟨n - (i + 1), by omega, rfl, hlt, p'⟩, fun x H' y => ?_⟩
    obtain ⟨e, y⟩ := y
    subst e y
    exact hs i _ hlt p
  · have e : i = n := by omega
    subst e
    exact .inl ⟨Nat.le_refl _, hd H p⟩
/-- over a list that the block leaves as it is -/
theorem lc_list {K : PySem.W.Frag} {a : Addr} {xs : List V} {g : TG} {tt : TT} {te : TE} {vs : List Nat} {σ : St} {H1 : Hp} {D : Addr} {Qd : Hp → Prop} (Pv : Nat → Hp → Prop) (h0 : Pv 0 (upd H1 D (.lst []))) (hl : ∀ i H, i ≤ xs.length → Pv i H → SqL K H a xs)
    (hs : ∀ i x H, xs[i]? = some x → Pv i H → g x (wipe σ vs) H fun σ2 H2 => wipe σ2 vs = wipe σ vs ∧ tt σ2 H2 fun b H3 =>
      if b = true then te σ2 H3 fun y H4 => ∃ acc, H4 D = some (.lst acc) ∧ acc.length < sizeLine ∧ Pv (i + 1) (upd H4 D (.lst (acc ++ [y]))) else Pv (i + 1) H3) (hd : ∀ H, Pv xs.length H → Qd H) :
    ∃ W : Nat → Nat → Hp → Prop, (∃ m, W 0 m (upd H1 D (.lst []))) ∧ ∀ i m H, W i m H →
      ((Itl K a).stop i H ∧ Qd H) ∨ ((Itl K a).go i H ∧ ∃ Nx : Hp → Prop, (∀ H', Nx H' → ∃ m', m' < m ∧ W (i + 1) m' H') ∧ ∀ x H', (Itl K a).yld i H x H' → g x (wipe σ vs) H' fun σ2 H2 => wipe σ2 vs = wipe σ vs ∧ tt σ2 H2 fun b H3 =>
        if b = true then te σ2 H3 fun y H4 => ∃ acc, H4 D = some (.lst acc) ∧ acc.length < sizeLine ∧ Nx (upd H4 D (.lst (acc ++ [y]))) else Nx H3) := by
  refine ⟨fun i m H => m = xs.length - i ∧ i ≤ xs.length ∧ Pv i H, ⟨xs.length, by simp, Nat.zero_le _, h0⟩, ?_⟩
  rintro i m H ⟨rfl, hi, p⟩
  have q := hl i H hi p
  by_cases hlt : i < xs.length
  · refine .inr ⟨⟨xs, xs[i], q, by simp [hlt]⟩, Pv (i + 1), fun H' p' => ⟨xs.length - (i + 1), by omega, rfl, hlt, p'⟩, fun x H' y => ?_⟩
    obtain ⟨e, y⟩ := y
    subst e
    exact hs i x _ (y xs q) p
  · have e : i = xs.length := by omega
    subst e
    exact .inl ⟨⟨xs, q, Nat.le_refl _⟩, hd H p⟩
def blkC (N : List Str) (sc scope : Scope) (own : List (Str × Nat)) : Bool :=
  (match scope.kind with | .function => true | _ => false) && (scope.names.all fun y => decide (scope.names.lookup y.1 = some y.2)) && (own.all fun p => decide (N[p.2]? = some p.1)) &&
    (scope.names.all fun y => match y.2 with
      | .free => (match sc.names.lookup y.1 with | some .cell => true | some .free => true | _ => false)
      | .local => decide (y.1 ∈ own.map (·.1)) || decide (y.1 ∉ N)
      | .cell => decide (y.1 ∈ own.map (·.1)) || decide (y.1 ∉ N)
      | _ => true)
theorem blkOk_by {N : List Str} {sc scope : Scope} {own : List (Str × Nat)} (h : blkC N sc scope own = true) : BlkOk N sc scope own := by
  unfold blkC at h
  simp only [Bool.and_eq_true, List.all_eq_true, decide_eq_true_eq] at h
  obtain ⟨⟨⟨h1, h2⟩, h3⟩, h4⟩ := h
  refine ⟨?_, h2, h3, fun y hy e => ?_, fun y hy e => ?_⟩
  · split at h1
    · assumption
    · cases h1
  · have q := h4 y hy
    simp only [e] at q
    split at q <;> first | exact .inl (by assumption) | exact .inr (by assumption) | cases q
  · have q := h4 y hy
    rcases e with e | e <;> (simp only [e, Bool.or_eq_true, decide_eq_true_eq] at q; exact q)
end L2
namespace L2
open PySem PySem.Spec PyProof.Rows
section
variable {prog : Program} {w : World} {A : Around} {R : Result → Shared → Prop} {s : Shared} {elt t0 i0 t1 i1 : Expr} {ifs0 ifs1 : List Expr} {scope : Scope} {pos : Pos} {it acc : Value} {env : Env}
end
section
variable {X : Cx}
end
end L2
namespace L2
open PySem PySem.Spec PyProof.Rows
section
variable {κ : Type} [DecidableEq κ]
def valV (kvs : List (κ × V)) (k : κ) : Option V := (kvs.find? fun kv => decide (kv.1 = k)).map (·.2)
/-- in its place, or at the end -/
def putK (kvs : List (κ × V)) (k : κ) (v : V) : List (κ × V) :=
  if (kvs.any fun kv => decide (kv.1 = k)) = true then kvs.map (fun kv => if kv.1 = k then (kv.1, v) else kv) else kvs ++ [(k, v)]
def dropK (kvs : List (κ × V)) (k : κ) : List (κ × V) := kvs.filter fun kv => decide (kv.1 ≠ k)

theorem valV_pos {p : κ × V} {r : List (κ × V)} {k : κ} (e : p.1 = k) : valV (p :: r) k = some p.2 := by simp [valV, List.find?_cons, e]
theorem valV_neg {p : κ × V} {r : List (κ × V)} {k : κ} (e : ¬ p.1 = k) : valV (p :: r) k = valV r k := by simp [valV, List.find?_cons, e]
theorem valV_any (k : κ) : ∀ kvs : List (κ × V), (kvs.any fun kv => decide (kv.1 = k)) = (valV kvs k).isSome
  | [] => rfl
  | p :: r => by
    rw [List.any_cons]
    by_cases e : p.1 = k
    · simp only [valV_pos e, decide_eq_true e, Bool.true_or, Option.isSome_some]
    · rw [valV_neg e, decide_eq_false e, Bool.false_or]; exact valV_any k r
theorem RelO.isSome_eq {o : Option V} {u : Option Value} (r : RelO o u) : o.isSome = u.isSome := by
  cases o with
  | none => cases u with
    | none => rfl
    | some _ => exact (show False from r).elim
  | some _ => cases u with
    | none => exact (show False from r).elim
    | some _ => rfl
theorem RelO.getD {o : Option V} {u : Option Value} {d : V} {d' : Value} (r : RelO o u) (rd : RelV d d') : RelV (o.getD d) (u.getD d') := by
  cases o with
  | none => cases u with
    | none => exact rd
    | some _ => exact (show False from r).elim
  | some _ => cases u with
    | none => exact (show False from r).elim
    | some _ => exact r

/-- raw tables of the same keys -/
theorem KV.val {kvs : List (κ × V)} {vs : List (κ × Value)} (r : KV kvs vs) (k : κ) : RelO (valV kvs k) (valueAt vs k) := by
  unfold KV at r
  induction r with
  | nil => exact True.intro
  | @cons p q ps qs h t ih =>
    obtain ⟨h1, h2⟩ := h
    by_cases e : p.1 = k
    · have e' : q.1 = k := h1.symm.trans e
      have b : valueAt (q :: qs) k = some q.2 := by simp [valueAt, List.find?_cons, e']
      rw [valV_pos e, b]; exact h2
    · have e' : ¬ q.1 = k := fun z => e (h1.trans z)
      have b : valueAt (q :: qs) k = valueAt qs k := by simp [valueAt, List.find?_cons, e']
      rw [valV_neg e, b]; exact ih
theorem KV.any {kvs : List (κ × V)} {vs : List (κ × Value)} (r : KV kvs vs) (k : κ) : (kvs.any fun kv => decide (kv.1 = k)) = vs.any fun kv => decide (kv.1 = k) := by
  unfold KV at r
  induction r with
  | nil => rfl
  | cons h t ih => rw [List.any_cons, List.any_cons, ih, h.1]
theorem KV.repl {kvs : List (κ × V)} {vs : List (κ × Value)} (r : KV kvs vs) (k : κ) {y : V} {u : Value} (ry : RelV y u) :
    KV (kvs.map fun kv => if kv.1 = k then (kv.1, y) else kv) (vs.map fun kv => if kv.1 = k then (kv.1, u) else kv) := by
  unfold KV at r ⊢
  induction r with
  | nil => exact .nil
  | @cons p q ps qs h t ih =>
    rw [List.map_cons, List.map_cons]
    refine .cons ?_ ih
    obtain ⟨h1, h2⟩ := h
    by_cases e : p.1 = k
    · rw [if_pos e, if_pos (h1.symm.trans e)]; exact ⟨h1, ry⟩
    · rw [if_neg e, if_neg (fun z => e (h1.trans z))]; exact ⟨h1, h2⟩
theorem KV.put {kvs : List (κ × V)} {vs : List (κ × Value)} (r : KV kvs vs) (k : κ) {y : V} {u : Value} (ry : RelV y u) : KV (putK kvs k y) (stored vs k u) := by
  unfold putK stored
  rw [r.any k]
  by_cases e : (vs.any fun kv => decide (kv.1 = k)) = true
  · rw [if_pos e, if_pos e]; exact r.repl k ry
  · rw [if_neg e, if_neg e]; exact Paired.snoc r ⟨rfl, ry⟩
theorem KV.drop {kvs : List (κ × V)} {vs : List (κ × Value)} (r : KV kvs vs) (k : κ) : KV (dropK kvs k) (without vs k) := by
  unfold KV at r ⊢
  unfold dropK without
  induction r with
  | nil => exact .nil
  | @cons p q ps qs h t ih =>
    obtain ⟨h1, h2⟩ := h
    rw [List.filter_cons, List.filter_cons]
    by_cases e : p.1 = k
    · have a : ¬ decide (p.1 ≠ k) = true := by simp [e]
      have b : ¬ decide (q.1 ≠ k) = true := by simp [h1.symm.trans e]
      rw [if_neg a, if_neg b]; exact ih
    · have e' : ¬ q.1 = k := fun z => e (h1.trans z)
      have a : decide (p.1 ≠ k) = true := by simp [e]
      have b : decide (q.1 ≠ k) = true := by simp [e']
      rw [if_pos a, if_pos b]; exact .cons ⟨h1, h2⟩ ih
theorem KV.keys {kvs : List (κ × V)} {vs : List (κ × Value)} (r : KV kvs vs) : kvs.map (·.1) = vs.map (·.1) := by
  unfold KV at r
  induction r with
  | nil => rfl
  | cons h t ih => rw [List.map_cons, List.map_cons, ih, h.1]
theorem KV.length {kvs : List (κ × V)} {vs : List (κ × Value)} (r : KV kvs vs) : kvs.length = vs.length := Paired.length r
end
/-- raw entries of a dict with tuple keys -/
abbrev KT (H : Hp) : List (List Key × V) → List (List Key × Addr × Value) → Prop := Paired fun p q => p.1 = q.1 ∧ H q.2.1 = some (.tup (p.1.map kV)) ∧ RelV p.2 q.2.2
theorem KT.val {H : Hp} {kvs : List (List Key × V)} {xs : List (List Key × Addr × Value)} (r : KT H kvs xs) (k : List Key) : RelO (valV kvs k) ((atKey xs k).map (·.2)) := by
  induction r with
  | nil => exact True.intro
  | @cons p q ps qs h t ih =>
    obtain ⟨h1, _, h2⟩ := h
    by_cases e : p.1 = k
    · have e' : q.1 = k := h1.symm.trans e
      have b : atKey (q :: qs) k = some q.2 := by simp [atKey, List.find?_cons, e']
      rw [valV_pos e, b]; exact h2
    · have e' : ¬ q.1 = k := fun z => e (h1.trans z)
      have b : atKey (q :: qs) k = atKey qs k := by simp [atKey, List.find?_cons, e']
      rw [valV_neg e, b]; exact ih
theorem KT.repl {H : Hp} {kvs : List (List Key × V)} {xs : List (List Key × Addr × Value)} (r : KT H kvs xs) (k : List Key) {y : V} {u : Value} (ry : RelV y u) :
    KT H (kvs.map fun kv => if kv.1 = k then (kv.1, y) else kv) (xs.map (putAt k u)) := by
  induction r with
  | nil => exact .nil
  | @cons p q ps qs h t ih =>
    rw [List.map_cons, List.map_cons]
    refine .cons ?_ ih
    obtain ⟨h1, h2, h3⟩ := h
    unfold putAt
    by_cases e : p.1 = k
    · rw [if_pos e, if_pos (h1.symm.trans e)]; exact ⟨h1, h2, ry⟩
    · rw [if_neg e, if_neg (fun z => e (h1.trans z))]; exact ⟨h1, h2, h3⟩
theorem KT.put {H : Hp} {kvs : List (List Key × V)} {xs : List (List Key × Addr × Value)} (r : KT H kvs xs) (k : List Key) {b : Addr} {y : V} {u : Value} (hb : H b = some (.tup (k.map kV))) (ry : RelV y u) :
    KT H (putK kvs k y) (storedH xs k b u) := by
  have e : (kvs.any fun kv => decide (kv.1 = k)) = (atKey xs k).isSome := by
    rw [valV_any, (r.val k).isSome_eq, Option.isSome_map]
  unfold putK storedH
  rw [e]
  by_cases q : (atKey xs k).isSome = true
  · rw [if_pos q, if_pos q]; exact r.repl k ry
  · rw [if_neg q, if_neg q]; exact Paired.snoc r ⟨rfl, hb, ry⟩
theorem KT.keeps {H H' : Hp} {kvs : List (List Key × V)} {xs : List (List Key × Addr × Value)} (r : KT H kvs xs) (ht : ∀ b ys, H b = some (.tup ys) → H' b = some (.tup ys)) : KT H' kvs xs :=
  Paired.mapP r fun _ _ z => ⟨z.1, ht _ _ z.2.1, z.2.2⟩

section
variable {P : Program} {w : World} {H : Hp} {h : Heap} {a : Addr}
end
/-- what the dict at a holds at the key y -/
def DGet (H : Hp) (a : Addr) (y : V) (r : Option V) : Prop :=
  (∃ kvs k, Rd H a (.dK kvs) ∧ y = kV k ∧ r = valV kvs k) ∨ ∃ kvs k b, Rd H a (.dT kvs) ∧ y = .ref b ∧ H b = some (.tup (k.map kV)) ∧ r = valV kvs k
/-- the heap behind a[y] = v -/
def DPut (H : Hp) (a : Addr) (y v : V) (H' : Hp) : Prop :=
  (∃ kvs k, H a = some (.dK kvs) ∧ y = kV k ∧ kvs.length < sizeLine ∧ H' = upd H a (.dK (putK kvs k v))) ∨
  ∃ kvs k b, H a = some (.dT kvs) ∧ y = .ref b ∧ H b = some (.tup (k.map kV)) ∧ kvs.length < sizeLine ∧ H' = upd H a (.dT (putK kvs k v))
theorem DGet.k {H : Hp} {a : Addr} {kvs : List (Key × V)} {k : Key} (e : H a = some (.dK kvs)) : DGet H a (kV k) (valV kvs k) := .inl ⟨kvs, k, .inl e, rfl, rfl⟩
theorem DGet.t {H : Hp} {a b : Addr} {kvs : List (List Key × V)} {k : List Key} (e : H a = some (.dT kvs)) (eb : H b = some (.tup (k.map kV))) : DGet H a (.ref b) (valV kvs k) := .inr ⟨kvs, k, b, .inl e, rfl, eb, rfl⟩
theorem DPut.k {H : Hp} {a : Addr} {kvs : List (Key × V)} {k : Key} {v : V} (e : H a = some (.dK kvs)) (hl : kvs.length < sizeLine) : DPut H a (kV k) v (upd H a (.dK (putK kvs k v))) := .inl ⟨kvs, k, e, rfl, hl, rfl⟩
theorem DPut.t {H : Hp} {a b : Addr} {kvs : List (List Key × V)} {k : List Key} {v : V} (e : H a = some (.dT kvs)) (eb : H b = some (.tup (k.map kV))) (hl : kvs.length < sizeLine) :
    DPut H a (.ref b) v (upd H a (.dT (putK kvs k v))) := .inr ⟨kvs, k, b, e, rfl, eb, hl, rfl⟩


section
variable {X : Cx} {pins : List (Addr × Obj)} {σ : St} {H : Hp} {s : Shared} {a : Addr} {y v : V} {u r : Value} {o : Option V} {A : Around} {E : Value → Shared → Prop}
theorem Inv.big (I : Inv X pins σ H s) : sysModules < s.heap.objs.size := by
  have h : mainGlobals < s.heap.objs.size := (I.mod.glob.keeps I.bk).lt
  exact Nat.lt_trans (by decide) h

end
section
variable {X : Cx} {pins : List (Addr × Obj)} {σ : St} {H : Hp} {s : Shared} {a : Addr} {kvs : List (Key × V)} {k : Key} {u : Value} {A : Around} {E : Value → Shared → Prop}
end
section
variable {X : Cx} {o i e value : Expr} {pos pos' tpos : Pos} {td ty tv : TE}
end
section
variable {X : Cx} {pos : Pos}
end
/-- a method call o.m(e) of a built-in, with one argument: what must be seen of the text -/
structure M1 (X : Cx) (o : Expr) (m : Str) (apos : Pos) (e : Expr) (cpos : Pos) : Prop where
  base : attributeBase o m X.env (eval o X.env) = eval o X.env
  few : ((backTo cpos (starEach [e] X.env)).all (fun x => !x.1) && (backToKw cpos (keywordEach [] X.env)).all (fun x => x.1.isSome)
    && decide (([e] : List Expr).length + ([] : List Keyword).length + (if ([] : List Keyword).isEmpty then 0 else 1) < 30)) = true
  line : (apos.endLine == cpos.line) = true
  trees : backTo cpos (starEach [e] X.env) = [(false, eval e X.env)]
structure M2 (X : Cx) (o : Expr) (m : Str) (apos : Pos) (e f : Expr) (cpos : Pos) : Prop where
  base : attributeBase o m X.env (eval o X.env) = eval o X.env
  few : ((backTo cpos (starEach [e, f] X.env)).all (fun x => !x.1) && (backToKw cpos (keywordEach [] X.env)).all (fun x => x.1.isSome)
    && decide (([e, f] : List Expr).length + ([] : List Keyword).length + (if ([] : List Keyword).isEmpty then 0 else 1) < 30)) = true
  line : (apos.endLine == cpos.line) = true
  trees : backTo cpos (starEach [e, f] X.env) = [(false, eval e X.env), (false, eval f X.env)]

section
variable {X : Cx} {pins : List (Addr × Obj)} {σ : St} {H : Hp} {s : Shared} {a : Addr} {y d : V} {u r : Value} {o : Option V} {A : Around} {E : Value → Shared → Prop}
end
section
variable {X : Cx} {o e f : Expr} {apos cpos : Pos} {td ty tx : TE}
end
section
variable {X : Cx} {pins : List (Addr × Obj)} {σ : St} {H : Hp} {s : Shared} {a : Addr} {kvs : List (Key × V)} {A : Around} {E : Value → Shared → Prop}
end
section
variable {X : Cx} {pins : List (Addr × Obj)} {σ : St} {H : Hp} {s : Shared} {a : Addr} {y : V} {u : Value} {A : Around} {E : Value → Shared → Prop}
end
end L2
namespace L2
open PySem PySem.Spec PyProof.Rows
section
variable {prog : Program} {w : World} {A : Around} {E : Value → Shared → Prop}
end
section
variable {X : Cx}
end
end L2
namespace L2
open PySem PySem.Spec PyProof.Rows
section
variable {X : Cx} {pins : List (Addr × Obj)} {σ : St} {H : Hp} {s : Shared} {h' : Heap}
/-- several records of ours have turned -/
theorem Inv.turnedL {t' : Nat} {ch : List Addr} (I : Inv X pins σ H s) (k : ∀ b o, b ∉ ch → s.heap.get? b = some o → h'.get? b = some o) (hf : ∀ b ∈ ch, FpOk X pins H b) : Inv X pins σ H { s with heap := h', toks := t' } := by
  have nit : ∀ b u, H b = some u → b ∉ ch := fun b u e z => by
    have q := (hf b z).1
    rw [q] at e; cases e
  refine I.step (g' := s.gens) (d' := s.drawn) (ch := ch) (fun b hb => ⟨(hf b hb).2.2.2.1, (hf b hb).2.1, (hf b hb).2.2.2.2.1, (hf b hb).2.2.2.2.2⟩) (fun b o _ _ hc e _ => k b o hc e) (fun b o _ _ hc e _ => ⟨o.slots, k b o hc e⟩)
    (fun _ _ _ _ n => n) (fun b o hc e => ⟨o, k b o hc e⟩) (fun _ _ e => e) (fun _ _ _ e => e) (fun b ps e => ⟨#[], by rw [e]; simp⟩) (fun m hm => ?_) (fun b u e => ?_) I.bare
  · obtain ⟨o, es, ep, ho, r⟩ := hm
    exact ⟨o, es, ep, k _ o (fun z => (hf _ z).2.1 rfl) ho, r⟩
  · refine (I.hok b u e).stay (fun c v hc q => k c v ?_ q) (fun _ q => q) fun _ _ q => q
    rcases hc with z | z
    · rw [z]; exact nit b u e
    · exact nit c _ z
/-- .. and one new object is laid -/
theorem Inv.turnedNew {t' : Nat} {ch : List Addr} {T : Addr} {ob : HO} (I : Inv X pins σ H s) (k : ∀ b o, b ∉ ch → s.heap.get? b = some o → h'.get? b = some o) (hf : ∀ b ∈ ch, FpOk X pins H b) (hT : s.heap.objs.size ≤ T)
    (new : ObjOk X.prog X.w (upd H T ob) h' T ob) : Inv X pins σ (upd H T ob) { s with heap := h', toks := t' } := by
  have hn : H T = none := I.hok.fresh hT
  have nit : ∀ b u, H b = some u → b ∉ ch := fun b u e z => by
    have q := (hf b z).1
    rw [q] at e; cases e
  refine I.step (g' := s.gens) (d' := s.drawn) (ch := ch) (fun b hb => ⟨(hf b hb).2.2.2.1, (hf b hb).2.1, (hf b hb).2.2.2.2.1, (hf b hb).2.2.2.2.2⟩) (fun b o _ _ hc e _ => k b o hc e) (fun b o _ _ hc e _ => ⟨o.slots, k b o hc e⟩)
    (fun b o _ e n => ?_) (fun b o hc e => ⟨o, k b o hc e⟩) (fun b xs e => ?_) (fun b o u e => ?_) (fun b ps e => ⟨#[], ?_⟩) (fun m hm => ?_) (fun b u e => ?_) I.bare
  · rw [upd_ne (Nat.ne_of_lt (Nat.lt_of_lt_of_le (Heap.lt_size e) hT))]; exact n
  · rw [upd_ne (ne_of_none e hn)]; exact e
  · rw [upd_ne (ne_of_none e hn)]; exact e
  · rw [upd_ne (ne_of_none e hn), e]; simp
  · obtain ⟨o, es, ep, ho, r⟩ := hm
    exact ⟨o, es, ep, k _ o (fun z => (hf _ z).2.1 rfl) ho, r⟩
  · by_cases hb : b = T
    · subst hb
      rw [upd_same] at e
      cases e
      exact new
    · rw [upd_ne hb] at e
      refine (I.hok b u e).stay (fun c v hc q => k c v ?_ q) (fun c q => by rw [upd_ne (ne_of_none q hn)]; exact q) fun c xs q => by rw [upd_ne (ne_of_none q hn)]; exact q
      rcases hc with z | z
      · rw [z]; exact nit b u e
      · exact nit c _ z

end
section
variable {X : Cx}
theorem pi_one {tg : Expr} {pins : List (Addr × Obj)} {σ : St} {H : Hp} {s : Shared} {R : It → Hp → Prop} {J : It} {tn : Nat → Heap → Prop} {tk : Nat} (I : Inv X pins σ H s) (o : Obj)
    (T : Turn X.prog X.w X.K tg J [s.heap.objs.size] s.heap.objs.size tn) (st : tn 0 (s.heap.push o)) (q : R J H) : PIE X pins σ tg R (.ref s.heap.objs.size) { s with heap := s.heap.push o, toks := tk } := by
  refine ⟨s.heap.objs.size, [s.heap.objs.size], tn, J, H, rfl, I.kept fun b ob e => Heap.get?_push_of_some _ e, T, st, fun b hb => ?_, q⟩
  have e : b = s.heap.objs.size := by simpa using hb
  subst e
  exact I.fpOk (Nat.le_refl _) (I.hok.fresh (Nat.le_refl _))
end
/-- lo, lo + c, .. (n of them) -/
def Itc (lo c : Int) (n : Nat) : It := ⟨fun i _ => i < n, fun i H x H' => H' = H ∧ x = .int (lo + (i : Nat) * c), fun i _ => n ≤ i⟩
theorem turn_rangeC {P : Program} {w : World} {K : PySem.W.Frag} {tg : Expr} (it : Addr) (lo c : Int) (n : Nat) : Turn P w K tg (Itc lo c n) [it] it (fun i h => IsRangeIter h it (lo + (i : Nat) * c) ((n : Int) - (i : Nat)) c) where
  mem := by simp
  obj := fun i h st b hb => by
    have e : b = it := by simpa using hb
    subst e
    exact ⟨_, st, fun v z => nomatch z⟩
  keep := fun i h h' st k => k it (by simp) _ st
  item := by
    intro X hP hw hK hc i pins s σ H E I hf st hg
    subst hP hw hK
    obtain ⟨f0, f1, f2, f3, f4, f5⟩ := hf it (by simp)
    have W := Walks.range (prog := X.prog) (w := X.w) (I.ok.hd hc) it lo c n
    refine W.item i s _ _ hg st fun v h' tk hv st' kk => ?_
    obtain ⟨t, rfl⟩ := hv
    have I1 : Inv X pins σ H { s with heap := h', toks := tk } := I.turned (fun b o hb e => kk b o (by simpa using hb) e) f0 f1 f3 f4 f5
    exact ⟨_, rfl, go_of (s := { s with heap := h', toks := tk }) (n := "range_iterator") st' rfl rfl (by decide) ⟨.int (lo + (i : Nat) * c), H, I1, ⟨t, rfl⟩, ⟨rfl, rfl⟩, st', fun b hb => (hf b hb).1⟩⟩
  done := by
    intro X hP hw hK hc i pins s σ H E I hf st hg
    subst hP hw hK
    obtain ⟨f0, f1, f2, f3, f4, f5⟩ := hf it (by simp)
    exact wpAny_pyNext_range_end (I.ok.hd hc) st (by have : n ≤ i := hg; omega) fun h' eb => ⟨rfl, I.turned (t' := s.toks) (fun b o hb e => eb b o hb e) f0 f1 f3 f4 f5⟩
  self := fun A i s Q E st h => wpAny_pyIter_rangeiter st h
/-- range(i, j, c): small bounds, n items -/
def RgC (i j c : Int) (n : Nat) : Prop := c ≠ 0 ∧ c.natAbs < 1073741824 ∧ Builtin.Range.small i j c = true ∧ Builtin.Range.rangeSize i j c = n
theorem RgC.neg {i j : Int} (ha : -(2 ^ 62) ≤ i) (ha' : i < 2 ^ 62) (hb : -(2 ^ 62) ≤ j) (hb' : j < 2 ^ 62) : RgC i j (-1) (i - j).toNat :=
  ⟨by decide, by decide, PySem.W.small_down ha ha' hb hb', PySem.W.rangeSize_downNat i j⟩
def iRng3 (ta : TA) : TI := fun σ H R => ta σ H fun vs H1 => ∃ (i j c : Int) (n : Nat), vs = [.int i, .int j, .int c] ∧ RgC i j c n ∧ R (Itc i c n) H1
section
variable {X : Cx} {tg : Expr}
theorem pi_range3 {a b c : Expr} {ta : TA} {p pos : Pos} (hg : Gl X "range") (hm : X.mg "range" = none) (ha : PA X [a, b, c] ta)
    (hs : starEach [a, b, c] X.env = (false, eval a X.env) :: starEach [b, c] X.env := by rfl) (hpl : (backTo pos (starEach [b, c] X.env)).any (·.1) = false := by rfl) :
    PI X tg (.Call (.Name "range" p) [a, b, c] [] pos) (iRng3 ta) := by
  intro pins s σ H R I h
  refine Call_ (ld_blt I hg hm boot_range (PyProof.Rows.callWith_type1 (thn (ha pos pins s σ H _ I h) fun us s1 ⟨vs, H1, I1, r1, q1⟩ => ?_) hs hpl))
  obtain ⟨i, j, k, n, e, ⟨c0, c1, c2, c3⟩, q⟩ := q1
  subst e
  cases r1 with
  | cons r rr =>
    cases rr with
    | cons r' rr =>
      cases rr with
      | cons r'' rr =>
        cases rr
        obtain ⟨t, rfl⟩ := r
        obtain ⟨t', rfl⟩ := r'
        obtain ⟨t'', rfl⟩ := r''
        refine call_range_3 c0 ?_ (.inl (PyProof.noPylong_small c1))
        refine wpAny_pyIter_range (IsRange.new ..) c2 ?_
        have I2 : Inv X pins σ H1 { s1 with heap := s1.heap.push { cls := .type "range", data := .fields #[.int i t, .int j t', .int k t''] } } := I1.kept (t' := s1.toks) fun b o e => Heap.get?_push_of_some _ e
        refine pi_one (tk := s1.toks) I2 _ (turn_rangeC _ i k n) ?_ q
        have e1 : i + ((0 : Nat) : Int) * k = i := by simp
        have e2 : (n : Int) - ((0 : Nat) : Int) = Builtin.Range.rangeSize i j k := by rw [c3]; simp
        show IsRangeIter _ _ (i + ((0 : Nat) : Int) * k) ((n : Int) - ((0 : Nat) : Int)) k
        rw [e1, e2]
        exact Heap.get?_push_size _ rfl
end
/-- the turns of a step range, for the for loop -/
theorem for_rangeC {lo c : Int} {n : Nat} {g : TG} {tb : TS} {D : Ends} {σ : St} {H : Hp} (Pv : Nat → St → Hp → Prop) (h0 : Pv 0 σ H)
    (hs : ∀ i σ H, i < n → Pv i σ H → g (.int (lo + (i : Nat) * c)) σ H fun σ2 H2 => tb { D with nx := Pv (i + 1), ct := Pv (i + 1), bk := D.nx } σ2 H2) (hd : ∀ σ H, Pv n σ H → D.nx σ H) :
    ∃ W : Nat → Nat → St → Hp → Prop, (∃ m, W 0 m σ H) ∧ ∀ i m σ H, W i m σ H →
      ((Itc lo c n).stop i H ∧ D.nx σ H) ∨ ((Itc lo c n).go i H ∧ ∃ N : St → Hp → Prop, (∀ σ' H', N σ' H' → ∃ m', m' < m ∧ W (i + 1) m' σ' H') ∧ ∀ x H', (Itc lo c n).yld i H x H' → g x σ H' fun σ2 H2 => tb { D with nx := N, ct := N, bk := D.nx } σ2 H2) := by
  refine ⟨fun i m σ H => m = n - i ∧ i ≤ n ∧ Pv i σ H, ⟨n, by simp, Nat.zero_le _, h0⟩, ?_⟩
  rintro i m σ H ⟨rfl, hi, p⟩
  by_cases hlt : i < n
  · refine .inr ⟨hlt, Pv (i + 1), fun σ' H' p' => ⟨n - (i + 1), by omega, rfl, hlt, p'⟩, fun x H' y => ?_⟩
    obtain ⟨e, y⟩ := y
    subst e y
    exact hs i σ _ hlt p
  · have e : i = n := by omega
    subst e
    exact .inl ⟨Nat.le_refl _, hd σ H p⟩

section
variable {X : Cx} {tg : Expr}
end
section
variable {prog : Program} {w : World} {A : Around} {E : Value → Shared → Prop} {s : Shared}
end
section
variable {X : Cx} {pins : List (Addr × Obj)} {σ : St} {H : Hp} {s : Shared} {d : Addr} {o : Obj}
end
section
variable {P : Program} {w : World} {K : PySem.W.Frag} {tg : Expr} {d : Addr} {o : Obj} {es : Array DictEntry} {ep : Nat}
end
section
variable {X : Cx} {tg e : Expr} {td : TE} {apos cpos : Pos}
end
/-- the list at a as it stands at each turn, each item in a new pair -/
def Ite (K : PySem.W.Frag) (a : Addr) : It :=
  ⟨fun i H => ∃ (xs : List V) (x : V), SqL K H a xs ∧ xs[i]? = some x, fun i H v H' => ∃ T x, v = .ref T ∧ H T = none ∧ H' = upd H T (.tup [.int (i : Nat), x]) ∧ ∀ xs, SqL K H a xs → xs[i]? = some x, fun i H => ∃ xs : List V, SqL K H a xs ∧ xs.length ≤ i⟩
theorem turn_enum {P : Program} {w : World} {K : PySem.W.Frag} {elts : List Expr} {kk : Nat} {tpos : Pos} (a e it : Addr) :
    Turn P w K (.Tuple elts kk tpos) (Ite K a) [e, it] e (fun i h => (∃ old, IsEnum h e it ((i : Nat) : Int) old) ∧ h.IsListIter it a i ∧ e ≠ it) where
  mem := by simp
  obj := fun i h st b hb => by
    obtain ⟨⟨old, he⟩, ⟨o, ho, hc, hd⟩, _⟩ := st
    have e' : b = e ∨ b = it := by simpa using hb
    rcases e' with z | z
    · rw [z]; exact ⟨_, he, fun v q => nomatch q⟩
    · rw [z]; exact ⟨o, ho, fun v q => by rw [hd] at q; cases q⟩
  keep := fun i h h' st k => let ⟨⟨old, he⟩, hi, hne⟩ := st; ⟨⟨old, k e (by simp) _ he⟩, hi.at fun o q => k it (by simp) o q, hne⟩
  item := by
    intro X hP hw hK hc i pins s σ H E I hf st hg
    subst hP hw hK
    obtain ⟨⟨old, he⟩, hit, hne⟩ := st
    obtain ⟨xs, x, hq, hx⟩ := hg
    obtain ⟨its, rv, p, hz⟩ := I.list hq
    obtain ⟨u, hu, ru⟩ := rv.get hx
    have hel : e < s.heap.objs.size := Heap.lt_size he
    have hil : it < s.heap.objs.size := by obtain ⟨_, q, _⟩ := hit; exact Heap.lt_size q
    refine wpAny_pyNext_enum_item he hit p.isList (x := u) (by simpa using hu) hne fun h' ho hit' hT hsz hk => ?_
    refine ⟨_, rfl, wpAny_letOwnedTupleGo_enum (s := { s with heap := h', toks := s.toks + 1 }) ho fun h'' he' sb => ?_⟩
    have hT2 : h''.get? s.heap.objs.size = some { cls := .type "tuple", data := .seq #[.int i s.toks, u] } := (sb.2 _ (Nat.ne_of_gt hel)).trans hT
    have new : ObjOk X.prog X.w (upd H s.heap.objs.size (.tup [.int (i : Nat), x])) h'' s.heap.objs.size (.tup [.int (i : Nat), x]) :=
      ⟨by show 2 ≤ sizeLine; decide, [.int i s.toks, u], .cons ⟨_, rfl⟩ (.cons ru .nil), ⟨_, hT2, rfl, _, rfl⟩⟩
    have I1 : Inv X pins σ (upd H s.heap.objs.size (.tup [.int (i : Nat), x])) { s with heap := h'', toks := s.toks + 1 } :=
      I.turnedNew (ch := [e, it]) (fun b ob hb q => (sb.2 b (fun z => hb (by simp [z]))).trans (hk b ob (fun z => hb (by simp [z])) (fun z => hb (by simp [z])) q)) hf (Nat.le_refl _) new
    refine ⟨.ref s.heap.objs.size, _, I1, rfl, ⟨_, x, rfl, I.hok.fresh (Nat.le_refl _), rfl, fun ys hy => by rw [I.list_inj hy hq]; exact hx⟩, ⟨⟨u, ?_⟩, hit'.at fun o q => (sb.2 it (Ne.symm hne)).trans q, hne⟩, fun b hb => ?_⟩
    · have e1 : ((i + 1 : Nat) : Int) = (i : Int) + 1 := by omega
      rw [e1]; exact he'
    · have hb' : b < s.heap.objs.size := by
        have e' : b = e ∨ b = it := by simpa using hb
        rcases e' with z | z
        · rw [z]; exact hel
        · rw [z]; exact hil
      rw [upd_ne (Nat.ne_of_lt hb')]
      exact (hf b hb).1
  done := by
    intro X hP hw hK hc i pins s σ H E I hf st hg
    subst hP hw hK
    obtain ⟨⟨old, he⟩, hit, hne⟩ := st
    obtain ⟨xs, hq, hx⟩ := hg
    obtain ⟨its, rv, p, hz⟩ := I.list hq
    obtain ⟨f0, f1, f2, f3, f4, f5⟩ := hf it (by simp)
    have hl := rv.length
    exact wpAny_pyNext_enum_end (I.ok.hd hc) he hit p.isList (by simp; omega) fun h' eb => ⟨rfl, I.turned (t' := s.toks) (fun b o hb q => eb b o hb q) f0 f1 f3 f4 f5⟩
  self := fun A i s Q E st h => let ⟨⟨_, he⟩, _⟩ := st; wpAny_pyIter_enum he h
def iEnum (K : PySem.W.Frag) (ta : TA) : TI := fun σ H R => ta σ H fun vs H1 => ∃ a xs, vs = [.ref a] ∧ SqL K H1 a xs ∧ R (Ite K a) H1
theorem pi_enum {X : Cx} {e : Expr} {ta : TA} {p pos tpos : Pos} {elts : List Expr} {kk : Nat} (hg : Gl X "enumerate") (hm : X.mg "enumerate" = none) (ha : PA X [e] ta) (hs : starEach [e] X.env = [(false, eval e X.env)] := by rfl) :
    PI X (.Tuple elts kk tpos) (.Call (.Name "enumerate" p) [e] [] pos) (iEnum X.K ta) := by
  intro pins s σ H R I h
  refine Call_ (ld_blt I hg hm boot_enumerate (PyProof.Rows.callWith_type1 (thn (ha pos pins s σ H _ I h) fun us s1 ⟨vs, H1, I1, r1, q1⟩ => ?_) hs rfl))
  obtain ⟨a, xs, ex, hq, q⟩ := q1
  subst ex
  cases r1 with
  | cons r rr =>
    cases rr
    cases r
    obtain ⟨its, rv, p', hz⟩ := I1.list hq
    refine call_enumerate_list p'.isList fun h' he hit hsz hk => wpAny_pyIter_enum he ?_
    have I2 : Inv X pins σ H1 { s1 with heap := h' } := I1.kept (t' := s1.toks) hk
    refine ⟨s1.heap.objs.size + 1, [s1.heap.objs.size + 1, s1.heap.objs.size], _, _, H1, rfl, I2, turn_enum a (s1.heap.objs.size + 1) s1.heap.objs.size, ⟨⟨.none, he⟩, hit, Nat.succ_ne_self _⟩, fun b hb => ?_, q⟩
    have e' : b = s1.heap.objs.size + 1 ∨ b = s1.heap.objs.size := by simpa using hb
    have hle : s1.heap.objs.size ≤ b := by
      rcases e' with z | z
      · rw [z]; exact Nat.le_add_right _ _
      · rw [z]; exact Nat.le_refl _
    exact I1.fpOk hle (I1.hok.fresh hle)
theorem boot_zip5 : bootBuiltins "zip" = some (.type "zip") := by decide +kernel
/-- the lists at a and b as they stand at each turn, the items in new pairs -/
def Itz (K : PySem.W.Frag) (a b : Addr) : It :=
  ⟨fun i H => ∃ (xs ys : List V) (x y : V), SqL K H a xs ∧ SqL K H b ys ∧ xs[i]? = some x ∧ ys[i]? = some y,
    fun i H v H' => ∃ T x y, v = .ref T ∧ H T = none ∧ H' = upd H T (.tup [x, y]) ∧ (∀ xs, SqL K H a xs → xs[i]? = some x) ∧ ∀ ys, SqL K H b ys → ys[i]? = some y,
    fun i H => ∃ xs ys : List V, SqL K H a xs ∧ SqL K H b ys ∧ (xs.length ≤ i ∨ ys.length ≤ i)⟩
theorem turn_zip {P : Program} {w : World} {K : PySem.W.Frag} {elts : List Expr} {kk : Nat} {tpos : Pos} {a b z TI TO i1 i2 : Addr} (D : ZipApart z TI TO i1 i2 a b) :
    Turn P w K (.Tuple elts kk tpos) (Itz K a b) [z, TI, TO, i1, i2] z (fun i h => IsZip h z TI TO .none ∧ IsPair h TI (.ref i1) (.ref i2) ∧ (∃ x y, IsPair h TO x y) ∧ h.IsListIter i1 a i ∧ h.IsListIter i2 b i) where
  mem := by simp
  obj := fun i h st c hc => by
    obtain ⟨hz, hTI, ⟨x, y, hTO⟩, ⟨o1, e1, _, d1⟩, ⟨o2, e2, _, d2⟩⟩ := st
    have e' : c = z ∨ c = TI ∨ c = TO ∨ c = i1 ∨ c = i2 := by simpa using hc
    rcases e' with q | q | q | q | q
    · rw [q]; exact ⟨_, hz, fun v q => nomatch q⟩
    · rw [q]; exact ⟨_, hTI, fun v q => nomatch q⟩
    · rw [q]; exact ⟨_, hTO, fun v q => nomatch q⟩
    · rw [q]; exact ⟨o1, e1, fun v q => by rw [d1] at q; cases q⟩
    · rw [q]; exact ⟨o2, e2, fun v q => by rw [d2] at q; cases q⟩
  keep := fun i h h' st k => by
    obtain ⟨hz, hTI, ⟨x, y, hTO⟩, h1, h2⟩ := st
    exact ⟨k z (by simp) _ hz, k TI (by simp) _ hTI, ⟨x, y, k TO (by simp) _ hTO⟩, h1.at fun o q => k i1 (by simp) o q, h2.at fun o q => k i2 (by simp) o q⟩
  item := by
    intro X hP hw hK hc i pins s σ H E I hf st hg
    subst hP hw hK
    obtain ⟨hz, hTI, ⟨x0, y0, hTO⟩, h1, h2⟩ := st
    obtain ⟨xs, ys, x, y, hqx, hqy, hx, hy⟩ := hg
    obtain ⟨its, rv, p, _⟩ := I.list hqx
    obtain ⟨its2, rv2, p2, _⟩ := I.list hqy
    obtain ⟨u, hu, ru⟩ := rv.get hx
    obtain ⟨u2, hu2, ru2⟩ := rv2.get hy
    have hzl : z < s.heap.objs.size := Heap.lt_size hz
    refine wpAny_pyNext_zip_item D hz hTI hTO h1 h2 p.isList p2.isList (x := u) (y := u2) (by simpa using hu) (by simpa using hu2) fun h' z' TO' h1' h2' hT hsz hk => ?_
    refine ⟨_, rfl, wpAny_letOwnedTupleGo_zip (s := { s with heap := h' }) z' fun h'' z'' sb => ?_⟩
    have hT2 : h''.get? s.heap.objs.size = some { cls := .type "tuple", data := .seq #[u, u2] } := (sb.2 _ (Nat.ne_of_gt hzl)).trans hT
    have new : ObjOk X.prog X.w (upd H s.heap.objs.size (.tup [x, y])) h'' s.heap.objs.size (.tup [x, y]) :=
      ⟨by show 2 ≤ sizeLine; decide, [u, u2], .cons ru (.cons ru2 .nil), ⟨_, hT2, rfl, _, rfl⟩⟩
    have I1 : Inv X pins σ (upd H s.heap.objs.size (.tup [x, y])) { s with heap := h'' } :=
      I.turnedNew (t' := s.toks) (ch := [z, TI, TO, i1, i2]) (fun c o hb q => (sb.2 c (fun q' => hb (by simp [q']))).trans (hk c o (fun q' => hb (by simp [q'])) (fun q' => hb (by simp [q'])) (fun q' => hb (by simp [q'])) (fun q' => hb (by simp [q'])) q)) hf (Nat.le_refl _) new
    refine ⟨.ref s.heap.objs.size, _, I1, rfl, ⟨_, x, y, rfl, I.hok.fresh (Nat.le_refl _), rfl, fun l hl => by rw [I.list_inj hl hqx]; exact hx, fun l hl => by rw [I.list_inj hl hqy]; exact hy⟩, ⟨z'', ?_, ⟨u, u2, ?_⟩, ?_, ?_⟩, fun c hcm => ?_⟩
    · exact (sb.2 _ D.TIz).trans (hk _ _ D.TIz D.TITO D.TIi1 D.TIi2 hTI)
    · exact (sb.2 _ D.TOz).trans TO'
    · exact h1'.at fun o q => (sb.2 _ D.i1z).trans q
    · exact h2'.at fun o q => (sb.2 _ D.i2z).trans q
    · have hlt : c < s.heap.objs.size := by
        have e' : c = z ∨ c = TI ∨ c = TO ∨ c = i1 ∨ c = i2 := by simpa using hcm
        rcases e' with q | q | q | q | q
        · rw [q]; exact hzl
        · rw [q]; exact Heap.lt_size hTI
        · rw [q]; exact Heap.lt_size hTO
        · rw [q]; obtain ⟨_, e1, _⟩ := h1; exact Heap.lt_size e1
        · rw [q]; obtain ⟨_, e2, _⟩ := h2; exact Heap.lt_size e2
      rw [upd_ne (Nat.ne_of_lt hlt)]
      exact (hf c hcm).1
  done := by
    intro X hP hw hK hc i pins s σ H E I hf st hg
    subst hP hw hK
    obtain ⟨hz, hTI, ⟨x0, y0, hTO⟩, h1, h2⟩ := st
    obtain ⟨xs, ys, hqx, hqy, hend⟩ := hg
    obtain ⟨its, rv, p, _⟩ := I.list hqx
    obtain ⟨its2, rv2, p2, _⟩ := I.list hqy
    have l1 := rv.length
    have l2 := rv2.length
    have he : its.toArray[i]? = none ∨ its2.toArray[i]? = none := by
      rcases hend with q | q
      · exact .inl (by simp; omega)
      · exact .inr (by simp; omega)
    exact wpAny_pyNext_zip_end (I.ok.hd hc) D hz hTI hTO h1 h2 p.isList p2.isList he fun h' hk => ⟨rfl, I.turnedL (t' := s.toks) (ch := [z, TI, TO, i1, i2]) (fun c o hb q =>
      hk c o (fun q' => hb (by simp [q'])) (fun q' => hb (by simp [q'])) (fun q' => hb (by simp [q'])) (fun q' => hb (by simp [q'])) q) hf⟩
  self := fun A i s Q E st h => wpAny_pyIter_zip st.1 h
def iZip (K : PySem.W.Frag) (ta : TA) : TI := fun σ H R => ta σ H fun vs H1 => ∃ a b xs ys, vs = [.ref a, .ref b] ∧ SqL K H1 a xs ∧ SqL K H1 b ys ∧ R (Itz K a b) H1
theorem pi_zip {X : Cx} {e e2 : Expr} {ta : TA} {p pos tpos : Pos} {elts : List Expr} {kk : Nat} (hg : Gl X "zip") (hm : X.mg "zip" = none) (ha : PA X [e, e2] ta)
    (hs : starEach [e, e2] X.env = (false, eval e X.env) :: starEach [e2] X.env := by rfl) (hpl : (backTo pos (starEach [e2] X.env)).any (·.1) = false := by rfl) :
    PI X (.Tuple elts kk tpos) (.Call (.Name "zip" p) [e, e2] [] pos) (iZip X.K ta) := by
  intro pins s σ H R I h
  refine Call_ (ld_blt I hg hm boot_zip5 (PyProof.Rows.callWith_type1 (thn (ha pos pins s σ H _ I h) fun us s1 ⟨vs, H1, I1, r1, q1⟩ => ?_) hs hpl))
  obtain ⟨a, b, xs, ys, ex, hqx, hqy, q⟩ := q1
  subst ex
  cases r1 with
  | cons r rr =>
    cases rr with
    | cons r' rr =>
      cases rr
      cases r
      cases r'
      obtain ⟨its, rv, p1, _⟩ := I1.list hqx
      obtain ⟨its2, rv2, p2, _⟩ := I1.list hqy
      have la : a < s1.heap.objs.size := p1.lt
      have lb : b < s1.heap.objs.size := p2.lt
      refine call_zip_2 p1.isList p2.isList fun h' hz hTI hTO h1 h2 hsz hk => wpAny_pyIter_zip hz ?_
      have I2 : Inv X pins σ H1 { s1 with heap := h' } := I1.kept (t' := s1.toks) hk
      refine ⟨s1.heap.objs.size + 4, [s1.heap.objs.size + 4, s1.heap.objs.size + 2, s1.heap.objs.size + 3, s1.heap.objs.size, s1.heap.objs.size + 1], _, _, H1, rfl, I2, turn_zip (PySem.W.ktu_apart s1.heap.objs.size a b la lb), ⟨hz, hTI, ⟨_, _, hTO⟩, h1, h2⟩, fun c hcm => ?_, q⟩
      have e' : c = s1.heap.objs.size + 4 ∨ c = s1.heap.objs.size + 2 ∨ c = s1.heap.objs.size + 3 ∨ c = s1.heap.objs.size ∨ c = s1.heap.objs.size + 1 := by simpa using hcm
      have hle : s1.heap.objs.size ≤ c := by
        rcases e' with z | z | z | z | z
        · rw [z]; exact Nat.le_add_right _ _
        · rw [z]; exact Nat.le_add_right _ _
        · rw [z]; exact Nat.le_add_right _ _
        · rw [z]; exact Nat.le_refl _
        · rw [z]; exact Nat.le_add_right _ _
      exact I1.fpOk hle (I1.hok.fresh hle)
end L2
section 
namespace Bits
open PySem PyProof.Rows
end Bits
end 
section 
namespace TL
open PySem PySem.Builtin PySem.Builtin.Str PySem.StrLaws
abbrev tl (x : Str) : List Nat := x.cps.toList
/-- S stands at the head of l -/
def pre (S l : List Nat) : Bool := l.take S.length == S
/-- what stands before the first S, and behind it -/
def par (S : List Nat) : List Nat → List Nat → Option (List Nat × List Nat)
  | _, [] => none
  | acc, c :: r => if pre S (c :: r) = true then some (acc, (c :: r).drop S.length) else par S (acc ++ [c]) r

end TL
end 
namespace L2
open PySem PySem.Spec PyProof.Rows
section
variable {X : Cx} {pins : List (Addr × Obj)} {σ : St} {H : Hp} {s : Shared} {Q : VK}
end
section
variable {X : Cx}
end
section
variable {X : Cx} {o e : Expr} {to te : TE}
end
end L2
namespace L2
open PySem PySem.Spec PyProof.Rows
section
variable {X : Cx}
end
theorem IsPart.raw {v : Value} {o : Option Int} (p : IsPart v o) : ∃ l : Option (Int × Tok), v = partValue l ∧ l.map (·.1) = o := by
  cases p with
  | none => exact ⟨none, rfl, rfl⟩
  | int i t => exact ⟨some (i, t), rfl, rfl⟩

end L2
namespace Att
open PySem PySem.W PySem.Calls PyProof.Rows
section
variable {prog : Program} {w : World} {A : Around} {E : Value → Shared → Prop} {s : Shared} {K : Frag}
end
end Att
namespace L2
open PySem PySem.Spec PyProof.Rows
end L2
namespace L2
open PySem PySem.Spec PyProof.Rows
end L2
namespace L2
open PySem PySem.Spec PyProof.Rows
/-- the j-th statement of a class's body -/
def inClass (s : Stmt) (j : Nat) : Stmt := match s with
  | .ClassDef _ _ _ body _ _ _ _ _ _ _ => body.getD j (.Pass ⟨0, 0, 0, 0⟩)
  | _ => .Pass ⟨0, 0, 0, 0⟩
def defArgs (s : Stmt) : Arguments := match s with
  | .FunctionDef _ a _ _ _ _ _ _ _ _ => a
  | _ => { posonlyargs := [], args := [], vararg := none, kwonlyargs := [], kw_defaults := [], kwarg := none, defaults := [] }
def defBody (s : Stmt) : List Stmt := match s with
  | .FunctionDef _ _ b _ _ _ _ _ _ _ => b
  | _ => []
def defScope (s : Stmt) : Scope := match s with
  | .FunctionDef _ _ _ _ _ _ sc _ _ _ => sc
  | _ => { kind := .function, names := [], isGenerator := false, isCoroutine := false }

abbrev CX0 : CXT := fun _ _ _ _ _ _ => False
abbrev E0 : XK := fun _ _ _ => False
theorem pass0 {X : Cx} : Passes CX0 X E0 := fun _ _ _ _ _ _ _ h => h.elim

structure Fun (K : PySem.W.Frag) (x qual : Str) (st : Stmt) (f : Addr) (fd : FuncData) : Prop where
  ex : ∃ (oc : Value) (od : Option Addr) (kV doc pm : Value) (an : Option Addr) (cdv ct : Value) (osl : Array (Option Value)),
    fd = PySem.W.fnOf x qual (defArgs st) (defBody st) (defScope st) .none kV doc pm an cdv ct ∧ K.lookup f = some ⟨oc, od, .func fd, osl⟩ ∧ PySem.W.codeIn K cdv qual = true
  kp : PySem.W.keepIn K (.ref f) = true
section
variable {P : Program} {w : World} {K : PySem.W.Frag} {mg : Str → Option Value} {base : Heap}
/-- THE RULE for a def: its body as a term of rules, and the reading of that term -/
theorem Fun.ok {x qual : Str} {st : Stmt} {f : Addr} {fd : FuncData} {N ps : List Str} {k : Nat} {sp : Sp} (F : Fun K x qual st f fd) (S : FnScope N ps (defScope st)) (len : ∀ vs H Q E, sp vs H Q E → vs.length = ps.length)
    (hbody : ∀ (cdv : Value) (A : Around) (outer : List Env) (s : Shared) (H : Hp) (vs : List V) (Q : VK) (E : XK), Room k (A.deeper (envOfC qual (defScope st) s.heap.objs.size f cdv)) → sp vs H Q E →
      ∃ t, PSs (cxOf CX0 P w K mg base N qual (defScope st) f cdv A outer s H E).nox (defBody st) t ∧ t { nx := fun _ H' => Q .non H', rt := Q } (start N vs) H) : FnOk P w K mg base CX0 (k + 1) f fd ps sp := by
  obtain ⟨oc, od, kV, doc, pm, an, cdv, ct, osl, rfl, lk, hcd⟩ := F.ex
  refine fn_of lk hcd S len fun A outer s H vs Q E hr hsp => ?_
  obtain ⟨t, h, q⟩ := hbody cdv A outer s H vs Q E hr hsp
  exact ⟨t, h.nox, q⟩
/-- how its arguments bind (no defaults): h is «fun _ _ _ _ _ _ us hl => match us, hl with | [_, _], _ => rfl», one _ a parameter -/
theorem Fun.binds {x qual : Str} {st : Stmt} {f : Addr} {fd : FuncData} {ps : List Str} (F : Fun K x qual st f fd)
    (h : ∀ (kV doc pm : Value) (an : Option Addr) (cdv ct : Value) (us : List Value), us.length = ps.length → bindArgs (PySem.W.fnOf x qual (defArgs st) (defBody st) (defScope st) .none kV doc pm an cdv ct) ⟨us, []⟩ = pure (ps.zip us)) : Binds K fd ps [] := by
  obtain ⟨oc, od, kV, doc, pm, an, cdv, ct, osl, rfl, lk, hcd⟩ := F.ex
  exact .all (h kV doc pm an cdv ct)
theorem fun_mk {x qual : Str} {st : Stmt} {f : Addr} {oc : Value} {od an : Option Addr} {osl : Array (Option Value)} {kV doc pm cdv ct : Value} (l : K.lookup f = some ⟨oc, od, .func (PySem.W.fnOf x qual (defArgs st) (defBody st) (defScope st) .none kV doc pm an cdv ct), osl⟩)
    (c : PySem.W.codeIn K cdv qual = true) (k : PySem.W.keepIn K (.ref f) = true) : Fun K x qual st f (PySem.W.fnOf x qual (defArgs st) (defBody st) (defScope st) .none kV doc pm an cdv ct) := ⟨⟨oc, od, kV, doc, pm, an, cdv, ct, osl, rfl, l, c⟩, k⟩
end
theorem small1000 {n : Nat} (h : n ≤ 1000) : n < sizeLine := Nat.lt_of_le_of_lt h (by decide)

section
variable {X : Cx}
theorem pv (i : Nat) {x : Str} {pos : Pos} (hN : X.N[i]? = some x := by rfl) (hv : Vis X.env.scope x := by first | exact Or.inl rfl | exact Or.inr (Or.inl rfl) | exact Or.inr (Or.inr rfl)) (hd : (x == ("__debug__" : Str)) = false := by decide)
    (hcd : (x == ("__classdict__" : Str)) = false := by decide) : PE X (.Name x pos) (tVar i) := pe_var hN hv hd hcd
end
/-- all that was tracked is as it was -/
def Same (H H' : Hp) : Prop := ∀ b o, H b = some o → H' b = some o
theorem Same.refl (H : Hp) : Same H H := fun _ _ h => h
theorem Same.trans {H H1 H2 : Hp} (a : Same H H1) (b : Same H1 H2) : Same H H2 := fun c o h => b c o (a c o h)
theorem Same.free {H H' : Hp} (e : Same H H') {l : Addr} (h : H' l = Option.none) : H l = Option.none := by
  cases q : H l with
  | none => rfl
  | some o =>
    rw [e l o q] at h
    cases h
theorem Same.seq {K : PySem.W.Frag} {H H' : Hp} {a : Addr} {xs : List V} (e : Same H H') (h : SqL K H a xs) : SqL K H' a xs := by
  rcases h with (h | ⟨o, h⟩) | h
  · exact .inl (.inl (e _ _ h))
  · exact .inl (.inr ⟨o, e _ _ h⟩)
  · exact .inr h

section
variable {κ : Type} [DecidableEq κ]
end
/-- a new instance and its __init__ leave all that was tracked as it was -/
theorem Same.made {H H1 : Hp} {x dx C : Addr} (nx : H x = Option.none) (nd : H dx = Option.none) (k : ∀ b o, (upd (upd H dx (.own x)) x (.ins C dx [])) b = some o → b ≠ x → H1 b = some o) : Same H H1 := fun b o e =>
  k b o (by rw [upd_ne (ne_of_none e nx), upd_ne (ne_of_none e nd)]; exact e) (ne_of_none e nx)
end L2
set_option Elab.async false
set_option linter.all false
set_option maxRecDepth 100000
section
set_option Elab.async false
set_option linter.all false
set_option maxRecDepth 100000
set_option maxHeartbeats 2000000
namespace L2
open PySem PySem.Spec PyProof.Rows
open PySem.W (WData Codec OpenSpec Well WellAll ReadsW ReadsAllW)
mutual
/-- x stands for the datum d, lists and tuples all the way -/
inductive Dw (K : PySem.W.Frag) (H : Hp) : V → WData → Prop
  | non : Dw K H .non .none
  | bl (b : Bool) : Dw K H (.bl b) (.bool b)
  | int (i : Int) : Dw K H (.int i) (.int i)
  | str (x : Str) : Dw K H (.str x) (.str x)
  | byt (b : Array UInt8) : Dw K H (.byt b) (.bytes b.toList)
  | lst {a : Addr} {xs : List V} {ds : List WData} : SqL K H a xs → DwAll K H xs ds → Dw K H (.ref a) (.list ds)
  | tup {a : Addr} {xs : List V} {ds : List WData} : SqT K H a xs → DwAll K H xs ds → Dw K H (.ref a) (.tuple ds)
inductive DwAll (K : PySem.W.Frag) (H : Hp) : List V → List WData → Prop
  | nil : DwAll K H [] []
  | cons {v : V} {vs : List V} {d : WData} {ds : List WData} : Dw K H v d → DwAll K H vs ds → DwAll K H (v :: vs) (d :: ds)
end
theorem dw_ints {K : PySem.W.Frag} {H : Hp} : ∀ ns : List Int, DwAll K H (ns.map V.int) (ns.map WData.int)
  | [] => .nil
  | n :: r => .cons (.int n) (dw_ints r)
theorem ints_dw {K : PySem.W.Frag} {H : Hp} : ∀ (ns : List Int) (xs : List V), DwAll K H xs (ns.map WData.int) → xs = ns.map V.int
  | [], xs, h => by
    cases h
    rfl
  | n :: r, xs, h => by
    cases h with
    | cons h1 h2 =>
      cases h1
      rw [ints_dw r _ h2] <;> rfl
section
variable {P : Program} {w : World} {K : PySem.W.Frag} {H : Hp} {h : Heap} {R : PySem.W.WRecords} {cl : Str → Option Addr}
theorem sqL_at {a : Addr} {xs : List V} (hok : HOk P w H h) (KX : K.In h) (q : SqL K H a xs) : ∃ (its : List Value) (o : Obj) (n : Nat), Vals xs its ∧ h.get? a = some o ∧ o.cls = .type "list" ∧ o.data = .seq its.toArray n := by
  rcases q with q | ⟨o, its, n, e, hc, _, hd, _, hv⟩
  · obtain ⟨_, its, n, hv, e⟩ := (show ObjOk P w H h a (.lst xs) from q.ok hok)
    exact ⟨its, _, n, hv, e, rfl, rfl⟩
  · exact ⟨its.toList, o, n, hv, KX _ _ e, hc, by simp [hd]⟩
theorem sqT_at {a : Addr} {xs : List V} (hok : HOk P w H h) (KX : K.In h) (q : SqT K H a xs) : ∃ (its : List Value) (o : Obj) (n : Nat), Vals xs its ∧ h.get? a = some o ∧ o.cls = .type "tuple" ∧ o.data = .seq its.toArray n := by
  rcases q with q | ⟨o, its, n, e, hc, hd, _, hv⟩
  · obtain ⟨_, its, hv, o, e, hc, n, hd⟩ := (show ObjOk P w H h a (.tup xs) from q.ok hok)
    exact ⟨its, o, n, hv, e, hc, hd⟩
  · exact ⟨its.toList, o, n, hv, KX _ _ e, hc, by simp [hd]⟩
mutual
theorem Dw.reads (hok : HOk P w H h) (KX : K.In h) : ∀ (d : WData) (v : V) (u : Value), Dw K H v d → RelV v u → ∃ as, ReadsW R cl h u d as
  | .none, _, _, x, r => by
    cases x
    cases r
    exact ⟨_, ReadsW.none⟩
  | .bool b, _, _, x, r => by
    cases x
    cases r
    exact ⟨_, ReadsW.bool b⟩
  | .int i, _, _, x, r => by
    cases x
    obtain ⟨t, rfl⟩ := r
    exact ⟨_, ReadsW.int i t⟩
  | .str s, _, _, x, r => by
    cases x
    obtain ⟨t, rfl⟩ := r
    exact ⟨_, ReadsW.str s t⟩
  | .bytes b, _, _, x, r => by
    cases x
    obtain ⟨t, rfl⟩ := r
    exact ⟨_, ReadsW.bytes _ t⟩
  | .list ds, _, _, x, r => by
    cases x with
    | lst hs ha =>
      cases r
      obtain ⟨its, o, n, rv, ho, hc, hd⟩ := sqL_at hok KX hs
      obtain ⟨as, hr⟩ := Dw.readsAll hok KX ds _ its ha rv
      exact ⟨_, ReadsW.list ho hc hd hr⟩
  | .tuple ds, _, _, x, r => by
    cases x with
    | tup hs ha =>
      cases r
      obtain ⟨its, o, n, rv, ho, hc, hd⟩ := sqT_at hok KX hs
      obtain ⟨as, hr⟩ := Dw.readsAll hok KX ds _ its ha rv
      exact ⟨_, ReadsW.tuple ho hc hd hr⟩
  | .float _, _, _, x, _ => by cases x
  | .dict _, _, _, x, _ => by cases x
  | .bytearray _, _, _, x, _ => by cases x
  | .set _, _, _, x, _ => by cases x
  | .frozenset _, _, _, x, _ => by cases x
  | .obj _ _, _, _, x, _ => by cases x
theorem Dw.readsAll (hok : HOk P w H h) (KX : K.In h) : ∀ (ds : List WData) (vs : List V) (us : List Value), DwAll K H vs ds → Vals vs us → ∃ as, ReadsAllW R cl h us ds as
  | [], _, _, x, r => by
    cases x
    cases r
    exact ⟨_, ReadsAllW.nil⟩
  | d :: ds, _, _, x, r => by
    cases x with
    | cons h1 h2 =>
      cases r with
      | cons r1 r2 =>
        obtain ⟨as, q1⟩ := Dw.reads hok KX d _ _ h1 r1
        obtain ⟨bs, q2⟩ := Dw.readsAll hok KX ds _ _ h2 r2
        exact ⟨_, ReadsAllW.cons q1 q2⟩
end
end
mutual
/-- data that a codec tells -/
def plW : WData → Bool
  | .none => true
  | .bool _ => true
  | .int _ => true
  | .str _ => true
  | .bytes _ => true
  | .list xs => plWs xs
  | .tuple xs => plWs xs
  | _ => false
def plWs : List WData → Bool
  | [] => true
  | x :: r => plW x && plWs r
end
theorem plWs_map {α : Type} {f : α → WData} (h : ∀ a, plW (f a) = true) : ∀ l : List α, plWs (l.map f) = true
  | [] => rfl
  | x :: r => by
    show (plW (f x) && plWs (r.map f)) = true
    rw [h x, plWs_map h r] <;> rfl
theorem pl_enc : ∀ (c : Codec) (a : c.denote), plW (c.enc a) = true
  | .unit, _ => rfl
  | .bool, _ => rfl
  | .int _ _, _ => rfl
  | .nat _ _, _ => rfl
  | .u8, _ => rfl
  | .bytes _ _, _ => rfl
  | .text _ _ _ _, _ => rfl
  | .list _ _ c, a => plWs_map (fun x => pl_enc c x) a
  | .pair c d, a => by
    show (plW (c.enc a.1) && (plW (d.enc a.2) && true)) = true
    rw [pl_enc c a.1, pl_enc d a.2] <;> rfl
  | .triple c d e, a => by
    show (plW (c.enc a.1) && (plW (d.enc a.2.1) && (plW (e.enc a.2.2) && true))) = true
    rw [pl_enc c a.1, pl_enc d a.2.1, pl_enc e a.2.2] <;> rfl
  | .option c, none => rfl
  | .option c, some x => pl_enc c x
theorem pl_encAll : ∀ (cs : List Codec) (a : Codec.denoteAll cs), plWs (Codec.encAll cs a) = true
  | [], _ => rfl
  | c :: cs, a => by
    show (plW (c.enc a.1) && plWs (Codec.encAll cs a.2)) = true
    rw [pl_enc c a.1, pl_encAll cs a.2] <;> rfl
theorem weight_mem : ∀ {xs : List WData} {d : WData}, d ∈ xs → d.weight ≤ WData.weightAll xs
  | [], d, h => absurd h (by simp)
  | x :: r, d, h => by
    show d.weight ≤ x.weight + 1 + WData.weightAll r
    rcases List.mem_cons.mp h with e | m
    · rw [e]
      omega
    · have z := weight_mem m
      omega
def toV : Value → V
  | .none => .non
  | .bool b => .bl b
  | .int i _ => .int i
  | .str x _ => .str x
  | .bytes b _ => .byt b
  | .ref a => .ref a
  | _ => .non
/-- a value of the arguments, its objects among A -/
def OkU (A : List Addr) : Value → Prop
  | .none => True
  | .bool _ => True
  | .int _ _ => True
  | .str _ _ => True
  | .bytes _ _ => True
  | .ref a => a ∈ A
  | _ => False
theorem OkU.mono {A B : List Addr} (h : ∀ a ∈ A, a ∈ B) : ∀ {u : Value}, OkU A u → OkU B u := fun {u} x => by
  cases u with
  | ref a => exact h a x
  | none => trivial
  | bool b => trivial
  | int i t => trivial
  | str s t => trivial
  | bytes b t => trivial
  | _ => exact False.elim x
theorem relV_toV {A : List Addr} {u : Value} (x : OkU A u) : RelV (toV u) u := by
  cases u with
  | ref a => rfl
  | none => rfl
  | bool b => rfl
  | int i t => exact ⟨t, rfl⟩
  | str s t => exact ⟨t, rfl⟩
  | bytes b t => exact ⟨t, rfl⟩
  | _ => exact False.elim x
theorem vals_toV {A : List Addr} : ∀ {vs : List Value}, (∀ u ∈ vs, OkU A u) → Vals (vs.map toV) vs
  | [], _ => .nil
  | u :: r, h => .cons (relV_toV (h u (List.mem_cons_self ..))) (vals_toV fun x hx => h x (List.mem_cons_of_mem _ hx))
/-- an object of the arguments -/
def ArgOb (h : Heap) (A : List Addr) (a : Addr) : Prop := ∃ vs : List Value, vs.length ≤ sizeLine ∧ (∀ u ∈ vs, OkU A u) ∧
  (h.get? a = some { cls := .type "list", data := .seq vs.toArray } ∨ h.get? a = some { cls := .type "tuple", data := .seq vs.toArray })
theorem ArgOb.mono {h : Heap} {A B : List Addr} {a : Addr} (k : ∀ a ∈ A, a ∈ B) (x : ArgOb h A a) : ArgOb h B a := by
  obtain ⟨vs, h1, h2, h3⟩ := x
  exact ⟨vs, h1, fun u hu => (h2 u hu).mono k, h3⟩
theorem wellAll_len {P : Params} {h : Heap} : ∀ {vs : List Value} {ds : List WData}, WellAll P h vs ds → vs.length = ds.length
  | _, _, .nil => rfl
  | _, _, .cons _ b => by
    show _ + 1 = _ + 1
    rw [wellAll_len b]
theorem well_list {P : Params} {h : Heap} {v : Value} {ds : List WData} (x : Well P h v (.list ds)) : ∃ (a : Addr) (vs : List Value), v = .ref a ∧ h.get? a = some { cls := .type "list", data := .seq vs.toArray } ∧ WellAll P h vs ds := by
  cases x with
  | list ho hall => exact ⟨_, _, rfl, ho, hall⟩
theorem well_tuple {P : Params} {h : Heap} {v : Value} {ds : List WData} (x : Well P h v (.tuple ds)) : ∃ (a : Addr) (vs : List Value), v = .ref a ∧ h.get? a = some { cls := .type "tuple", data := .seq vs.toArray } ∧ WellAll P h vs ds := by
  cases x with
  | tuple ho hall => exact ⟨_, _, rfl, ho, hall⟩
theorem well_cons {P : Params} {h : Heap} {us : List Value} {d : WData} {ds : List WData} (x : WellAll P h us (d :: ds)) : ∃ (v : Value) (vs : List Value), us = v :: vs ∧ Well P h v d ∧ WellAll P h vs ds := by
  cases x with
  | cons a b => exact ⟨_, _, rfl, a, b⟩
theorem line_of {n : Nat} (h : n ≤ 1048576) : n ≤ sizeLine := Nat.le_trans h (by decide)
section
variable {P : Params} {h : Heap}
mutual
theorem area_one : ∀ (d : WData) (v : Value), Well P h v d → plW d = true → d.weight ≤ 1048576 → ∃ A : List Addr, OkU A v ∧ ∀ a ∈ A, ArgOb h A a
  | .none, _, x, _, _ => by
    cases x
    exact ⟨[], trivial, fun a m => absurd m (by simp)⟩
  | .bool b, _, x, _, _ => by
    cases x
    exact ⟨[], trivial, fun a m => absurd m (by simp)⟩
  | .int i, _, x, _, _ => by
    cases x
    exact ⟨[], trivial, fun a m => absurd m (by simp)⟩
  | .str s, _, x, _, _ => by
    cases x
    exact ⟨[], trivial, fun a m => absurd m (by simp)⟩
  | .bytes b, _, x, _, _ => by
    cases x
    exact ⟨[], trivial, fun a m => absurd m (by simp)⟩
  | .list ds, _, x, p, z => by
    obtain ⟨a, vs, rfl, ho, hall⟩ := well_list x
    have z2 : WData.weightAll ds ≤ 1048576 := z
    obtain ⟨A, h1, h2⟩ := area_all ds _ hall p fun d hd => Nat.le_trans (weight_mem hd) z2
    have k : ∀ b ∈ A, b ∈ a :: A := fun b hb => List.mem_cons_of_mem _ hb
    refine ⟨a :: A, List.mem_cons_self .., fun b hb => ?_⟩
    rcases List.mem_cons.mp hb with e | m
    · rw [e]
      exact ⟨vs, line_of (by rw [wellAll_len hall]; exact Nat.le_trans (PySem.W.length_le_weightAllW ds) z2), fun u hu => (h1 u hu).mono k, .inl ho⟩
    · exact (h2 b m).mono k
  | .tuple ds, _, x, p, z => by
    obtain ⟨a, vs, rfl, ho, hall⟩ := well_tuple x
    have z2 : WData.weightAll ds ≤ 1048576 := z
    obtain ⟨A, h1, h2⟩ := area_all ds _ hall p fun d hd => Nat.le_trans (weight_mem hd) z2
    have k : ∀ b ∈ A, b ∈ a :: A := fun b hb => List.mem_cons_of_mem _ hb
    refine ⟨a :: A, List.mem_cons_self .., fun b hb => ?_⟩
    rcases List.mem_cons.mp hb with e | m
    · rw [e]
      exact ⟨vs, line_of (by rw [wellAll_len hall]; exact Nat.le_trans (PySem.W.length_le_weightAllW ds) z2), fun u hu => (h1 u hu).mono k, .inr ho⟩
    · exact (h2 b m).mono k
  | .float _, _, _, p, _ => Bool.noConfusion (show false = true from p)
  | .dict _, _, _, p, _ => Bool.noConfusion (show false = true from p)
  | .bytearray _, _, _, p, _ => Bool.noConfusion (show false = true from p)
  | .set _, _, _, p, _ => Bool.noConfusion (show false = true from p)
  | .frozenset _, _, _, p, _ => Bool.noConfusion (show false = true from p)
  | .obj _ _, _, _, p, _ => Bool.noConfusion (show false = true from p)
theorem area_all : ∀ (ds : List WData) (vs : List Value), WellAll P h vs ds → plWs ds = true → (∀ d ∈ ds, d.weight ≤ 1048576) → ∃ A : List Addr, (∀ u ∈ vs, OkU A u) ∧ ∀ a ∈ A, ArgOb h A a
  | [], _, x, _, _ => by
    cases x
    exact ⟨[], fun u m => absurd m (by simp), fun a m => absurd m (by simp)⟩
  | d :: ds, _, x, p, z => by
    obtain ⟨v, vs, rfl, x1, x2⟩ := well_cons x
    have q : plW d = true ∧ plWs ds = true := Bool.and_eq_true_iff.mp p
    obtain ⟨A, a1, a2⟩ := area_one d v x1 q.1 (z d (List.mem_cons_self ..))
    obtain ⟨B, b1, b2⟩ := area_all ds vs x2 q.2 fun e he => z e (List.mem_cons_of_mem _ he)
    have kA : ∀ b ∈ A, b ∈ A ++ B := fun b hb => List.mem_append.mpr (.inl hb)
    have kB : ∀ b ∈ B, b ∈ A ++ B := fun b hb => List.mem_append.mpr (.inr hb)
    refine ⟨A ++ B, fun u hu => ?_, fun b hb => ?_⟩
    · rcases List.mem_cons.mp hu with e | m
      · rw [e]
        exact a1.mono kA
      · exact (b1 u m).mono kB
    · rcases List.mem_append.mp hb with m | m
      · exact (a2 b m).mono kA
      · exact (b2 b m).mono kB
end
end
/-- what is tracked of an argument's object -/
def hoOf (o : Obj) : Option HO := match o.data with
  | .seq vs _ => if (o.cls == Value.type "list") = true then some (.frz o (.lst (vs.toList.map toV))) else some (.frz o (.tup (vs.toList.map toV)))
  | _ => none
def argH (K : PySem.W.Frag) (h : Heap) (A : List Addr) : Hp := fun b => if b ∈ A then (if (K.lookup b).isNone = true then (h.get? b).bind hoOf else none) else none
/-- nothing is tracked but what is known to the object -/
def OnlyF (H : Hp) : Prop := ∀ b, H b = none ∨ ∃ o u, H b = some (.frz o u)
theorem hoOf_lst (vs : List Value) : hoOf { cls := .type "list", data := .seq vs.toArray } = some (.frz { cls := .type "list", data := .seq vs.toArray } (.lst (vs.map toV))) := by
  show (if (Value.type "list" == Value.type "list") = true then some (HO.frz { cls := .type "list", data := .seq vs.toArray } (.lst (vs.toArray.toList.map toV))) else some (HO.frz { cls := .type "list", data := .seq vs.toArray } (.tup (vs.toArray.toList.map toV)))) = _
  rw [if_pos (beq_self_eq_true _)]
theorem hoOf_tup (vs : List Value) : hoOf { cls := .type "tuple", data := .seq vs.toArray } = some (.frz { cls := .type "tuple", data := .seq vs.toArray } (.tup (vs.map toV))) := by
  show (if (Value.type "tuple" == Value.type "list") = true then some (HO.frz { cls := .type "tuple", data := .seq vs.toArray } (.lst (vs.toArray.toList.map toV))) else some (HO.frz { cls := .type "tuple", data := .seq vs.toArray } (.tup (vs.toArray.toList.map toV)))) = _
  rw [if_neg (by decide)]
section
variable {P : Program} {w : World} {K : PySem.W.Frag} {h : Heap} {A : List Addr}
theorem argH_at {b : Addr} {o : Obj} (hb : b ∈ A) (hk : K.lookup b = none) (e : h.get? b = some o) : argH K h A b = hoOf o := by
  unfold argH
  rw [if_pos hb, hk, if_pos (show (none : Option Obj).isNone = true from rfl), e] <;> rfl
theorem of_argH {b : Addr} {u : HO} (q : argH K h A b = some u) : b ∈ A ∧ K.lookup b = none := by
  unfold argH at q
  by_cases hb : b ∈ A
  · rw [if_pos hb] at q
    cases hk : K.lookup b with
    | none => exact ⟨hb, rfl⟩
    | some o =>
      rw [hk, if_neg (by simp)] at q
      cases q
  · rw [if_neg hb] at q
    cases q
/-- what stands tracked -/
theorem argH_is (ar : ∀ a ∈ A, ArgOb h A a) {b : Addr} {u : HO} (q : argH K h A b = some u) : K.lookup b = none ∧ ∃ vs : List Value, vs.length ≤ sizeLine ∧ (∀ u ∈ vs, OkU A u) ∧
    ((h.get? b = some { cls := .type "list", data := .seq vs.toArray } ∧ u = .frz { cls := .type "list", data := .seq vs.toArray } (.lst (vs.map toV))) ∨
     (h.get? b = some { cls := .type "tuple", data := .seq vs.toArray } ∧ u = .frz { cls := .type "tuple", data := .seq vs.toArray } (.tup (vs.map toV)))) := by
  obtain ⟨hb, hk⟩ := of_argH q
  obtain ⟨vs, h1, h2, h3⟩ := ar b hb
  refine ⟨hk, vs, h1, h2, ?_⟩
  rcases h3 with e | e
  · rw [argH_at hb hk e, hoOf_lst] at q
    exact .inl ⟨e, (Option.some.inj q).symm⟩
  · rw [argH_at hb hk e, hoOf_tup] at q
    exact .inr ⟨e, (Option.some.inj q).symm⟩
theorem argH_only (ar : ∀ a ∈ A, ArgOb h A a) : OnlyF (argH K h A) := fun b => by
  cases q : argH K h A b with
  | none => exact .inl rfl
  | some u =>
    obtain ⟨_, vs, _, _, ⟨_, e⟩ | ⟨_, e⟩⟩ := argH_is ar q
    · exact .inr ⟨_, _, by rw [e]⟩
    · exact .inr ⟨_, _, by rw [e]⟩
theorem argH_ok (ar : ∀ a ∈ A, ArgOb h A a) : HOk P w (argH K h A) h := fun b u q => by
  obtain ⟨_, vs, h1, h2, ⟨e, rfl⟩ | ⟨e, rfl⟩⟩ := argH_is ar q
  · exact ⟨e, by rw [List.length_map]; exact h1, vs, _, vals_toV h2, e⟩
  · exact ⟨e, by rw [List.length_map]; exact h1, vs, vals_toV h2, _, e, rfl, _, rfl⟩
theorem seq_inj {c c' : Value} {vs us : List Value} (e : (some { cls := c, data := .seq vs.toArray } : Option Obj) = some { cls := c', data := .seq us.toArray }) : c = c' ∧ vs = us := by
  have e1 := Option.some.inj e
  have e2 : c = c' := congrArg Obj.cls e1
  have e3 : Data.seq vs.toArray = Data.seq us.toArray := congrArg Obj.data e1
  injection e3 with e4
  refine ⟨e2, ?_⟩
  have e5 := congrArg Array.toList e4
  simpa using e5
/-- a list argument -/
theorem argL (KX : K.In h) (ar : ∀ a ∈ A, ArgOb h A a) {a : Addr} {vs : List Value} (ha : a ∈ A) (e : h.get? a = some { cls := .type "list", data := .seq vs.toArray }) : (∀ u ∈ vs, OkU A u) ∧ SqL K (argH K h A) a (vs.map toV) := by
  obtain ⟨us, h1, h2, h3⟩ := ar a ha
  have hu : us = vs := by
    rcases h3 with q | q
    · rw [e] at q
      exact (seq_inj q).2.symm
    · rw [e] at q
      exact absurd (Value.type.inj (seq_inj q).1) (by decide)
  subst hu
  refine ⟨h2, ?_⟩
  cases hk : K.lookup a with
  | none => exact .inl (.inr ⟨_, by rw [argH_at ha hk e, hoOf_lst]⟩)
  | some o =>
    have e2 := KX a o hk
    rw [e] at e2
    obtain rfl := Option.some.inj e2
    exact .inr ⟨_, us.toArray, _, hk, rfl, rfl, rfl, by rw [List.size_toArray]; exact h1, by simpa using vals_toV h2⟩
theorem argT (KX : K.In h) (ar : ∀ a ∈ A, ArgOb h A a) {a : Addr} {vs : List Value} (ha : a ∈ A) (e : h.get? a = some { cls := .type "tuple", data := .seq vs.toArray }) : (∀ u ∈ vs, OkU A u) ∧ SqT K (argH K h A) a (vs.map toV) := by
  obtain ⟨us, h1, h2, h3⟩ := ar a ha
  have hu : us = vs := by
    rcases h3 with q | q
    · rw [e] at q
      exact absurd (Value.type.inj (seq_inj q).1) (by decide)
    · rw [e] at q
      exact (seq_inj q).2.symm
  subst hu
  refine ⟨h2, ?_⟩
  cases hk : K.lookup a with
  | none => exact .inl (.inr ⟨_, by rw [argH_at ha hk e, hoOf_tup]⟩)
  | some o =>
    have e2 := KX a o hk
    rw [e] at e2
    obtain rfl := Option.some.inj e2
    exact .inr ⟨_, us.toArray, _, hk, rfl, rfl, by rw [List.size_toArray]; exact h1, by simpa using vals_toV h2⟩
mutual
theorem dw_one {Pm : Params} (KX : K.In h) (ar : ∀ a ∈ A, ArgOb h A a) : ∀ (d : WData) (v : Value), Well Pm h v d → plW d = true → OkU A v → Dw K (argH K h A) (toV v) d
  | .none, _, x, _, _ => by
    cases x
    exact .non
  | .bool b, _, x, _, _ => by
    cases x
    exact .bl b
  | .int i, _, x, _, _ => by
    cases x
    exact .int i
  | .str s, _, x, _, _ => by
    cases x
    exact .str s
  | .bytes b, _, x, _, _ => by
    cases x
    have z := Dw.byt (K := K) (H := argH K h A) b.toArray
    exact z
  | .list ds, _, x, p, hu => by
    obtain ⟨a, vs, rfl, ho, hall⟩ := well_list x
    obtain ⟨h2, hs⟩ := argL KX ar hu ho
    exact .lst hs (dw_all KX ar ds _ hall p h2)
  | .tuple ds, _, x, p, hu => by
    obtain ⟨a, vs, rfl, ho, hall⟩ := well_tuple x
    obtain ⟨h2, hs⟩ := argT KX ar hu ho
    exact .tup hs (dw_all KX ar ds _ hall p h2)
  | .float _, _, _, p, _ => Bool.noConfusion (show false = true from p)
  | .dict _, _, _, p, _ => Bool.noConfusion (show false = true from p)
  | .bytearray _, _, _, p, _ => Bool.noConfusion (show false = true from p)
  | .set _, _, _, p, _ => Bool.noConfusion (show false = true from p)
  | .frozenset _, _, _, p, _ => Bool.noConfusion (show false = true from p)
  | .obj _ _, _, _, p, _ => Bool.noConfusion (show false = true from p)
theorem dw_all {Pm : Params} (KX : K.In h) (ar : ∀ a ∈ A, ArgOb h A a) : ∀ (ds : List WData) (vs : List Value), WellAll Pm h vs ds → plWs ds = true → (∀ u ∈ vs, OkU A u) → DwAll K (argH K h A) (vs.map toV) ds
  | [], _, x, _, _ => by
    cases x
    exact .nil
  | d :: ds, _, x, p, hu => by
    obtain ⟨v, vs, rfl, x1, x2⟩ := well_cons x
    have q : plW d = true ∧ plWs ds = true := Bool.and_eq_true_iff.mp p
    exact .cons (dw_one KX ar d v x1 q.1 (hu _ (List.mem_cons_self ..))) (dw_all KX ar ds vs x2 q.2 fun u m => hu u (List.mem_cons_of_mem _ m))
end
end
theorem spec_call {P : Program} {w : World} {K : PySem.W.Frag} {mg mb : Str → Option Value} {CX : CXT} {k : Nat} {fa : Addr} {fd : FuncData} {ps : List Str} {sp : Sp} {s₁ : Shared} {vals : List Value} {ds : List WData} {R : PySem.W.WRecords} {cl : Str → Option Addr} {d0 : WData}
    (KX : K.In s₁.heap) (hns : s₁.heap.Ns mainGlobals mg) (hb : s₁.heap.Ns builtinsNs mb) (hbb : ∀ x : Str, x ≠ "__name__" → mb x = bootBuiltins x) (hlim : s₁.heap.NoLimit) (hg : s₁.gens = #[])
    (hwl : WellAll w.params s₁.heap vals ds) (hpl : plWs ds = true) (hwt : ∀ d ∈ ds, d.weight ≤ 1048576) (hr : Room k callerA)
    (F : ∀ base : Heap, K.In base → base.Ns mainGlobals mg → FnOk P w K mg base CX k fa fd ps sp) (hbind : ∀ (s : Shared) (us : List Value), us.length = ps.length → BindsTo s fd ⟨us, []⟩ (ps.zip us)) (hlen : ds.length = ps.length)
    (hsp : ∀ (H : Hp) (xs : List V), OnlyF H → DwAll K H xs ds → sp xs H (fun v H' => Dw K H' v d0) fun _ _ _ => False)
    (hCX : ∀ H e s', CX [] H s₁ (fun _ _ _ => False) e s' → False) :
    codeAny (model P w) callerA (.call (.ref fa) ⟨vals, []⟩) (fun r s' => ∃ u as, r = .ok (.ret u) ∧ ReadsW R cl s'.heap u d0 as ∧ OldK s₁.heap s'.heap ∧ s'.os = s₁.os ∧ AllBare s'.gens) s₁ := by
  obtain ⟨A, ho, ar⟩ := area_all ds vals hwl hpl hwt
  have hO : OnlyF (argH K s₁.heap A) := argH_only ar
  have hok : HOk P w (argH K s₁.heap A) s₁.heap := argH_ok ar
  have hS := dw_all KX ar ds vals hwl hpl ho
  have hV := vals_toV ho
  have hK : ∀ b u, argH K s₁.heap A b = some u → K.lookup b = none := fun b u q => (argH_is ar q).1
  have noA : ∀ {b : Addr} {o : Obj} {es : Array DictEntry} {ep : Nat}, s₁.heap.get? b = some o → o.data = .dict es ep → argH K s₁.heap A b = none := fun {b o es ep} e d => by
    cases q : argH K s₁.heap A b with
    | none => rfl
    | some u =>
      obtain ⟨_, vs, _, _, ⟨e2, _⟩ | ⟨e2, _⟩⟩ := argH_is ar q
      · rw [e2] at e
        cases e
        have d' : Data.seq vs.toArray _ = Data.dict es ep := d
        cases d'
      · rw [e2] at e
        cases e
        have d' : Data.seq vs.toArray _ = Data.dict es ep := d
        cases d'
  generalize argH K s₁.heap A = H at hO hok hS hK noA
  have base_of : ∀ {b : Addr} {o : Obj}, s₁.heap.get? b = some o → H b = none → (hidT s₁.heap H).get? b = some o := fun e n => hidT_get e n
  have nsK : ∀ {b : Addr} {m : Str → Option Value}, s₁.heap.Ns b m → (hidT s₁.heap H).Ns b m := fun {b m} ⟨o, es, ep, e, d, r⟩ => ⟨o, es, ep, base_of e (noA e d), d, r⟩
  have nK : ∀ b o, K.lookup b = some o → H b = none := fun b o e => by
    cases q : H b with
    | none => rfl
    | some u =>
      rw [hK b u q] at e
      cases e
  have hKb : K.In (hidT s₁.heap H) := fun b o e => base_of (KX b o e) (nK b o e)
  have hM : Mod K mg (hidT s₁.heap H) := ⟨hKb, nsK hns, ⟨mb, nsK hb, hbb⟩, let ⟨mc, h1, h2⟩ := hlim; ⟨mc, nsK h1, h2⟩⟩
  have e0 : Env0 P w K mg (hidT s₁.heap H) callerA [] s₁ H := ⟨rfl, hM, fun b o e => of_hidT e, Nat.le_of_eq (hidT_size _ _), trivial, fun b hb => absurd (show b ∈ ([] : List Addr) from hb) (by simp), hok, .of_eq hg⟩
  have hl : vals.length = ps.length := by rw [wellAll_len hwl]; exact hlen
  refine codeAny_mono ((F _ hKb (nsK hns)).run callerA [] s₁ H ⟨vals, []⟩ vals (vals.map toV) _ _ hr e0 (hbind s₁ vals hl) hV (hsp H _ hO hS)) fun r s' x => ?_
  cases r with
  | error e => exact (hCX H e s' x).elim
  | ok fl =>
    cases fl with
    | next => exact False.elim x
    | brk => exact False.elim x
    | cont => exact False.elim x
    | ret u =>
      obtain ⟨v, H', os, bare, un, hok', r', q⟩ := x
      have kept : ∀ b o, s₁.heap.get? b = some o → s'.heap.get? b = some o := fun b o e => by
        cases q2 : H b with
        | none => exact un.keep b o e q2 (by intro z; exact absurd (show b ∈ ([] : List Addr) from z) (by simp)) (by simp)
        | some u2 =>
          rcases hO b with z | ⟨ob, u3, z⟩
          · rw [q2] at z
            cases z
          · have z2 := un.frzs b ob _ z
            obtain ⟨e1, _⟩ := hok b _ z
            obtain ⟨e2, _⟩ := hok' b _ z2
            rw [e] at e1
            cases e1
            exact e2
      have KX' : K.In s'.heap := fun b o e => kept b o (KX b o e)
      obtain ⟨as, hrd⟩ := Dw.reads (R := R) (cl := cl) hok' KX' d0 v u q r'
      exact ⟨u, as, rfl, hrd, OldK.of_keep kept, os, bare⟩
theorem layable_weight {ds : List WData} (h : WData.layableAll ds = true) : ∀ d ∈ ds, d.weight ≤ 1048576 := fun d hd =>
  (PySem.W.layableW_iff.mp (List.all_eq_true.mp h d hd)).2.2
theorem encAll_len : ∀ (cs : List Codec) (a : Codec.denoteAll cs), (Codec.encAll cs a).length = cs.length
  | [], _ => rfl
  | c :: cs, a => by
    show (Codec.encAll cs a.2).length + 1 = cs.length + 1
    rw [encAll_len cs a.2]
/-- the goal that k_headS leaves (case hc), from the promise of the row's def: whatever the arguments that the codecs let and the row asks for, the def gives what stands for enc (f ..) -/
theorem walk_spec {r : OpenSpec} {k : Nat} {q : Program} {loose : List Str} {XP : (Str → Option Value) → Heap → Prop} {YP : World → Heap → Prop} {d : DefRec} {K : Params → PySem.W.Frag} {CX : World → CXT} {ps : List Str} {sp : World → Sp}
    (hwell : r.wellSaid = true) (hdf : d.params.defaults = []) (hlen : r.args.length = ps.length) (hr : Room k callerA)
    (hY : ∀ (w : World) (h : Heap), YP w h → (K w.params).In h)
    (F : ∀ (w : World) (mg : Str → Option Value) (fa : Addr) (h : Heap), YP w h → (K w.params).In h → h.Ns mainGlobals mg → mg d.name = some (.ref fa) →
      ∃ fd : FuncData, (∀ (s : Shared) (us : List Value), us.length = ps.length → BindsTo s fd ⟨us, []⟩ (ps.zip us)) ∧
        ∀ base : Heap, (K w.params).In base → base.Ns mainGlobals mg → FnOk r.prog w (K w.params) mg base (CX w) k fa fd ps (sp w))
    (hsp : ∀ (w : World) (H : Hp) (xs : List V) (a : Codec.denoteAll r.args), OnlyF H → Codec.withinAll r.args a = true → Codec.app r.args r.asked a = true → DwAll (K w.params) H xs (Codec.encAll r.args a) →
      sp w xs H (fun v H' => Dw (K w.params) H' v (r.ret.enc (Codec.app r.args r.f a))) fun _ _ _ => False)
    (hCX : ∀ (w : World) (H : Hp) (s : Shared) (e : Value) (s' : Shared), CX w [] H s (fun _ _ _ => False) e s' → False) :
    PySem.W.WalkOS q loose XP YP r d [] (fun f vs => PySem.call f vs) := by
  intro w s_0 s₁ mg mb G Y fa o pm cd doc dV kV ho hd hcd hD hmg hg args vals as hpre hlay hrd hwl hlo
  obtain ⟨a, e1, e2⟩ := PySem.W.os_pre_some hpre
  obtain ⟨e3, hwi⟩ := Codec.encAll_of_decAll r.args args a e1
  subst e3
  have KX := hY w _ Y
  obtain ⟨fd, hb, hF⟩ := F w mg fa _ Y KX G.T.g hmg
  refine PySem.W.enter_call (codeAny_mono (spec_call (R := []) (cl := classAt s_0.heap) (d0 := r.ret.enc (Codec.app r.args r.f a)) KX G.T.g G.T.b G.T.builtins G.T.nolimit hg hwl (pl_encAll _ _) (layable_weight hlay) hr hF hb (by rw [encAll_len]; exact hlen)
    (fun H xs hO hS => hsp w H xs a hO hwi e2 hS) fun H e s' => hCX w H s₁ e s') fun r' s' hq => ?_)
  obtain ⟨u, as', rfl, h1, h2, h3, h4⟩ := hq
  exact ⟨.inl ⟨u, _, as', rfl, fun _ => rfl, h1, (OpenSpec.post_iff hwell hwi _ _).mpr rfl, fun z => Bool.noConfusion (show false = true from z)⟩, h2, h3, h4⟩
/-- the same where the promise hangs on the written part alone -/
theorem walk_specK {r : OpenSpec} {k : Nat} {q : Program} {loose : List Str} {XP : (Str → Option Value) → Heap → Prop} {YP : World → Heap → Prop} {d : DefRec} {K : Params → PySem.W.Frag} {CX : CXT} {ps : List Str} {sp : PySem.W.Frag → Sp}
    (hwell : r.wellSaid = true) (hdf : d.params.defaults = []) (hlen : r.args.length = ps.length) (hr : Room k callerA)
    (hY : ∀ (w : World) (h : Heap), YP w h → (K w.params).In h)
    (F : ∀ (w : World) (mg : Str → Option Value) (fa : Addr) (h : Heap), YP w h → (K w.params).In h → h.Ns mainGlobals mg → mg d.name = some (.ref fa) →
      ∃ fd : FuncData, (∀ (s : Shared) (us : List Value), us.length = ps.length → BindsTo s fd ⟨us, []⟩ (ps.zip us)) ∧
        ∀ base : Heap, (K w.params).In base → base.Ns mainGlobals mg → FnOk r.prog w (K w.params) mg base CX k fa fd ps (sp (K w.params)))
    (hsp : ∀ (K : PySem.W.Frag) (H : Hp) (xs : List V) (a : Codec.denoteAll r.args), OnlyF H → Codec.withinAll r.args a = true → Codec.app r.args r.asked a = true → DwAll K H xs (Codec.encAll r.args a) →
      sp K xs H (fun v H' => Dw K H' v (r.ret.enc (Codec.app r.args r.f a))) fun _ _ _ => False)
    (hCX : ∀ (H : Hp) (s : Shared) (e : Value) (s' : Shared), CX [] H s (fun _ _ _ => False) e s' → False) :
    PySem.W.WalkOS q loose XP YP r d [] (fun f vs => PySem.call f vs) :=
  walk_spec (K := K) (CX := fun _ => CX) (sp := fun w => sp (K w.params)) hwell hdf hlen hr hY F (fun w H xs a h1 h2 h3 h4 => hsp (K w.params) H xs a h1 h2 h3 h4) fun _ H s e s' => hCX H s e s'
end L2
-- rests on (row put in by the clerk, for the bench that shows a file only what it spells): KE.SpHead KE.OsShapes
end
set_option Elab.async false
set_option linter.all false
set_option maxRecDepth 100000
set_option maxHeartbeats 2000000
namespace L2
open PySem PySem.Spec PyProof.Rows
section
variable {X : Cx}
/-- l.insert(0, y) -/
def rInsert0 : V → List V → Hp → VK → Prop := fun x vs H Q => ∃ l xs y, x = .ref l ∧ vs = [.int 0, y] ∧ H l = some (.lst xs) ∧ xs.length < sizeLine ∧ Q .non (upd H l (.lst (y :: xs)))
theorem mt_insert0 : MtM X "list.insert" rInsert0 := by
  intro pins s σ H x vs v us Q I rx rv h
  obtain ⟨l, xs, y, rfl, rfl, hH, hz, q⟩ := h
  cases rx
  cases rv with
  | cons r1 rv =>
    cases rv with
    | cons ru rv =>
      cases rv
      obtain ⟨t, rfl⟩ := r1
      obtain ⟨z, its, n, r, hl, e⟩ := I.lstM hH
      refine call_meets F.slot_list_insert ⟨_, e, rfl⟩ F.entry_list_insert (F.args_list_insert_3 _ _ _) (AutoListH.list_insert_list_int_val_1 l its.toArray n 0 t _ (by decide) (by rw [List.size_toArray]; omega)) ⟨e, ?_⟩
      refine ⟨.non, _, I.lset (its' := _ :: its) hH e ?_ (.cons ru r) ?_, rfl, q⟩
      · simp
      · show xs.length + 1 ≤ sizeLine
        omega
/-- a global whole number -/
theorem pe_gi {x : Str} {i : Int} {pos : Pos} (h : ∃ t, X.mg x = some (.int i t)) (hg : Gl X x) (hd : (x == ("__debug__" : Str)) = false := by decide) : PE X (.Name x pos) (tC (.int i)) := by
  obtain ⟨t, h⟩ := h
  exact pe_glob hg h ⟨t, rfl⟩ hd
/-- the rules that name the written part, with it as a letter (for the block of a comprehension) -/
theorem pe_fldK {K : PySem.W.Frag} {e : Expr} {ta : TE} {f : Str} {pos : Pos} (hK : X.K = K) (he : PE X e ta) (hb : attributeBase e f X.env (eval e X.env) = eval e X.env) : PE X (.Attribute e f pos) (tFld K ta f) := by
  subst hK
  exact pe_fld he hb
theorem ix_listK {K : PySem.W.Frag} (hK : X.K = K) : IxR X (rIxL K) := by
  subst hK
  exact ix_list
theorem ix_tupK {K : PySem.W.Frag} (hK : X.K = K) : IxR X (rIxT K) := by
  subst hK
  exact ix_tup
theorem pg_tupK {K : PySem.W.Frag} {es : List Expr} {k : Nat} {t : TGs} {n : Nat} {pos : Pos} (hK : X.K = K) (hc : X.calm = true) (h : PGs X es t)
    (hn : (assignEach es X.env).length = n := by rfl) (hst : (assignEach es X.env).findIdx? (·.1) = none := by rfl) : PG X (.Tuple es k pos) (gTup K n t) := by
  subst hK
  exact pg_tup hc h hn hst
/-- a global tuple, list -/
theorem pe_gt {x : Str} {a : Addr} {pos : Pos} (h : X.mg x = some (.ref a)) (hg : Gl X x) (hd : (x == ("__debug__" : Str)) = false := by decide) : PE X (.Name x pos) (tC (.ref a)) := pe_glob hg h rfl hd
end
theorem bo_len : bootBuiltins "len" = some (.builtin "len") := by decide +kernel
theorem bo_list : bootBuiltins "list" = some (.type "list") := by decide +kernel
theorem bo_max : bootBuiltins "max" = some (.builtin "max") := by decide +kernel
theorem bo_min : bootBuiltins "min" = some (.builtin "min") := by decide +kernel
theorem bo_sum : bootBuiltins "sum" = some (.builtin "sum") := by decide +kernel
theorem bo_all : bootBuiltins "all" = some (.builtin "all") := by decide +kernel
theorem bo_any : bootBuiltins "any" = some (.builtin "any") := by decide +kernel
theorem bo_abs : bootBuiltins "abs" = some (.builtin "abs") := by decide +kernel
end L2

set_option Elab.async false
set_option linter.all false
set_option maxRecDepth 100000
set_option maxHeartbeats 2000000
namespace L2
open PySem PySem.Spec PyProof.Rows
/-- what a comprehension asks behind its iterator -/
def LcK (J : It) (g : TG) (tt : TT) (te : TE) (vs : List Nat) (σ : St) (H1 : Hp) (Q : VK) : Prop := ∀ D, H1 D = none → ∃ W : Nat → Nat → Hp → Prop, (∃ m, W 0 m (upd H1 D (.lst []))) ∧ ∀ i m H, W i m H →
  (J.stop i H ∧ Q (.ref D) H) ∨ (J.go i H ∧ ∃ Nx : Hp → Prop, (∀ H', Nx H' → ∃ m', m' < m ∧ W (i + 1) m' H') ∧ ∀ x H', J.yld i H x H' → g x (wipe σ vs) H' fun σ2 H2 => wipe σ2 vs = wipe σ vs ∧ tt σ2 H2 fun b H3 =>
    if b = true then te σ2 H3 fun y H4 => ∃ acc, H4 D = some (.lst acc) ∧ acc.length < sizeLine ∧ Nx (upd H4 D (.lst (acc ++ [y]))) else Nx H3)
theorem tLc_eq {wi : TI} {g : TG} {tt : TT} {te : TE} {vs : List Nat} {σ : St} {H : Hp} {Q : VK} : tLc wi g tt te vs σ H Q = wi σ H (fun J H1 => LcK J g tt te vs σ H1 Q) := rfl
/-- what a for asks behind its iterator -/
def ForK (J : It) (g : TG) (tb : TS) (D : Ends) (σ : St) (H : Hp) : Prop := ∃ W : Nat → Nat → St → Hp → Prop, (∃ m, W 0 m σ H) ∧ ∀ i m σ H, W i m σ H →
  (J.stop i H ∧ D.nx σ H) ∨ (J.go i H ∧ ∃ N : St → Hp → Prop, (∀ σ' H', N σ' H' → ∃ m', m' < m ∧ W (i + 1) m' σ' H') ∧ ∀ x H', J.yld i H x H' → g x σ H' fun σ2 H2 => tb { D with nx := N, ct := N, bk := D.nx } σ2 H2)
theorem tFor_eq {wi : TI} {g : TG} {tb : TS} {D : Ends} {σ : St} {H : Hp} : tFor wi g tb D σ H = wi σ H (fun J H1 => ForK J g tb D σ H1) := rfl
theorem Same.upd {H H' : Hp} {p : Addr} {o : HO} (s : Same H H') (h : H p = none) : Same H (L2.upd H' p o) := fun b u e => by
  rw [upd_ne (ne_of_none e h)]
  exact s b u e
theorem take_snocV {α : Type} : ∀ {l : List α} {i : Nat} {x : α}, l[i]? = some x → l.take (i + 1) = l.take i ++ [x]
  | [], i, x, h => by simp at h
  | a :: l, 0, x, h => by
    have e : a = x := Option.some.inj h
    subst e
    rfl
  | a :: l, i + 1, x, h => by
    have ih := take_snocV (l := l) (i := i) (x := x) h
    show a :: l.take (i + 1) = a :: l.take i ++ [x]
    rw [ih]
    rfl
section
variable {K : PySem.W.Frag} {g : TG} {te : TE} {vs : List Nat} {σ : St} {H : Hp} {Q : VK}
/-- [e for x in a list]: the new list's items are ys -/
theorem lcK_list {a : Addr} {xs : List V} (ys : List V) (hq : SqL K H a xs) (hlen : ys.length = xs.length) (hsz : xs.length ≤ sizeLine)
    (hs : ∀ (i : Nat) (x y : V) (H' : Hp) (R : VK), xs[i]? = some x → ys[i]? = some y → Same H H' → (∀ H4, Same H' H4 → R y H4) → g x (wipe σ vs) H' fun σ2 H2 => wipe σ2 vs = wipe σ vs ∧ te σ2 H2 R)
    (k : ∀ D H', H D = none → Same H H' → H' D = some (.lst ys) → Q (.ref D) H') : LcK (Itl K a) g tYes te vs σ H Q := by
  intro D hD
  refine lc_list (xs := xs) (fun i H' => Same H H' ∧ H' D = some (.lst (ys.take i))) ⟨(Same.refl H).upd hD, upd_same⟩ (fun i H' _ p => p.1.seq hq) ?_ ?_
  · rintro i x H' hx ⟨s1, e1⟩
    have hi : i < xs.length := (List.getElem?_eq_some_iff.mp hx).1
    obtain ⟨y, hy⟩ : ∃ y, ys[i]? = some y := ⟨ys[i]'(by omega), List.getElem?_eq_getElem _⟩
    refine hs i x y H' _ hx hy s1 ?_
    intro H4 s4
    refine ⟨_, s4 _ _ e1, ?_, (s1.trans s4).upd hD, ?_⟩
    · rw [List.length_take]
      omega
    · rw [upd_same, take_snocV hy]
  · rintro H' ⟨s1, e1⟩
    rw [← hlen, List.take_length] at e1
    exact k D H' hD s1 e1
/-- [e for x in range(lo, lo + n)] -/
theorem lcK_range {lo : Int} {n : Nat} (ys : List V) (hlen : ys.length = n) (hsz : n ≤ sizeLine)
    (hs : ∀ (i : Nat) (y : V) (H' : Hp) (R : VK), i < n → ys[i]? = some y → Same H H' → (∀ H4, Same H' H4 → R y H4) → g (.int (lo + i)) (wipe σ vs) H' fun σ2 H2 => wipe σ2 vs = wipe σ vs ∧ te σ2 H2 R)
    (k : ∀ D H', H D = none → Same H H' → H' D = some (.lst ys) → Q (.ref D) H') : LcK (Itr lo n) g tYes te vs σ H Q := by
  intro D hD
  refine lc_range (fun i H' => Same H H' ∧ H' D = some (.lst (ys.take i))) ⟨(Same.refl H).upd hD, upd_same⟩ ?_ ?_
  · rintro i H' hi ⟨s1, e1⟩
    obtain ⟨y, hy⟩ : ∃ y, ys[i]? = some y := ⟨ys[i]'(by omega), List.getElem?_eq_getElem _⟩
    refine hs i y H' _ hi hy s1 ?_
    intro H4 s4
    refine ⟨_, s4 _ _ e1, ?_, (s1.trans s4).upd hD, ?_⟩
    · rw [List.length_take]
      omega
    · rw [upd_same, take_snocV hy]
  · rintro H' ⟨s1, e1⟩
    rw [← hlen, List.take_length] at e1
    exact k D H' hD s1 e1
/-- [e for x, y in zip(list, list)] -/
theorem lcK_zip {a b : Addr} {xs ys : List V} (zs : List V) (hx : SqL K H a xs) (hy : SqL K H b ys) (hlen : zs.length = min xs.length ys.length) (hsz : zs.length ≤ sizeLine)
    (hs : ∀ (i : Nat) (x y z : V) (T : Addr) (H' : Hp) (R : VK), xs[i]? = some x → ys[i]? = some y → zs[i]? = some z → Same H H' → H' T = some (.tup [x, y]) → (∀ H4, Same H' H4 → R z H4) → g (.ref T) (wipe σ vs) H' fun σ2 H2 => wipe σ2 vs = wipe σ vs ∧ te σ2 H2 R)
    (k : ∀ D H', H D = none → Same H H' → H' D = some (.lst zs) → Q (.ref D) H') : LcK (Itz K a b) g tYes te vs σ H Q := by
  intro D hD
  refine ⟨fun i m H' => m = zs.length - i ∧ i ≤ zs.length ∧ Same H H' ∧ H' D = some (.lst (zs.take i)), ⟨_, rfl, Nat.zero_le _, (Same.refl H).upd hD, upd_same⟩, ?_⟩
  rintro i m H' ⟨rfl, hi, s1, e1⟩
  by_cases hlt : i < zs.length
  · refine .inr ⟨⟨xs, ys, xs[i]'(by omega), ys[i]'(by omega), s1.seq hx, s1.seq hy, List.getElem?_eq_getElem _, List.getElem?_eq_getElem _⟩, fun H'' => Same H H'' ∧ H'' D = some (.lst (zs.take (i + 1))), fun H'' p' => ⟨zs.length - (i + 1), by omega, rfl, hlt, p'⟩, ?_⟩
    rintro v H2 ⟨T, x, y, rfl, hT, rfl, h3, h4⟩
    have nTD : D ≠ T := ne_of_none e1 hT
    have s2 : Same H (upd H' T (.tup [x, y])) := fun b u e => by
      rw [upd_ne (ne_of_none (s1 _ _ e) hT)]
      exact s1 _ _ e
    refine hs i x y _ T _ _ (h3 xs (s1.seq hx)) (h4 ys (s1.seq hy)) (List.getElem?_eq_getElem hlt) s2 upd_same ?_
    intro H4 s4
    refine ⟨_, s4 _ _ (by rw [upd_ne nTD]; exact e1), ?_, (s2.trans s4).upd hD, ?_⟩
    · rw [List.length_take]
      omega
    · rw [upd_same, take_snocV (List.getElem?_eq_getElem hlt)]
  · have e : i = zs.length := by omega
    subst e
    rw [List.take_length] at e1
    refine .inl ⟨⟨xs, ys, s1.seq hx, s1.seq hy, ?_⟩, k D H' hD s1 e1⟩
    omega
end
section
variable {K : PySem.W.Frag} {g : TG} {tb : TS} {D : Ends} {σ : St} {H : Hp}
theorem forK_list {a : Addr} {xs : List V} (Pv : Nat → St → Hp → Prop) (h0 : Pv 0 σ H) (hl : ∀ i σ H, i ≤ xs.length → Pv i σ H → SqL K H a xs)
    (hs : ∀ i x σ H, xs[i]? = some x → Pv i σ H → g x σ H fun σ2 H2 => tb { D with nx := Pv (i + 1), ct := Pv (i + 1), bk := D.nx } σ2 H2) (hd : ∀ σ H, Pv xs.length σ H → D.nx σ H) : ForK (Itl K a) g tb D σ H := for_list Pv h0 hl hs hd
theorem forK_range {lo : Int} {n : Nat} (Pv : Nat → St → Hp → Prop) (h0 : Pv 0 σ H)
    (hs : ∀ i σ H, i < n → Pv i σ H → g (.int (lo + i)) σ H fun σ2 H2 => tb { D with nx := Pv (i + 1), ct := Pv (i + 1), bk := D.nx } σ2 H2) (hd : ∀ σ H, Pv n σ H → D.nx σ H) : ForK (Itr lo n) g tb D σ H := for_range Pv h0 hs hd
theorem forK_rangeC {lo c : Int} {n : Nat} (Pv : Nat → St → Hp → Prop) (h0 : Pv 0 σ H)
    (hs : ∀ i σ H, i < n → Pv i σ H → g (.int (lo + (i : Nat) * c)) σ H fun σ2 H2 => tb { D with nx := Pv (i + 1), ct := Pv (i + 1), bk := D.nx } σ2 H2) (hd : ∀ σ H, Pv n σ H → D.nx σ H) : ForK (Itc lo c n) g tb D σ H := for_rangeC Pv h0 hs hd
/-- for i, x in enumerate(list) -/
theorem forK_enum {a : Addr} {xs : List V} (Pv : Nat → St → Hp → Prop) (h0 : Pv 0 σ H) (hl : ∀ i σ H, i ≤ xs.length → Pv i σ H → SqL K H a xs)
    (hs : ∀ i x T σ H, xs[i]? = some x → H T = none → Pv i σ H → g (.ref T) σ (upd H T (.tup [.int (i : Nat), x])) fun σ2 H2 => tb { D with nx := Pv (i + 1), ct := Pv (i + 1), bk := D.nx } σ2 H2)
    (hd : ∀ σ H, Pv xs.length σ H → D.nx σ H) : ForK (Ite K a) g tb D σ H := by
  refine ⟨fun i m σ H => m = xs.length - i ∧ i ≤ xs.length ∧ Pv i σ H, ⟨xs.length, by simp, Nat.zero_le _, h0⟩, ?_⟩
  rintro i m σ H ⟨rfl, hi, p⟩
  have q := hl i σ H hi p
  by_cases hlt : i < xs.length
  · refine .inr ⟨⟨xs, xs[i], q, by simp [hlt]⟩, Pv (i + 1), fun σ' H' p' => ⟨xs.length - (i + 1), by omega, rfl, hlt, p'⟩, ?_⟩
    rintro v H' ⟨T, x, rfl, hT, rfl, y⟩
    exact hs i x T σ H (y xs q) hT p
  · have e : i = xs.length := by omega
    subst e
    exact .inl ⟨⟨xs, q, Nat.le_refl _⟩, hd σ H p⟩
end
end L2

set_option Elab.async false
set_option linter.all false
set_option maxRecDepth 100000
set_option maxHeartbeats 4000000
namespace LL
open PySem PySem.Spec PyProof.Rows L2
set_option genInjectivity false
set_option genSizeOfSpec false
def top (i : Nat) : Stmt := PySem.Challenge.pw_linelaid_s01_answers.main.body.getD i (.Pass ⟨0, 0, 0, 0⟩)
abbrev s_is_height : Stmt := top 7
theorem sc_is_height : FnScope ["x"] ["x"] (defScope s_is_height) := ⟨rfl, rfl, rfl, by decide +kernel, rfl, by decide +kernel, by decide +kernel⟩
abbrev s_are_heights : Stmt := top 8
theorem sc_are_heights : FnScope ["row", "x"] ["row"] (defScope s_are_heights) := ⟨rfl, rfl, rfl, by decide +kernel, rfl, by decide +kernel, by decide +kernel⟩
abbrev s_is_price : Stmt := top 9
theorem sc_is_price : FnScope ["x"] ["x"] (defScope s_is_price) := ⟨rfl, rfl, rfl, by decide +kernel, rfl, by decide +kernel, by decide +kernel⟩
abbrev s_why : Stmt := top 18
theorem sc_why : FnScope ["road", "pair"] ["road"] (defScope s_why) := ⟨rfl, rfl, rfl, by decide +kernel, rfl, by decide +kernel, by decide +kernel⟩
abbrev s_leastgrade : Stmt := top 19
theorem sc_leastgrade : FnScope ["road", "grade"] ["road"] (defScope s_leastgrade) := ⟨rfl, rfl, rfl, by decide +kernel, rfl, by decide +kernel, by decide +kernel⟩
abbrev s_between : Stmt := top 20
theorem sc_between : FnScope ["road", "station"] ["road", "station"] (defScope s_between) := ⟨rfl, rfl, rfl, by decide +kernel, rfl, by decide +kernel, by decide +kernel⟩
abbrev s_first_too_far : Stmt := top 21
theorem sc_first_too_far : FnScope ["road", "grade", "told", "lesser", "greater"] ["road", "grade"] (defScope s_first_too_far) := ⟨rfl, rfl, rfl, by decide +kernel, rfl, by decide +kernel, by decide +kernel⟩
abbrev s_is_too_far : Stmt := top 22
theorem sc_is_too_far : FnScope ["road", "lesser", "greater", "grade"] ["road", "lesser", "greater", "grade"] (defScope s_is_too_far) := ⟨rfl, rfl, rfl, by decide +kernel, rfl, by decide +kernel, by decide +kernel⟩
abbrev s_lowest : Stmt := top 23
theorem sc_lowest : FnScope ["road", "station", "floors", "other"] ["road", "station"] (defScope s_lowest) := ⟨rfl, rfl, rfl, by decide +kernel, rfl, by decide +kernel, by decide +kernel⟩
abbrev s_highest : Stmt := top 24
theorem sc_highest : FnScope ["road", "station", "ceilings", "other"] ["road", "station"] (defScope s_highest) := ⟨rfl, rfl, rfl, by decide +kernel, rfl, by decide +kernel, by decide +kernel⟩
abbrev s_reach : Stmt := top 25
theorem sc_reach : FnScope ["road", "station", "other"] ["road", "station", "other"] (defScope s_reach) := ⟨rfl, rfl, rfl, by decide +kernel, rfl, by decide +kernel, by decide +kernel⟩
abbrev s_is_line : Stmt := top 27
theorem sc_is_line : FnScope ["road", "row"] ["road", "row"] (defScope s_is_line) := ⟨rfl, rfl, rfl, by decide +kernel, rfl, by decide +kernel, by decide +kernel⟩
abbrev s_keeps_told : Stmt := top 28
theorem sc_keeps_told : FnScope ["road", "row", "told", "height"] ["road", "row"] (defScope s_keeps_told) := ⟨rfl, rfl, rfl, by decide +kernel, rfl, by decide +kernel, by decide +kernel⟩
abbrev s_keeps_grade : Stmt := top 29
theorem sc_keeps_grade : FnScope ["road", "row", "height", "after"] ["road", "row"] (defScope s_keeps_grade) := ⟨rfl, rfl, rfl, by decide +kernel, rfl, by decide +kernel, by decide +kernel⟩
abbrev s_cut_of : Stmt := top 30
theorem sc_cut_of : FnScope ["road", "row", "ground", "height"] ["road", "row"] (defScope s_cut_of) := ⟨rfl, rfl, rfl, by decide +kernel, rfl, by decide +kernel, by decide +kernel⟩
abbrev s_filled_of : Stmt := top 31
theorem sc_filled_of : FnScope ["road", "row", "ground", "height"] ["road", "row"] (defScope s_filled_of) := ⟨rfl, rfl, rfl, by decide +kernel, rfl, by decide +kernel, by decide +kernel⟩
abbrev s_cost_of : Stmt := top 32
theorem sc_cost_of : FnScope ["road", "row"] ["road", "row"] (defScope s_cost_of) := ⟨rfl, rfl, rfl, by decide +kernel, rfl, by decide +kernel, by decide +kernel⟩
abbrev s_least_cost : Stmt := top 33
theorem sc_least_cost : FnScope ["road", "row"] ["road"] (defScope s_least_cost) := ⟨rfl, rfl, rfl, by decide +kernel, rfl, by decide +kernel, by decide +kernel⟩
abbrev s_cheapest : Stmt := top 34
theorem sc_cheapest : FnScope ["road", "onward", "height", "row", "costs"] ["road"] (defScope s_cheapest) := ⟨rfl, rfl, rfl, by decide +kernel, rfl, by decide +kernel, by decide +kernel⟩
abbrev s_costs_onward : Stmt := top 35
theorem sc_costs_onward : FnScope ["road", "last", "onward", "station"] ["road"] (defScope s_costs_onward) := ⟨rfl, rfl, rfl, by decide +kernel, rfl, by decide +kernel, by decide +kernel⟩
abbrev s_costs_at : Stmt := top 36
theorem sc_costs_at : FnScope ["road", "station", "height"] ["road", "station"] (defScope s_costs_at) := ⟨rfl, rfl, rfl, by decide +kernel, rfl, by decide +kernel, by decide +kernel⟩
abbrev s_cost_at : Stmt := top 37
theorem sc_cost_at : FnScope ["road", "station", "height", "told", "above"] ["road", "station", "height"] (defScope s_cost_at) := ⟨rfl, rfl, rfl, by decide +kernel, rfl, by decide +kernel, by decide +kernel⟩
abbrev s_costs_with_rest : Stmt := top 38
theorem sc_costs_with_rest : FnScope ["costs", "rest", "grade", "sums", "height", "cost", "after"] ["costs", "rest", "grade"] (defScope s_costs_with_rest) := ⟨rfl, rfl, rfl, by decide +kernel, rfl, by decide +kernel, by decide +kernel⟩
abbrev s_best_step : Stmt := top 39
theorem sc_best_step : FnScope ["costs", "height", "grade", "best", "after"] ["costs", "height", "grade"] (defScope s_best_step) := ⟨rfl, rfl, rfl, by decide +kernel, rfl, by decide +kernel, by decide +kernel⟩
abbrev s_can : Stmt := top 41
theorem sc_can : FnScope ["road"] ["road"] (defScope s_can) := ⟨rfl, rfl, rfl, by decide +kernel, rfl, by decide +kernel, by decide +kernel⟩
abbrev s_cost : Stmt := top 42
theorem sc_cost : FnScope ["road", "least"] ["road"] (defScope s_cost) := ⟨rfl, rfl, rfl, by decide +kernel, rfl, by decide +kernel, by decide +kernel⟩
abbrev s_line : Stmt := top 43
theorem sc_line : FnScope ["road", "row"] ["road"] (defScope s_line) := ⟨rfl, rfl, rfl, by decide +kernel, rfl, by decide +kernel, by decide +kernel⟩
abbrev s_earth : Stmt := top 44
theorem sc_earth : FnScope ["road", "row"] ["road"] (defScope s_earth) := ⟨rfl, rfl, rfl, by decide +kernel, rfl, by decide +kernel, by decide +kernel⟩
abbrev s_tried : Stmt := top 45
theorem sc_tried : FnScope ["road", "row"] ["road", "row"] (defScope s_tried) := ⟨rfl, rfl, rfl, by decide +kernel, rfl, by decide +kernel, by decide +kernel⟩
abbrev s_steep : Stmt := top 46
theorem sc_steep : FnScope ["road", "row", "starts", "start"] ["road"] (defScope s_steep) := ⟨rfl, rfl, rfl, by decide +kernel, rfl, by decide +kernel, by decide +kernel⟩
abbrev s_flat : Stmt := top 47
theorem sc_flat : FnScope ["road", "row"] ["road"] (defScope s_flat) := ⟨rfl, rfl, rfl, by decide +kernel, rfl, by decide +kernel, by decide +kernel⟩
abbrev s_longest_level : Stmt := top 48
theorem sc_longest_level : FnScope ["row", "longest", "longest_start", "start", "station", "height", "many"] ["row"] (defScope s_longest_level) := ⟨rfl, rfl, rfl, by decide +kernel, rfl, by decide +kernel, by decide +kernel⟩
abbrev s_station : Stmt := top 50
theorem sc_station : FnScope ["road", "number"] ["road", "number"] (defScope s_station) := ⟨rfl, rfl, rfl, by decide +kernel, rfl, by decide +kernel, by decide +kernel⟩
abbrev s_profile : Stmt := top 51
theorem sc_profile : FnScope ["road"] ["road"] (defScope s_profile) := ⟨rfl, rfl, rfl, by decide +kernel, rfl, by decide +kernel, by decide +kernel⟩
abbrev s_state : Stmt := top 52
theorem sc_state : FnScope ["road"] ["road"] (defScope s_state) := ⟨rfl, rfl, rfl, by decide +kernel, rfl, by decide +kernel, by decide +kernel⟩
abbrev s_Road_init : Stmt := inClass (top 54) 0
theorem sc_Road_init : FnScope ["self"] ["self"] (defScope s_Road_init) := ⟨rfl, rfl, rfl, by decide +kernel, rfl, by decide +kernel, by decide +kernel⟩
abbrev s_Road_begun : Stmt := inClass (top 54) 1
theorem sc_Road_begun : FnScope ["self"] ["self"] (defScope s_Road_begun) := ⟨rfl, rfl, rfl, by decide +kernel, rfl, by decide +kernel, by decide +kernel⟩
abbrev s_Road_begin : Stmt := inClass (top 54) 2
theorem sc_Road_begin : FnScope ["self", "heights", "height"] ["self", "heights"] (defScope s_Road_begin) := ⟨rfl, rfl, rfl, by decide +kernel, rfl, by decide +kernel, by decide +kernel⟩
abbrev s_Road_tell_ends : Stmt := inClass (top 54) 3
theorem sc_Road_tell_ends : FnScope ["self", "first", "last", "before"] ["self", "first", "last"] (defScope s_Road_tell_ends) := ⟨rfl, rfl, rfl, by decide +kernel, rfl, by decide +kernel, by decide +kernel⟩
abbrev s_Road_change_grade : Stmt := inClass (top 54) 4
theorem sc_Road_change_grade : FnScope ["self", "grade", "before"] ["self", "grade"] (defScope s_Road_change_grade) := ⟨rfl, rfl, rfl, by decide +kernel, rfl, by decide +kernel, by decide +kernel⟩
abbrev s_Road_change_prices : Stmt := inClass (top 54) 5
theorem sc_Road_change_prices : FnScope ["self", "cut_price", "fill_price", "before"] ["self", "cut_price", "fill_price"] (defScope s_Road_change_prices) := ⟨rfl, rfl, rfl, by decide +kernel, rfl, by decide +kernel, by decide +kernel⟩
abbrev s_Road_change_ground : Stmt := inClass (top 54) 6
theorem sc_Road_change_ground : FnScope ["self", "station", "height", "before"] ["self", "station", "height"] (defScope s_Road_change_ground) := ⟨rfl, rfl, rfl, by decide +kernel, rfl, by decide +kernel, by decide +kernel⟩
abbrev s_Road_fix : Stmt := inClass (top 54) 7
theorem sc_Road_fix : FnScope ["self", "station", "height", "before"] ["self", "station", "height"] (defScope s_Road_fix) := ⟨rfl, rfl, rfl, by decide +kernel, rfl, by decide +kernel, by decide +kernel⟩
abbrev s_Road_free : Stmt := inClass (top 54) 8
theorem sc_Road_free : FnScope ["self", "station", "before"] ["self", "station"] (defScope s_Road_free) := ⟨rfl, rfl, rfl, by decide +kernel, rfl, by decide +kernel, by decide +kernel⟩
abbrev s_Road_copied : Stmt := inClass (top 54) 9
theorem sc_Road_copied : FnScope ["self", "other"] ["self"] (defScope s_Road_copied) := ⟨rfl, rfl, rfl, by decide +kernel, rfl, by decide +kernel, by decide +kernel⟩
abbrev s_Road_told_stations : Stmt := inClass (top 54) 10
theorem sc_Road_told_stations : FnScope ["self", "station", "height"] ["self"] (defScope s_Road_told_stations) := ⟨rfl, rfl, rfl, by decide +kernel, rfl, by decide +kernel, by decide +kernel⟩
abbrev s_Road_one_more_than_told : Stmt := inClass (top 54) 11
theorem sc_Road_one_more_than_told : FnScope ["self", "station", "told"] ["self", "station"] (defScope s_Road_one_more_than_told) := ⟨rfl, rfl, rfl, by decide +kernel, rfl, by decide +kernel, by decide +kernel⟩
abbrev s_Road_has_station : Stmt := inClass (top 54) 12
theorem sc_Road_has_station : FnScope ["self", "station"] ["self", "station"] (defScope s_Road_has_station) := ⟨rfl, rfl, rfl, by decide +kernel, rfl, by decide +kernel, by decide +kernel⟩
abbrev s_Road_is_end : Stmt := inClass (top 54) 13
theorem sc_Road_is_end : FnScope ["self", "station"] ["self", "station"] (defScope s_Road_is_end) := ⟨rfl, rfl, rfl, by decide +kernel, rfl, by decide +kernel, by decide +kernel⟩
abbrev s_ifgrade : Stmt := top 56
theorem sc_ifgrade : FnScope ["road", "grade", "other"] ["road", "grade"] (defScope s_ifgrade) := ⟨rfl, rfl, rfl, by decide +kernel, rfl, by decide +kernel, by decide +kernel⟩
abbrev s_through : Stmt := top 57
theorem sc_through : FnScope ["road", "station", "height", "told", "other"] ["road", "station", "height"] (defScope s_through) := ⟨rfl, rfl, rfl, by decide +kernel, rfl, by decide +kernel, by decide +kernel⟩
abbrev s_worth : Stmt := top 58
theorem sc_worth : FnScope ["road", "station", "other", "freed", "least", "would"] ["road", "station"] (defScope s_worth) := ⟨rfl, rfl, rfl, by decide +kernel, rfl, by decide +kernel, by decide +kernel⟩
abbrev s_answers : Stmt := top 83
theorem sc_answers : FnScope ["calls", "road", "said", "start", "first", "end", "answer"] ["calls"] (defScope s_answers) := ⟨rfl, rfl, rfl, by decide +kernel, rfl, by decide +kernel, by decide +kernel⟩
abbrev s_takes_row : Stmt := top 84
theorem sc_takes_row : FnScope ["call"] ["call"] (defScope s_takes_row) := ⟨rfl, rfl, rfl, by decide +kernel, rfl, by decide +kernel, by decide +kernel⟩
abbrev s_first_argument : Stmt := top 85
theorem sc_first_argument : FnScope ["calls", "start"] ["calls", "start"] (defScope s_first_argument) := ⟨rfl, rfl, rfl, by decide +kernel, rfl, by decide +kernel, by decide +kernel⟩
abbrev s_call_end : Stmt := top 86
theorem sc_call_end : FnScope ["calls", "start"] ["calls", "start"] (defScope s_call_end) := ⟨rfl, rfl, rfl, by decide +kernel, rfl, by decide +kernel, by decide +kernel⟩
abbrev s_answer_call : Stmt := top 87
theorem sc_answer_call : FnScope ["road", "call", "given"] ["road", "call", "given"] (defScope s_answer_call) := ⟨rfl, rfl, rfl, by decide +kernel, rfl, by decide +kernel, by decide +kernel⟩
abbrev s_answer_change : Stmt := top 88
theorem sc_answer_change : FnScope ["road", "call", "given"] ["road", "call", "given"] (defScope s_answer_change) := ⟨rfl, rfl, rfl, by decide +kernel, rfl, by decide +kernel, by decide +kernel⟩
abbrev s_answer_look : Stmt := top 89
theorem sc_answer_look : FnScope ["road", "call", "given"] ["road", "call", "given"] (defScope s_answer_look) := ⟨rfl, rfl, rfl, by decide +kernel, rfl, by decide +kernel, by decide +kernel⟩
abbrev s_answer_bare_look : Stmt := top 90
theorem sc_answer_bare_look : FnScope ["road", "call"] ["road", "call"] (defScope s_answer_bare_look) := ⟨rfl, rfl, rfl, by decide +kernel, rfl, by decide +kernel, by decide +kernel⟩
/-- where each def and class stands -/
structure Ad where
  C_Road : Addr
  f_is_height : Addr
  d_is_height : FuncData
  f_are_heights : Addr
  d_are_heights : FuncData
  f_is_price : Addr
  d_is_price : FuncData
  f_why : Addr
  d_why : FuncData
  f_leastgrade : Addr
  d_leastgrade : FuncData
  f_between : Addr
  d_between : FuncData
  f_first_too_far : Addr
  d_first_too_far : FuncData
  f_is_too_far : Addr
  d_is_too_far : FuncData
  f_lowest : Addr
  d_lowest : FuncData
  f_highest : Addr
  d_highest : FuncData
  f_reach : Addr
  d_reach : FuncData
  f_is_line : Addr
  d_is_line : FuncData
  f_keeps_told : Addr
  d_keeps_told : FuncData
  f_keeps_grade : Addr
  d_keeps_grade : FuncData
  f_cut_of : Addr
  d_cut_of : FuncData
  f_filled_of : Addr
  d_filled_of : FuncData
  f_cost_of : Addr
  d_cost_of : FuncData
  f_least_cost : Addr
  d_least_cost : FuncData
  f_cheapest : Addr
  d_cheapest : FuncData
  f_costs_onward : Addr
  d_costs_onward : FuncData
  f_costs_at : Addr
  d_costs_at : FuncData
  f_cost_at : Addr
  d_cost_at : FuncData
  f_costs_with_rest : Addr
  d_costs_with_rest : FuncData
  f_best_step : Addr
  d_best_step : FuncData
  f_can : Addr
  d_can : FuncData
  f_cost : Addr
  d_cost : FuncData
  f_line : Addr
  d_line : FuncData
  f_earth : Addr
  d_earth : FuncData
  f_tried : Addr
  d_tried : FuncData
  f_steep : Addr
  d_steep : FuncData
  f_flat : Addr
  d_flat : FuncData
  f_longest_level : Addr
  d_longest_level : FuncData
  f_station : Addr
  d_station : FuncData
  f_profile : Addr
  d_profile : FuncData
  f_state : Addr
  d_state : FuncData
  f_Road_init : Addr
  d_Road_init : FuncData
  f_Road_begun : Addr
  d_Road_begun : FuncData
  f_Road_begin : Addr
  d_Road_begin : FuncData
  f_Road_tell_ends : Addr
  d_Road_tell_ends : FuncData
  f_Road_change_grade : Addr
  d_Road_change_grade : FuncData
  f_Road_change_prices : Addr
  d_Road_change_prices : FuncData
  f_Road_change_ground : Addr
  d_Road_change_ground : FuncData
  f_Road_fix : Addr
  d_Road_fix : FuncData
  f_Road_free : Addr
  d_Road_free : FuncData
  f_Road_copied : Addr
  d_Road_copied : FuncData
  f_Road_told_stations : Addr
  d_Road_told_stations : FuncData
  f_Road_one_more_than_told : Addr
  d_Road_one_more_than_told : FuncData
  f_Road_has_station : Addr
  d_Road_has_station : FuncData
  f_Road_is_end : Addr
  d_Road_is_end : FuncData
  f_ifgrade : Addr
  d_ifgrade : FuncData
  f_through : Addr
  d_through : FuncData
  f_worth : Addr
  d_worth : FuncData
  f_answers : Addr
  d_answers : FuncData
  f_takes_row : Addr
  d_takes_row : FuncData
  f_first_argument : Addr
  d_first_argument : FuncData
  f_call_end : Addr
  d_call_end : FuncData
  f_answer_call : Addr
  d_answer_call : FuncData
  f_answer_change : Addr
  d_answer_change : FuncData
  f_answer_look : Addr
  d_answer_look : FuncData
  f_answer_bare_look : Addr
  d_answer_bare_look : FuncData
  a_HOW_MANY_NUMBERS : Addr
/-- what the top has written -/
structure Txt (K : PySem.W.Frag) (mg : Str → Option Value) (A : Ad) : Prop where
  F_is_height : Fun K "is_height" "is_height" s_is_height A.f_is_height A.d_is_height
  b_is_height : Binds K A.d_is_height ["x"] []
  m_is_height : mg "is_height" = some (.ref A.f_is_height)
  F_are_heights : Fun K "are_heights" "are_heights" s_are_heights A.f_are_heights A.d_are_heights
  b_are_heights : Binds K A.d_are_heights ["row"] []
  m_are_heights : mg "are_heights" = some (.ref A.f_are_heights)
  F_is_price : Fun K "is_price" "is_price" s_is_price A.f_is_price A.d_is_price
  b_is_price : Binds K A.d_is_price ["x"] []
  m_is_price : mg "is_price" = some (.ref A.f_is_price)
  F_why : Fun K "why" "why" s_why A.f_why A.d_why
  b_why : Binds K A.d_why ["road"] []
  m_why : mg "why" = some (.ref A.f_why)
  F_leastgrade : Fun K "leastgrade" "leastgrade" s_leastgrade A.f_leastgrade A.d_leastgrade
  b_leastgrade : Binds K A.d_leastgrade ["road"] []
  m_leastgrade : mg "leastgrade" = some (.ref A.f_leastgrade)
  F_between : Fun K "between" "between" s_between A.f_between A.d_between
  b_between : Binds K A.d_between ["road", "station"] []
  m_between : mg "between" = some (.ref A.f_between)
  F_first_too_far : Fun K "first_too_far" "first_too_far" s_first_too_far A.f_first_too_far A.d_first_too_far
  b_first_too_far : Binds K A.d_first_too_far ["road", "grade"] []
  m_first_too_far : mg "first_too_far" = some (.ref A.f_first_too_far)
  F_is_too_far : Fun K "is_too_far" "is_too_far" s_is_too_far A.f_is_too_far A.d_is_too_far
  b_is_too_far : Binds K A.d_is_too_far ["road", "lesser", "greater", "grade"] []
  m_is_too_far : mg "is_too_far" = some (.ref A.f_is_too_far)
  F_lowest : Fun K "lowest" "lowest" s_lowest A.f_lowest A.d_lowest
  b_lowest : Binds K A.d_lowest ["road", "station"] []
  m_lowest : mg "lowest" = some (.ref A.f_lowest)
  F_highest : Fun K "highest" "highest" s_highest A.f_highest A.d_highest
  b_highest : Binds K A.d_highest ["road", "station"] []
  m_highest : mg "highest" = some (.ref A.f_highest)
  F_reach : Fun K "reach" "reach" s_reach A.f_reach A.d_reach
  b_reach : Binds K A.d_reach ["road", "station", "other"] []
  m_reach : mg "reach" = some (.ref A.f_reach)
  F_is_line : Fun K "is_line" "is_line" s_is_line A.f_is_line A.d_is_line
  b_is_line : Binds K A.d_is_line ["road", "row"] []
  m_is_line : mg "is_line" = some (.ref A.f_is_line)
  F_keeps_told : Fun K "keeps_told" "keeps_told" s_keeps_told A.f_keeps_told A.d_keeps_told
  b_keeps_told : Binds K A.d_keeps_told ["road", "row"] []
  m_keeps_told : mg "keeps_told" = some (.ref A.f_keeps_told)
  F_keeps_grade : Fun K "keeps_grade" "keeps_grade" s_keeps_grade A.f_keeps_grade A.d_keeps_grade
  b_keeps_grade : Binds K A.d_keeps_grade ["road", "row"] []
  m_keeps_grade : mg "keeps_grade" = some (.ref A.f_keeps_grade)
  F_cut_of : Fun K "cut_of" "cut_of" s_cut_of A.f_cut_of A.d_cut_of
  b_cut_of : Binds K A.d_cut_of ["road", "row"] []
  m_cut_of : mg "cut_of" = some (.ref A.f_cut_of)
  F_filled_of : Fun K "filled_of" "filled_of" s_filled_of A.f_filled_of A.d_filled_of
  b_filled_of : Binds K A.d_filled_of ["road", "row"] []
  m_filled_of : mg "filled_of" = some (.ref A.f_filled_of)
  F_cost_of : Fun K "cost_of" "cost_of" s_cost_of A.f_cost_of A.d_cost_of
  b_cost_of : Binds K A.d_cost_of ["road", "row"] []
  m_cost_of : mg "cost_of" = some (.ref A.f_cost_of)
  F_least_cost : Fun K "least_cost" "least_cost" s_least_cost A.f_least_cost A.d_least_cost
  b_least_cost : Binds K A.d_least_cost ["road"] []
  m_least_cost : mg "least_cost" = some (.ref A.f_least_cost)
  F_cheapest : Fun K "cheapest" "cheapest" s_cheapest A.f_cheapest A.d_cheapest
  b_cheapest : Binds K A.d_cheapest ["road"] []
  m_cheapest : mg "cheapest" = some (.ref A.f_cheapest)
  F_costs_onward : Fun K "costs_onward" "costs_onward" s_costs_onward A.f_costs_onward A.d_costs_onward
  b_costs_onward : Binds K A.d_costs_onward ["road"] []
  m_costs_onward : mg "costs_onward" = some (.ref A.f_costs_onward)
  F_costs_at : Fun K "costs_at" "costs_at" s_costs_at A.f_costs_at A.d_costs_at
  b_costs_at : Binds K A.d_costs_at ["road", "station"] []
  m_costs_at : mg "costs_at" = some (.ref A.f_costs_at)
  F_cost_at : Fun K "cost_at" "cost_at" s_cost_at A.f_cost_at A.d_cost_at
  b_cost_at : Binds K A.d_cost_at ["road", "station", "height"] []
  m_cost_at : mg "cost_at" = some (.ref A.f_cost_at)
  F_costs_with_rest : Fun K "costs_with_rest" "costs_with_rest" s_costs_with_rest A.f_costs_with_rest A.d_costs_with_rest
  b_costs_with_rest : Binds K A.d_costs_with_rest ["costs", "rest", "grade"] []
  m_costs_with_rest : mg "costs_with_rest" = some (.ref A.f_costs_with_rest)
  F_best_step : Fun K "best_step" "best_step" s_best_step A.f_best_step A.d_best_step
  b_best_step : Binds K A.d_best_step ["costs", "height", "grade"] []
  m_best_step : mg "best_step" = some (.ref A.f_best_step)
  F_can : Fun K "can" "can" s_can A.f_can A.d_can
  b_can : Binds K A.d_can ["road"] []
  m_can : mg "can" = some (.ref A.f_can)
  F_cost : Fun K "cost" "cost" s_cost A.f_cost A.d_cost
  b_cost : Binds K A.d_cost ["road"] []
  m_cost : mg "cost" = some (.ref A.f_cost)
  F_line : Fun K "line" "line" s_line A.f_line A.d_line
  b_line : Binds K A.d_line ["road"] []
  m_line : mg "line" = some (.ref A.f_line)
  F_earth : Fun K "earth" "earth" s_earth A.f_earth A.d_earth
  b_earth : Binds K A.d_earth ["road"] []
  m_earth : mg "earth" = some (.ref A.f_earth)
  F_tried : Fun K "tried" "tried" s_tried A.f_tried A.d_tried
  b_tried : Binds K A.d_tried ["road", "row"] []
  m_tried : mg "tried" = some (.ref A.f_tried)
  F_steep : Fun K "steep" "steep" s_steep A.f_steep A.d_steep
  b_steep : Binds K A.d_steep ["road"] []
  m_steep : mg "steep" = some (.ref A.f_steep)
  F_flat : Fun K "flat" "flat" s_flat A.f_flat A.d_flat
  b_flat : Binds K A.d_flat ["road"] []
  m_flat : mg "flat" = some (.ref A.f_flat)
  F_longest_level : Fun K "longest_level" "longest_level" s_longest_level A.f_longest_level A.d_longest_level
  b_longest_level : Binds K A.d_longest_level ["row"] []
  m_longest_level : mg "longest_level" = some (.ref A.f_longest_level)
  F_station : Fun K "station" "station" s_station A.f_station A.d_station
  b_station : Binds K A.d_station ["road", "number"] []
  m_station : mg "station" = some (.ref A.f_station)
  F_profile : Fun K "profile" "profile" s_profile A.f_profile A.d_profile
  b_profile : Binds K A.d_profile ["road"] []
  m_profile : mg "profile" = some (.ref A.f_profile)
  F_state : Fun K "state" "state" s_state A.f_state A.d_state
  b_state : Binds K A.d_state ["road"] []
  m_state : mg "state" = some (.ref A.f_state)
  F_Road_init : Fun K "__init__" "Road.__init__" s_Road_init A.f_Road_init A.d_Road_init
  b_Road_init : Binds K A.d_Road_init ["self"] []
  F_Road_begun : Fun K "begun" "Road.begun" s_Road_begun A.f_Road_begun A.d_Road_begun
  b_Road_begun : Binds K A.d_Road_begun ["self"] []
  x_Road_begun : Meth K A.C_Road "begun" A.f_Road_begun
  F_Road_begin : Fun K "begin" "Road.begin" s_Road_begin A.f_Road_begin A.d_Road_begin
  b_Road_begin : Binds K A.d_Road_begin ["self", "heights"] []
  x_Road_begin : Meth K A.C_Road "begin" A.f_Road_begin
  F_Road_tell_ends : Fun K "tell_ends" "Road.tell_ends" s_Road_tell_ends A.f_Road_tell_ends A.d_Road_tell_ends
  b_Road_tell_ends : Binds K A.d_Road_tell_ends ["self", "first", "last"] []
  x_Road_tell_ends : Meth K A.C_Road "tell_ends" A.f_Road_tell_ends
  F_Road_change_grade : Fun K "change_grade" "Road.change_grade" s_Road_change_grade A.f_Road_change_grade A.d_Road_change_grade
  b_Road_change_grade : Binds K A.d_Road_change_grade ["self", "grade"] []
  x_Road_change_grade : Meth K A.C_Road "change_grade" A.f_Road_change_grade
  F_Road_change_prices : Fun K "change_prices" "Road.change_prices" s_Road_change_prices A.f_Road_change_prices A.d_Road_change_prices
  b_Road_change_prices : Binds K A.d_Road_change_prices ["self", "cut_price", "fill_price"] []
  x_Road_change_prices : Meth K A.C_Road "change_prices" A.f_Road_change_prices
  F_Road_change_ground : Fun K "change_ground" "Road.change_ground" s_Road_change_ground A.f_Road_change_ground A.d_Road_change_ground
  b_Road_change_ground : Binds K A.d_Road_change_ground ["self", "station", "height"] []
  x_Road_change_ground : Meth K A.C_Road "change_ground" A.f_Road_change_ground
  F_Road_fix : Fun K "fix" "Road.fix" s_Road_fix A.f_Road_fix A.d_Road_fix
  b_Road_fix : Binds K A.d_Road_fix ["self", "station", "height"] []
  x_Road_fix : Meth K A.C_Road "fix" A.f_Road_fix
  F_Road_free : Fun K "free" "Road.free" s_Road_free A.f_Road_free A.d_Road_free
  b_Road_free : Binds K A.d_Road_free ["self", "station"] []
  x_Road_free : Meth K A.C_Road "free" A.f_Road_free
  F_Road_copied : Fun K "copied" "Road.copied" s_Road_copied A.f_Road_copied A.d_Road_copied
  b_Road_copied : Binds K A.d_Road_copied ["self"] []
  x_Road_copied : Meth K A.C_Road "copied" A.f_Road_copied
  F_Road_told_stations : Fun K "told_stations" "Road.told_stations" s_Road_told_stations A.f_Road_told_stations A.d_Road_told_stations
  b_Road_told_stations : Binds K A.d_Road_told_stations ["self"] []
  x_Road_told_stations : Meth K A.C_Road "told_stations" A.f_Road_told_stations
  F_Road_one_more_than_told : Fun K "one_more_than_told" "Road.one_more_than_told" s_Road_one_more_than_told A.f_Road_one_more_than_told A.d_Road_one_more_than_told
  b_Road_one_more_than_told : Binds K A.d_Road_one_more_than_told ["self", "station"] []
  x_Road_one_more_than_told : Meth K A.C_Road "one_more_than_told" A.f_Road_one_more_than_told
  F_Road_has_station : Fun K "has_station" "Road.has_station" s_Road_has_station A.f_Road_has_station A.d_Road_has_station
  b_Road_has_station : Binds K A.d_Road_has_station ["self", "station"] []
  x_Road_has_station : Meth K A.C_Road "has_station" A.f_Road_has_station
  F_Road_is_end : Fun K "is_end" "Road.is_end" s_Road_is_end A.f_Road_is_end A.d_Road_is_end
  b_Road_is_end : Binds K A.d_Road_is_end ["self", "station"] []
  x_Road_is_end : Meth K A.C_Road "is_end" A.f_Road_is_end
  F_ifgrade : Fun K "ifgrade" "ifgrade" s_ifgrade A.f_ifgrade A.d_ifgrade
  b_ifgrade : Binds K A.d_ifgrade ["road", "grade"] []
  m_ifgrade : mg "ifgrade" = some (.ref A.f_ifgrade)
  F_through : Fun K "through" "through" s_through A.f_through A.d_through
  b_through : Binds K A.d_through ["road", "station", "height"] []
  m_through : mg "through" = some (.ref A.f_through)
  F_worth : Fun K "worth" "worth" s_worth A.f_worth A.d_worth
  b_worth : Binds K A.d_worth ["road", "station"] []
  m_worth : mg "worth" = some (.ref A.f_worth)
  F_answers : Fun K "answers" "answers" s_answers A.f_answers A.d_answers
  b_answers : Binds K A.d_answers ["calls"] []
  m_answers : mg "answers" = some (.ref A.f_answers)
  F_takes_row : Fun K "takes_row" "takes_row" s_takes_row A.f_takes_row A.d_takes_row
  b_takes_row : Binds K A.d_takes_row ["call"] []
  m_takes_row : mg "takes_row" = some (.ref A.f_takes_row)
  F_first_argument : Fun K "first_argument" "first_argument" s_first_argument A.f_first_argument A.d_first_argument
  b_first_argument : Binds K A.d_first_argument ["calls", "start"] []
  m_first_argument : mg "first_argument" = some (.ref A.f_first_argument)
  F_call_end : Fun K "call_end" "call_end" s_call_end A.f_call_end A.d_call_end
  b_call_end : Binds K A.d_call_end ["calls", "start"] []
  m_call_end : mg "call_end" = some (.ref A.f_call_end)
  F_answer_call : Fun K "answer_call" "answer_call" s_answer_call A.f_answer_call A.d_answer_call
  b_answer_call : Binds K A.d_answer_call ["road", "call", "given"] []
  m_answer_call : mg "answer_call" = some (.ref A.f_answer_call)
  F_answer_change : Fun K "answer_change" "answer_change" s_answer_change A.f_answer_change A.d_answer_change
  b_answer_change : Binds K A.d_answer_change ["road", "call", "given"] []
  m_answer_change : mg "answer_change" = some (.ref A.f_answer_change)
  F_answer_look : Fun K "answer_look" "answer_look" s_answer_look A.f_answer_look A.d_answer_look
  b_answer_look : Binds K A.d_answer_look ["road", "call", "given"] []
  m_answer_look : mg "answer_look" = some (.ref A.f_answer_look)
  F_answer_bare_look : Fun K "answer_bare_look" "answer_bare_look" s_answer_bare_look A.f_answer_bare_look A.d_answer_bare_look
  b_answer_bare_look : Binds K A.d_answer_bare_look ["road", "call"] []
  m_answer_bare_look : mg "answer_bare_look" = some (.ref A.f_answer_bare_look)
  cl_Road : Cls K A.C_Road
  m_Road : mg "Road" = some (.ref A.C_Road)
  k_Road : Mk K A.C_Road A.f_Road_init
  a_Road_cut_price : NoAttr K A.C_Road "cut_price"
  a_Road_fill_price : NoAttr K A.C_Road "fill_price"
  a_Road_grade : NoAttr K A.C_Road "grade"
  a_Road_ground : NoAttr K A.C_Road "ground"
  a_Road_told : NoAttr K A.C_Road "told"
  c_FEWEST_STATIONS : ∃ t, mg "FEWEST_STATIONS" = some (.int (2) t)
  c_MOST_STATIONS : ∃ t, mg "MOST_STATIONS" = some (.int (12) t)
  c_HIGHEST : ∃ t, mg "HIGHEST" = some (.int (40) t)
  c_STEEPEST : ∃ t, mg "STEEPEST" = some (.int (10) t)
  c_LEAST_PRICE : ∃ t, mg "LEAST_PRICE" = some (.int (1) t)
  c_DEAREST : ∃ t, mg "DEAREST" = some (.int (10) t)
  c_NO_STATION : ∃ t, mg "NO_STATION" = some (.int (-2) t)
  c_NONE_TOLD : ∃ t, mg "NONE_TOLD" = some (.int (-6) t)
  c_NOT_BEGUN : ∃ t, mg "NOT_BEGUN" = some (.int (-11) t)
  c_AN_END : ∃ t, mg "AN_END" = some (.int (-16) t)
  c_NONE_TOO_FAR : ∃ t, mg "NONE_TOO_FAR" = some (.int (-17) t)
  c_OUT_OF_RANGE : ∃ t, mg "OUT_OF_RANGE" = some (.int (-22) t)
  c_NO_LINE : ∃ t, mg "NO_LINE" = some (.int (-33) t)
  c_BEGIN : ∃ t, mg "BEGIN" = some (.int (0) t)
  c_ENDS : ∃ t, mg "ENDS" = some (.int (1) t)
  c_GRADE : ∃ t, mg "GRADE" = some (.int (2) t)
  c_PRICE : ∃ t, mg "PRICE" = some (.int (3) t)
  c_GROUND : ∃ t, mg "GROUND" = some (.int (4) t)
  c_FIX : ∃ t, mg "FIX" = some (.int (5) t)
  c_FREE : ∃ t, mg "FREE" = some (.int (6) t)
  c_CAN : ∃ t, mg "CAN" = some (.int (7) t)
  c_COST : ∃ t, mg "COST" = some (.int (8) t)
  c_LINE : ∃ t, mg "LINE" = some (.int (9) t)
  c_EARTH : ∃ t, mg "EARTH" = some (.int (10) t)
  c_TRIED : ∃ t, mg "TRIED" = some (.int (11) t)
  c_WHY : ∃ t, mg "WHY" = some (.int (12) t)
  c_LEASTGRADE : ∃ t, mg "LEASTGRADE" = some (.int (13) t)
  c_IFGRADE : ∃ t, mg "IFGRADE" = some (.int (14) t)
  c_BETWEEN : ∃ t, mg "BETWEEN" = some (.int (15) t)
  c_THROUGH : ∃ t, mg "THROUGH" = some (.int (16) t)
  c_WORTH : ∃ t, mg "WORTH" = some (.int (17) t)
  c_STEEP : ∃ t, mg "STEEP" = some (.int (18) t)
  c_FLAT : ∃ t, mg "FLAT" = some (.int (19) t)
  c_STATION : ∃ t, mg "STATION" = some (.int (20) t)
  c_PROFILE : ∃ t, mg "PROFILE" = some (.int (21) t)
  c_HOW_MANY_NUMBERS : mg "HOW_MANY_NUMBERS" = some (.ref A.a_HOW_MANY_NUMBERS)
  t_HOW_MANY_NUMBERS : ∀ H : Hp, SqT K H A.a_HOW_MANY_NUMBERS (([0, 2, 1, 2, 2, 2, 1, 0, 0, 0, 0, 0, 0, 0, 1, 1, 2, 1, 0, 0, 1, 0, 0] : List Int).map V.int)
  n_abs : mg "abs" = none
  n_all : mg "all" = none
  n_enumerate : mg "enumerate" = none
  n_len : mg "len" = none
  n_list : mg "list" = none
  n_max : mg "max" = none
  n_min : mg "min" = none
  n_range : mg "range" = none
  n_sum : mg "sum" = none
  n_zip : mg "zip" = none
set_option genInjectivity true
set_option genSizeOfSpec true
end LL

set_option Elab.async false
set_option linter.all false
set_option maxRecDepth 100000
set_option maxHeartbeats 0
lay_quick PySem.Challenge.pw_linelaid_s01_answers
namespace HD
open PySem PySem.W PyProof.Rows L2
abbrev P0 : Program := PySem.Challenge.pw_linelaid_s01_answers
def vS (s : String) (t : Tok) : Value := .str (Str.ofString s) t
def vI (i : Int) (t : Tok) : Value := .int i t
def vR (a : Addr) : Value := .ref a
def kE (P : Params) (s : String) (t : Tok) (v : Value) : DictEntry := { hash := PyData.keyHash P (Str.ofString s), key := .str (Str.ofString s) t, val := v }
def tp (p : Program) (i : Nat) : Stmt := p.main.body.getD i (.Pass ⟨0, 0, 0, 0⟩)
def fO (n q : String) (s : Stmt) (m : Value) (c : Addr) : Obj := ⟨.type "function", none, .func (fnOf (Str.ofString n) (Str.ofString q) (defArgs s) (defBody s) (defScope s) .none .none .none m none (.ref c) .none), #[]⟩
def e3 (p : Program) (P : Params) : Obj := { cls := Value.type "dict", data := Data.dict #[kE P "__name__" 165 (vS "linelaid.stations" 692), kE P "__doc__" 166 (Value.none), kE P "__package__" 167 (Value.none), kE P "__loader__" 168 (Value.builtin "__main__.__loader__#opaque"), kE P "__spec__" 169 (Value.none), kE P "__annotations__" 170 (vR 6), kE P "__builtins__" 171 (vR 4), kE P "__file__" 173 (vS "/claim/cut.py" 172), kE P "__cached__" 174 (Value.none), kE P "FEWEST_STATIONS" 190 (vI 2 189), kE P "MOST_STATIONS" 192 (vI 12 191), kE P "HIGHEST" 194 (vI 40 193), kE P "STEEPEST" 196 (vI 10 195), kE P "LEAST_PRICE" 198 (vI 1 197), kE P "DEAREST" 200 (vI 10 199), kE P "is_height" 207 (vR 21), kE P "are_heights" 213 (vR 26), kE P "is_price" 220 (vR 33), kE P "NO_STATION" 223 (Value.int (-2) 222), kE P "NONE_TOLD" 226 (Value.int (-6) 225), kE P "NOT_BEGUN" 229 (Value.int (-11) 228), kE P "AN_END" 232 (Value.int (-16) 231), kE P "NONE_TOO_FAR" 235 (Value.int (-17) 234), kE P "OUT_OF_RANGE" 238 (Value.int (-22) 237), kE P "NO_LINE" 241 (Value.int (-33) 240), kE P "why" 251 (vR 40), kE P "leastgrade" 259 (vR 47), kE P "between" 267 (vR 54), kE P "first_too_far" 278 (vR 61), kE P "is_too_far" 288 (vR 68), kE P "lowest" 294 (vR 73), kE P "highest" 300 (vR 78), kE P "reach" 309 (vR 85), kE P "is_line" 319 (vR 92), kE P "keeps_told" 325 (vR 97), kE P "keeps_grade" 331 (vR 102), kE P "cut_of" 337 (vR 107), kE P "filled_of" 343 (vR 112), kE P "cost_of" 351 (vR 119), kE P "least_cost" 359 (vR 126), kE P "cheapest" 370 (vR 133), kE P "costs_onward" 380 (vR 140), kE P "costs_at" 386 (vR 145), kE P "cost_at" 397 (vR 152), kE P "costs_with_rest" 410 (vR 159), kE P "best_step" 421 (vR 166), kE P "can" 430 (vR 173), kE P "cost" 438 (vR 180), kE P "line" 446 (vR 187), kE P "earth" 454 (vR 194), kE P "tried" 462 (vR 201), kE P "steep" 468 (vR 206), kE P "flat" 476 (vR 213), kE P "longest_level" 489 (vR 220), kE P "station" 499 (vR 227), kE P "profile" 506 (vR 234), kE P "state" 513 (vR 241), kE P "Road" 657 (vR 345), kE P "ifgrade" 668 (vR 356), kE P "through" 679 (vR 363), kE P "worth" 691 (vR 370), kE P "BEGIN" 695 (vI 0 694), kE P "ENDS" 697 (vI 1 696), kE P "GRADE" 699 (vI 2 698), kE P "PRICE" 701 (vI 3 700), kE P "GROUND" 703 (vI 4 702), kE P "FIX" 705 (vI 5 704), kE P "FREE" 707 (vI 6 706), kE P "CAN" 709 (vI 7 708), kE P "COST" 711 (vI 8 710), kE P "LINE" 713 (vI 9 712), kE P "EARTH" 715 (vI 10 714), kE P "TRIED" 717 (vI 11 716), kE P "WHY" 719 (vI 12 718), kE P "LEASTGRADE" 721 (vI 13 720), kE P "IFGRADE" 723 (vI 14 722), kE P "BETWEEN" 725 (vI 15 724), kE P "THROUGH" 727 (vI 16 726), kE P "WORTH" 729 (vI 17 728), kE P "STEEP" 731 (vI 18 730), kE P "FLAT" 733 (vI 19 732), kE P "STATION" 735 (vI 20 734), kE P "PROFILE" 737 (vI 21 736), kE P "HOW_MANY_NUMBERS" 761 (vR 371), kE P "answers" 774 (vR 378), kE P "takes_row" 781 (vR 385), kE P "first_argument" 789 (vR 392), kE P "call_end" 797 (vR 399), kE P "answer_call" 806 (vR 406), kE P "answer_change" 815 (vR 413), kE P "answer_look" 824 (vR 420), kE P "answer_bare_look" 832 (vR 427)] 92 }
def e20 (p : Program) (P : Params) : Obj := { cls := Value.type "code", data := Data.fields #[vS "is_height" 201, vS "is_height" 202, vS "/claim/cut.py" 203, vI 8 0, vI 1 0, vI 0 0, vI 0 0, vI 3 0, vR 15, Value.bool true, vI 181 0, vR 16, Value.none, vR 17, vR 18, vR 19, vI 205 0, vI 8 0, vS "/claim/cut.py" 206] }
def e21 (p : Program) (P : Params) : Obj := fO "is_height" "is_height" (tp p 7) (vS "linelaid.limits" 187) 20
def e25 (p : Program) (P : Params) : Obj := { cls := Value.type "code", data := Data.fields #[vS "are_heights" 208, vS "are_heights" 209, vS "/claim/cut.py" 210, vI 10 0, vI 1 0, vI 0 0, vI 0 0, vI 3 0, vR 22, Value.bool true, vI 181 0, vR 23, Value.none, Value.none, Value.none, vR 24, vI 211 0, vI 10 0, vS "/claim/cut.py" 212] }
def e26 (p : Program) (P : Params) : Obj := fO "are_heights" "are_heights" (tp p 8) (vS "linelaid.limits" 187) 25
def e32 (p : Program) (P : Params) : Obj := { cls := Value.type "code", data := Data.fields #[vS "is_price" 214, vS "is_price" 215, vS "/claim/cut.py" 216, vI 12 0, vI 1 0, vI 0 0, vI 0 0, vI 3 0, vR 27, Value.bool true, vI 181 0, vR 28, Value.none, vR 29, vR 30, vR 31, vI 218 0, vI 12 0, vS "/claim/cut.py" 219] }
def e33 (p : Program) (P : Params) : Obj := fO "is_price" "is_price" (tp p 9) (vS "linelaid.limits" 187) 32
def e39 (p : Program) (P : Params) : Obj := { cls := Value.type "code", data := Data.fields #[vS "why" 244, vS "why" 245, vS "/claim/cut.py" 246, vI 22 0, vI 1 0, vI 0 0, vI 0 0, vI 3 0, vR 34, Value.bool true, vI 181 0, vR 35, Value.none, vR 36, vR 37, vR 38, vI 249 0, vI 22 0, vS "/claim/cut.py" 250] }
def e40 (p : Program) (P : Params) : Obj := fO "why" "why" (tp p 18) (vS "linelaid.bounds" 242) 39
def e46 (p : Program) (P : Params) : Obj := { cls := Value.type "code", data := Data.fields #[vS "leastgrade" 252, vS "leastgrade" 253, vS "/claim/cut.py" 254, vI 27 0, vI 1 0, vI 0 0, vI 0 0, vI 3 0, vR 41, Value.bool true, vI 181 0, vR 42, Value.none, vR 43, vR 44, vR 45, vI 257 0, vI 27 0, vS "/claim/cut.py" 258] }
def e47 (p : Program) (P : Params) : Obj := fO "leastgrade" "leastgrade" (tp p 19) (vS "linelaid.bounds" 242) 46
def e53 (p : Program) (P : Params) : Obj := { cls := Value.type "code", data := Data.fields #[vS "between" 260, vS "between" 261, vS "/claim/cut.py" 262, vI 32 0, vI 2 0, vI 0 0, vI 0 0, vI 3 0, vR 48, Value.bool true, vI 181 0, vR 49, Value.none, vR 50, vR 51, vR 52, vI 265 0, vI 32 0, vS "/claim/cut.py" 266] }
def e54 (p : Program) (P : Params) : Obj := fO "between" "between" (tp p 20) (vS "linelaid.bounds" 242) 53
def e60 (p : Program) (P : Params) : Obj := { cls := Value.type "code", data := Data.fields #[vS "first_too_far" 268, vS "first_too_far" 269, vS "/claim/cut.py" 270, vI 38 0, vI 2 0, vI 0 0, vI 0 0, vI 3 0, vR 55, Value.bool true, vI 181 0, vR 56, Value.none, vR 57, vR 58, vR 59, vI 276 0, vI 38 0, vS "/claim/cut.py" 277] }
def e61 (p : Program) (P : Params) : Obj := fO "first_too_far" "first_too_far" (tp p 21) (vS "linelaid.bounds" 242) 60
def e67 (p : Program) (P : Params) : Obj := { cls := Value.type "code", data := Data.fields #[vS "is_too_far" 279, vS "is_too_far" 280, vS "/claim/cut.py" 281, vI 45 0, vI 4 0, vI 0 0, vI 0 0, vI 3 0, vR 62, Value.bool true, vI 181 0, vR 63, Value.none, vR 64, vR 65, vR 66, vI 286 0, vI 45 0, vS "/claim/cut.py" 287] }
def e68 (p : Program) (P : Params) : Obj := fO "is_too_far" "is_too_far" (tp p 22) (vS "linelaid.bounds" 242) 67
def e72 (p : Program) (P : Params) : Obj := { cls := Value.type "code", data := Data.fields #[vS "lowest" 289, vS "lowest" 290, vS "/claim/cut.py" 291, vI 47 0, vI 2 0, vI 0 0, vI 0 0, vI 3 0, vR 69, Value.bool true, vI 181 0, vR 70, Value.none, Value.none, Value.none, vR 71, vI 292 0, vI 47 0, vS "/claim/cut.py" 293] }
def e73 (p : Program) (P : Params) : Obj := fO "lowest" "lowest" (tp p 23) (vS "linelaid.bounds" 242) 72
def e77 (p : Program) (P : Params) : Obj := { cls := Value.type "code", data := Data.fields #[vS "highest" 295, vS "highest" 296, vS "/claim/cut.py" 297, vI 50 0, vI 2 0, vI 0 0, vI 0 0, vI 3 0, vR 74, Value.bool true, vI 181 0, vR 75, Value.none, Value.none, Value.none, vR 76, vI 298 0, vI 50 0, vS "/claim/cut.py" 299] }
def e78 (p : Program) (P : Params) : Obj := fO "highest" "highest" (tp p 24) (vS "linelaid.bounds" 242) 77
def e84 (p : Program) (P : Params) : Obj := { cls := Value.type "code", data := Data.fields #[vS "reach" 301, vS "reach" 302, vS "/claim/cut.py" 303, vI 53 0, vI 3 0, vI 0 0, vI 0 0, vI 3 0, vR 79, Value.bool true, vI 181 0, vR 80, Value.none, vR 81, vR 82, vR 83, vI 307 0, vI 53 0, vS "/claim/cut.py" 308] }
def e85 (p : Program) (P : Params) : Obj := fO "reach" "reach" (tp p 25) (vS "linelaid.bounds" 242) 84
def e91 (p : Program) (P : Params) : Obj := { cls := Value.type "code", data := Data.fields #[vS "is_line" 312, vS "is_line" 313, vS "/claim/cut.py" 314, vI 56 0, vI 2 0, vI 0 0, vI 0 0, vI 3 0, vR 86, Value.bool true, vI 181 0, vR 87, Value.none, vR 88, vR 89, vR 90, vI 317 0, vI 56 0, vS "/claim/cut.py" 318] }
def e92 (p : Program) (P : Params) : Obj := fO "is_line" "is_line" (tp p 27) (vS "linelaid.lines" 310) 91
def e96 (p : Program) (P : Params) : Obj := { cls := Value.type "code", data := Data.fields #[vS "keeps_told" 320, vS "keeps_told" 321, vS "/claim/cut.py" 322, vI 58 0, vI 2 0, vI 0 0, vI 0 0, vI 3 0, vR 93, Value.bool true, vI 181 0, vR 94, Value.none, Value.none, Value.none, vR 95, vI 323 0, vI 58 0, vS "/claim/cut.py" 324] }
def e97 (p : Program) (P : Params) : Obj := fO "keeps_told" "keeps_told" (tp p 28) (vS "linelaid.lines" 310) 96
def e101 (p : Program) (P : Params) : Obj := { cls := Value.type "code", data := Data.fields #[vS "keeps_grade" 326, vS "keeps_grade" 327, vS "/claim/cut.py" 328, vI 60 0, vI 2 0, vI 0 0, vI 0 0, vI 3 0, vR 98, Value.bool true, vI 181 0, vR 99, Value.none, Value.none, Value.none, vR 100, vI 329 0, vI 60 0, vS "/claim/cut.py" 330] }
def e102 (p : Program) (P : Params) : Obj := fO "keeps_grade" "keeps_grade" (tp p 29) (vS "linelaid.lines" 310) 101
def e106 (p : Program) (P : Params) : Obj := { cls := Value.type "code", data := Data.fields #[vS "cut_of" 332, vS "cut_of" 333, vS "/claim/cut.py" 334, vI 62 0, vI 2 0, vI 0 0, vI 0 0, vI 3 0, vR 103, Value.bool true, vI 181 0, vR 104, Value.none, Value.none, Value.none, vR 105, vI 335 0, vI 62 0, vS "/claim/cut.py" 336] }
def e107 (p : Program) (P : Params) : Obj := fO "cut_of" "cut_of" (tp p 30) (vS "linelaid.lines" 310) 106
def e111 (p : Program) (P : Params) : Obj := { cls := Value.type "code", data := Data.fields #[vS "filled_of" 338, vS "filled_of" 339, vS "/claim/cut.py" 340, vI 64 0, vI 2 0, vI 0 0, vI 0 0, vI 3 0, vR 108, Value.bool true, vI 181 0, vR 109, Value.none, Value.none, Value.none, vR 110, vI 341 0, vI 64 0, vS "/claim/cut.py" 342] }
def e112 (p : Program) (P : Params) : Obj := fO "filled_of" "filled_of" (tp p 31) (vS "linelaid.lines" 310) 111
def e118 (p : Program) (P : Params) : Obj := { cls := Value.type "code", data := Data.fields #[vS "cost_of" 344, vS "cost_of" 345, vS "/claim/cut.py" 346, vI 66 0, vI 2 0, vI 0 0, vI 0 0, vI 3 0, vR 113, Value.bool true, vI 181 0, vR 114, Value.none, vR 115, vR 116, vR 117, vI 349 0, vI 66 0, vS "/claim/cut.py" 350] }
def e119 (p : Program) (P : Params) : Obj := fO "cost_of" "cost_of" (tp p 32) (vS "linelaid.lines" 310) 118
def e125 (p : Program) (P : Params) : Obj := { cls := Value.type "code", data := Data.fields #[vS "least_cost" 352, vS "least_cost" 353, vS "/claim/cut.py" 354, vI 68 0, vI 1 0, vI 0 0, vI 0 0, vI 3 0, vR 120, Value.bool true, vI 181 0, vR 121, Value.none, vR 122, vR 123, vR 124, vI 357 0, vI 68 0, vS "/claim/cut.py" 358] }
def e126 (p : Program) (P : Params) : Obj := fO "least_cost" "least_cost" (tp p 33) (vS "linelaid.lines" 310) 125
def e132 (p : Program) (P : Params) : Obj := { cls := Value.type "code", data := Data.fields #[vS "cheapest" 360, vS "cheapest" 361, vS "/claim/cut.py" 362, vI 71 0, vI 1 0, vI 0 0, vI 0 0, vI 3 0, vR 127, Value.bool true, vI 181 0, vR 128, Value.none, vR 129, vR 130, vR 131, vI 368 0, vI 71 0, vS "/claim/cut.py" 369] }
def e133 (p : Program) (P : Params) : Obj := fO "cheapest" "cheapest" (tp p 34) (vS "linelaid.lines" 310) 132
def e139 (p : Program) (P : Params) : Obj := { cls := Value.type "code", data := Data.fields #[vS "costs_onward" 371, vS "costs_onward" 372, vS "/claim/cut.py" 373, vI 81 0, vI 1 0, vI 0 0, vI 0 0, vI 3 0, vR 134, Value.bool true, vI 181 0, vR 135, Value.none, vR 136, vR 137, vR 138, vI 378 0, vI 81 0, vS "/claim/cut.py" 379] }
def e140 (p : Program) (P : Params) : Obj := fO "costs_onward" "costs_onward" (tp p 35) (vS "linelaid.lines" 310) 139
def e144 (p : Program) (P : Params) : Obj := { cls := Value.type "code", data := Data.fields #[vS "costs_at" 381, vS "costs_at" 382, vS "/claim/cut.py" 383, vI 87 0, vI 2 0, vI 0 0, vI 0 0, vI 3 0, vR 141, Value.bool true, vI 181 0, vR 142, Value.none, Value.none, Value.none, vR 143, vI 384 0, vI 87 0, vS "/claim/cut.py" 385] }
def e145 (p : Program) (P : Params) : Obj := fO "costs_at" "costs_at" (tp p 36) (vS "linelaid.lines" 310) 144
def e151 (p : Program) (P : Params) : Obj := { cls := Value.type "code", data := Data.fields #[vS "cost_at" 387, vS "cost_at" 388, vS "/claim/cut.py" 389, vI 89 0, vI 3 0, vI 0 0, vI 0 0, vI 3 0, vR 146, Value.bool true, vI 181 0, vR 147, Value.none, vR 148, vR 149, vR 150, vI 395 0, vI 89 0, vS "/claim/cut.py" 396] }
def e152 (p : Program) (P : Params) : Obj := fO "cost_at" "cost_at" (tp p 37) (vS "linelaid.lines" 310) 151
def e158 (p : Program) (P : Params) : Obj := { cls := Value.type "code", data := Data.fields #[vS "costs_with_rest" 398, vS "costs_with_rest" 399, vS "/claim/cut.py" 400, vI 97 0, vI 3 0, vI 0 0, vI 0 0, vI 3 0, vR 153, Value.bool true, vI 181 0, vR 154, Value.none, vR 155, vR 156, vR 157, vI 408 0, vI 97 0, vS "/claim/cut.py" 409] }
def e159 (p : Program) (P : Params) : Obj := fO "costs_with_rest" "costs_with_rest" (tp p 38) (vS "linelaid.lines" 310) 158
def e165 (p : Program) (P : Params) : Obj := { cls := Value.type "code", data := Data.fields #[vS "best_step" 411, vS "best_step" 412, vS "/claim/cut.py" 413, vI 103 0, vI 3 0, vI 0 0, vI 0 0, vI 3 0, vR 160, Value.bool true, vI 181 0, vR 161, Value.none, vR 162, vR 163, vR 164, vI 419 0, vI 103 0, vS "/claim/cut.py" 420] }
def e166 (p : Program) (P : Params) : Obj := fO "best_step" "best_step" (tp p 39) (vS "linelaid.lines" 310) 165
def e172 (p : Program) (P : Params) : Obj := { cls := Value.type "code", data := Data.fields #[vS "can" 424, vS "can" 425, vS "/claim/cut.py" 426, vI 110 0, vI 1 0, vI 0 0, vI 0 0, vI 3 0, vR 167, Value.bool true, vI 181 0, vR 168, Value.none, vR 169, vR 170, vR 171, vI 428 0, vI 110 0, vS "/claim/cut.py" 429] }
def e173 (p : Program) (P : Params) : Obj := fO "can" "can" (tp p 41) (vS "linelaid.looks" 422) 172
def e179 (p : Program) (P : Params) : Obj := { cls := Value.type "code", data := Data.fields #[vS "cost" 431, vS "cost" 432, vS "/claim/cut.py" 433, vI 112 0, vI 1 0, vI 0 0, vI 0 0, vI 3 0, vR 174, Value.bool true, vI 181 0, vR 175, Value.none, vR 176, vR 177, vR 178, vI 436 0, vI 112 0, vS "/claim/cut.py" 437] }
def e180 (p : Program) (P : Params) : Obj := fO "cost" "cost" (tp p 42) (vS "linelaid.looks" 422) 179
def e186 (p : Program) (P : Params) : Obj := { cls := Value.type "code", data := Data.fields #[vS "line" 439, vS "line" 440, vS "/claim/cut.py" 441, vI 115 0, vI 1 0, vI 0 0, vI 0 0, vI 3 0, vR 181, Value.bool true, vI 181 0, vR 182, Value.none, vR 183, vR 184, vR 185, vI 444 0, vI 115 0, vS "/claim/cut.py" 445] }
def e187 (p : Program) (P : Params) : Obj := fO "line" "line" (tp p 43) (vS "linelaid.looks" 422) 186
def e193 (p : Program) (P : Params) : Obj := { cls := Value.type "code", data := Data.fields #[vS "earth" 447, vS "earth" 448, vS "/claim/cut.py" 449, vI 120 0, vI 1 0, vI 0 0, vI 0 0, vI 3 0, vR 188, Value.bool true, vI 181 0, vR 189, Value.none, vR 190, vR 191, vR 192, vI 452 0, vI 120 0, vS "/claim/cut.py" 453] }
def e194 (p : Program) (P : Params) : Obj := fO "earth" "earth" (tp p 44) (vS "linelaid.looks" 422) 193
def e200 (p : Program) (P : Params) : Obj := { cls := Value.type "code", data := Data.fields #[vS "tried" 455, vS "tried" 456, vS "/claim/cut.py" 457, vI 125 0, vI 2 0, vI 0 0, vI 0 0, vI 3 0, vR 195, Value.bool true, vI 181 0, vR 196, Value.none, vR 197, vR 198, vR 199, vI 460 0, vI 125 0, vS "/claim/cut.py" 461] }
def e201 (p : Program) (P : Params) : Obj := fO "tried" "tried" (tp p 45) (vS "linelaid.looks" 422) 200
def e205 (p : Program) (P : Params) : Obj := { cls := Value.type "code", data := Data.fields #[vS "steep" 463, vS "steep" 464, vS "/claim/cut.py" 465, vI 131 0, vI 1 0, vI 0 0, vI 0 0, vI 3 0, vR 202, Value.bool true, vI 181 0, vR 203, Value.none, Value.none, Value.none, vR 204, vI 466 0, vI 131 0, vS "/claim/cut.py" 467] }
def e206 (p : Program) (P : Params) : Obj := fO "steep" "steep" (tp p 46) (vS "linelaid.looks" 422) 205
def e212 (p : Program) (P : Params) : Obj := { cls := Value.type "code", data := Data.fields #[vS "flat" 469, vS "flat" 470, vS "/claim/cut.py" 471, vI 137 0, vI 1 0, vI 0 0, vI 0 0, vI 3 0, vR 207, Value.bool true, vI 181 0, vR 208, Value.none, vR 209, vR 210, vR 211, vI 474 0, vI 137 0, vS "/claim/cut.py" 475] }
def e213 (p : Program) (P : Params) : Obj := fO "flat" "flat" (tp p 47) (vS "linelaid.looks" 422) 212
def e219 (p : Program) (P : Params) : Obj := { cls := Value.type "code", data := Data.fields #[vS "longest_level" 477, vS "longest_level" 478, vS "/claim/cut.py" 479, vI 142 0, vI 1 0, vI 0 0, vI 0 0, vI 3 0, vR 214, Value.bool true, vI 181 0, vR 215, Value.none, vR 216, vR 217, vR 218, vI 487 0, vI 142 0, vS "/claim/cut.py" 488] }
def e220 (p : Program) (P : Params) : Obj := fO "longest_level" "longest_level" (tp p 48) (vS "linelaid.looks" 422) 219
def e226 (p : Program) (P : Params) : Obj := { cls := Value.type "code", data := Data.fields #[vS "station" 492, vS "station" 493, vS "/claim/cut.py" 494, vI 155 0, vI 2 0, vI 0 0, vI 0 0, vI 3 0, vR 221, Value.bool true, vI 181 0, vR 222, Value.none, vR 223, vR 224, vR 225, vI 497 0, vI 155 0, vS "/claim/cut.py" 498] }
def e227 (p : Program) (P : Params) : Obj := fO "station" "station" (tp p 50) (vS "linelaid.records" 490) 226
def e233 (p : Program) (P : Params) : Obj := { cls := Value.type "code", data := Data.fields #[vS "profile" 500, vS "profile" 501, vS "/claim/cut.py" 502, vI 159 0, vI 1 0, vI 0 0, vI 0 0, vI 3 0, vR 228, Value.bool true, vI 181 0, vR 229, Value.none, vR 230, vR 231, vR 232, vI 504 0, vI 159 0, vS "/claim/cut.py" 505] }
def e234 (p : Program) (P : Params) : Obj := fO "profile" "profile" (tp p 51) (vS "linelaid.records" 490) 233
def e240 (p : Program) (P : Params) : Obj := { cls := Value.type "code", data := Data.fields #[vS "state" 507, vS "state" 508, vS "/claim/cut.py" 509, vI 161 0, vI 1 0, vI 0 0, vI 0 0, vI 3 0, vR 235, Value.bool true, vI 181 0, vR 236, Value.none, vR 237, vR 238, vR 239, vI 511 0, vI 161 0, vS "/claim/cut.py" 512] }
def e241 (p : Program) (P : Params) : Obj := fO "state" "state" (tp p 52) (vS "linelaid.records" 490) 240
def e254 (p : Program) (P : Params) : Obj := { cls := Value.type "code", data := Data.fields #[vS "__init__" 528, vS "Road.__init__" 529, vS "/claim/cut.py" 530, vI 166 0, vI 1 0, vI 0 0, vI 0 0, vI 3 0, vR 249, Value.bool true, vI 181 0, vR 250, Value.none, vR 251, vR 252, vR 253, vI 532 0, vI 166 0, vS "/claim/cut.py" 533] }
def e255 (p : Program) (P : Params) : Obj := fO "__init__" "Road.__init__" (L2.inClass (tp p 54) 0) (vS "linelaid.roads" 514) 254
def e261 (p : Program) (P : Params) : Obj := { cls := Value.type "code", data := Data.fields #[vS "begun" 535, vS "Road.begun" 536, vS "/claim/cut.py" 537, vI 173 0, vI 1 0, vI 0 0, vI 0 0, vI 3 0, vR 256, Value.bool true, vI 181 0, vR 257, Value.none, vR 258, vR 259, vR 260, vI 539 0, vI 173 0, vS "/claim/cut.py" 540] }
def e262 (p : Program) (P : Params) : Obj := fO "begun" "Road.begun" (L2.inClass (tp p 54) 1) (vS "linelaid.roads" 514) 261
def e266 (p : Program) (P : Params) : Obj := { cls := Value.type "code", data := Data.fields #[vS "begin" 542, vS "Road.begin" 543, vS "/claim/cut.py" 544, vI 176 0, vI 2 0, vI 0 0, vI 0 0, vI 3 0, vR 263, Value.bool true, vI 181 0, vR 264, Value.none, Value.none, Value.none, vR 265, vI 545 0, vI 176 0, vS "/claim/cut.py" 546] }
def e267 (p : Program) (P : Params) : Obj := fO "begin" "Road.begin" (L2.inClass (tp p 54) 2) (vS "linelaid.roads" 514) 266
def e273 (p : Program) (P : Params) : Obj := { cls := Value.type "code", data := Data.fields #[vS "tell_ends" 548, vS "Road.tell_ends" 549, vS "/claim/cut.py" 550, vI 188 0, vI 3 0, vI 0 0, vI 0 0, vI 3 0, vR 268, Value.bool true, vI 181 0, vR 269, Value.none, vR 270, vR 271, vR 272, vI 555 0, vI 188 0, vS "/claim/cut.py" 556] }
def e274 (p : Program) (P : Params) : Obj := fO "tell_ends" "Road.tell_ends" (L2.inClass (tp p 54) 3) (vS "linelaid.roads" 514) 273
def e280 (p : Program) (P : Params) : Obj := { cls := Value.type "code", data := Data.fields #[vS "change_grade" 558, vS "Road.change_grade" 559, vS "/claim/cut.py" 560, vI 196 0, vI 2 0, vI 0 0, vI 0 0, vI 3 0, vR 275, Value.bool true, vI 181 0, vR 276, Value.none, vR 277, vR 278, vR 279, vI 564 0, vI 196 0, vS "/claim/cut.py" 565] }
def e281 (p : Program) (P : Params) : Obj := fO "change_grade" "Road.change_grade" (L2.inClass (tp p 54) 4) (vS "linelaid.roads" 514) 280
def e287 (p : Program) (P : Params) : Obj := { cls := Value.type "code", data := Data.fields #[vS "change_prices" 567, vS "Road.change_prices" 568, vS "/claim/cut.py" 569, vI 203 0, vI 3 0, vI 0 0, vI 0 0, vI 3 0, vR 282, Value.bool true, vI 181 0, vR 283, Value.none, vR 284, vR 285, vR 286, vI 574 0, vI 203 0, vS "/claim/cut.py" 575] }
def e288 (p : Program) (P : Params) : Obj := fO "change_prices" "Road.change_prices" (L2.inClass (tp p 54) 5) (vS "linelaid.roads" 514) 287
def e294 (p : Program) (P : Params) : Obj := { cls := Value.type "code", data := Data.fields #[vS "change_ground" 577, vS "Road.change_ground" 578, vS "/claim/cut.py" 579, vI 211 0, vI 3 0, vI 0 0, vI 0 0, vI 3 0, vR 289, Value.bool true, vI 181 0, vR 290, Value.none, vR 291, vR 292, vR 293, vI 584 0, vI 211 0, vS "/claim/cut.py" 585] }
def e295 (p : Program) (P : Params) : Obj := fO "change_ground" "Road.change_ground" (L2.inClass (tp p 54) 6) (vS "linelaid.roads" 514) 294
def e301 (p : Program) (P : Params) : Obj := { cls := Value.type "code", data := Data.fields #[vS "fix" 587, vS "Road.fix" 588, vS "/claim/cut.py" 589, vI 220 0, vI 3 0, vI 0 0, vI 0 0, vI 3 0, vR 296, Value.bool true, vI 181 0, vR 297, Value.none, vR 298, vR 299, vR 300, vI 594 0, vI 220 0, vS "/claim/cut.py" 595] }
def e302 (p : Program) (P : Params) : Obj := fO "fix" "Road.fix" (L2.inClass (tp p 54) 7) (vS "linelaid.roads" 514) 301
def e308 (p : Program) (P : Params) : Obj := { cls := Value.type "code", data := Data.fields #[vS "free" 597, vS "Road.free" 598, vS "/claim/cut.py" 599, vI 231 0, vI 2 0, vI 0 0, vI 0 0, vI 3 0, vR 303, Value.bool true, vI 181 0, vR 304, Value.none, vR 305, vR 306, vR 307, vI 603 0, vI 231 0, vS "/claim/cut.py" 604] }
def e309 (p : Program) (P : Params) : Obj := fO "free" "Road.free" (L2.inClass (tp p 54) 8) (vS "linelaid.roads" 514) 308
def e315 (p : Program) (P : Params) : Obj := { cls := Value.type "code", data := Data.fields #[vS "copied" 606, vS "Road.copied" 607, vS "/claim/cut.py" 608, vI 242 0, vI 1 0, vI 0 0, vI 0 0, vI 3 0, vR 310, Value.bool true, vI 181 0, vR 311, Value.none, vR 312, vR 313, vR 314, vI 611 0, vI 242 0, vS "/claim/cut.py" 612] }
def e316 (p : Program) (P : Params) : Obj := fO "copied" "Road.copied" (L2.inClass (tp p 54) 9) (vS "linelaid.roads" 514) 315
def e320 (p : Program) (P : Params) : Obj := { cls := Value.type "code", data := Data.fields #[vS "told_stations" 614, vS "Road.told_stations" 615, vS "/claim/cut.py" 616, vI 251 0, vI 1 0, vI 0 0, vI 0 0, vI 3 0, vR 317, Value.bool true, vI 181 0, vR 318, Value.none, Value.none, Value.none, vR 319, vI 617 0, vI 251 0, vS "/claim/cut.py" 618] }
def e321 (p : Program) (P : Params) : Obj := fO "told_stations" "Road.told_stations" (L2.inClass (tp p 54) 10) (vS "linelaid.roads" 514) 320
def e327 (p : Program) (P : Params) : Obj := { cls := Value.type "code", data := Data.fields #[vS "one_more_than_told" 620, vS "Road.one_more_than_told" 621, vS "/claim/cut.py" 622, vI 254 0, vI 2 0, vI 0 0, vI 0 0, vI 3 0, vR 322, Value.bool true, vI 181 0, vR 323, Value.none, vR 324, vR 325, vR 326, vI 626 0, vI 254 0, vS "/claim/cut.py" 627] }
def e328 (p : Program) (P : Params) : Obj := fO "one_more_than_told" "Road.one_more_than_told" (L2.inClass (tp p 54) 11) (vS "linelaid.roads" 514) 327
def e334 (p : Program) (P : Params) : Obj := { cls := Value.type "code", data := Data.fields #[vS "has_station" 629, vS "Road.has_station" 630, vS "/claim/cut.py" 631, vI 258 0, vI 2 0, vI 0 0, vI 0 0, vI 3 0, vR 329, Value.bool true, vI 181 0, vR 330, Value.none, vR 331, vR 332, vR 333, vI 634 0, vI 258 0, vS "/claim/cut.py" 635] }
def e335 (p : Program) (P : Params) : Obj := fO "has_station" "Road.has_station" (L2.inClass (tp p 54) 12) (vS "linelaid.roads" 514) 334
def e341 (p : Program) (P : Params) : Obj := { cls := Value.type "code", data := Data.fields #[vS "is_end" 637, vS "Road.is_end" 638, vS "/claim/cut.py" 639, vI 261 0, vI 2 0, vI 0 0, vI 0 0, vI 3 0, vR 336, Value.bool true, vI 181 0, vR 337, Value.none, vR 338, vR 339, vR 340, vI 642 0, vI 261 0, vS "/claim/cut.py" 643] }
def e342 (p : Program) (P : Params) : Obj := fO "is_end" "Road.is_end" (L2.inClass (tp p 54) 13) (vS "linelaid.roads" 514) 341
def e344 (p : Program) (P : Params) : Obj := { cls := Value.type "dict", data := Data.dict #[kE P "__module__" 523 (vS "linelaid.roads" 514), kE P "__firstlineno__" 527 (vI 164 526), kE P "__init__" 534 (vR 255), kE P "begun" 541 (vR 262), kE P "begin" 547 (vR 267), kE P "tell_ends" 557 (vR 274), kE P "change_grade" 566 (vR 281), kE P "change_prices" 576 (vR 288), kE P "change_ground" 586 (vR 295), kE P "fix" 596 (vR 302), kE P "free" 605 (vR 309), kE P "copied" 613 (vR 316), kE P "told_stations" 619 (vR 321), kE P "one_more_than_told" 628 (vR 328), kE P "has_station" 636 (vR 335), kE P "is_end" 644 (vR 342), kE P "__static_attributes__" 650 (vR 343), kE P "__dict__" 652 (vR 346), kE P "__weakref__" 654 (vR 347), kE P "__doc__" 655 (Value.none)] 4 }
def e345 (p : Program) (P : Params) : Obj := { cls := Value.type "type", data := Data.cls { name := Str.ofString "Road", bases := [Value.type "object"], mro := [vR 345, Value.type "object"], ns := 344, qualname := Str.ofString "Road" }, slots := #[none, none, some (vS "Road" 516), some (vS "Road" 524), some (Value.builtin "object.__new__"), some (Value.bool true)] }
def e355 (p : Program) (P : Params) : Obj := { cls := Value.type "code", data := Data.fields #[vS "ifgrade" 660, vS "ifgrade" 661, vS "/claim/cut.py" 662, vI 264 0, vI 2 0, vI 0 0, vI 0 0, vI 3 0, vR 350, Value.bool true, vI 181 0, vR 351, Value.none, vR 352, vR 353, vR 354, vI 666 0, vI 264 0, vS "/claim/cut.py" 667] }
def e356 (p : Program) (P : Params) : Obj := fO "ifgrade" "ifgrade" (tp p 56) (vS "linelaid.what_if" 658) 355
def e362 (p : Program) (P : Params) : Obj := { cls := Value.type "code", data := Data.fields #[vS "through" 669, vS "through" 670, vS "/claim/cut.py" 671, vI 270 0, vI 3 0, vI 0 0, vI 0 0, vI 3 0, vR 357, Value.bool true, vI 181 0, vR 358, Value.none, vR 359, vR 360, vR 361, vI 677 0, vI 270 0, vS "/claim/cut.py" 678] }
def e363 (p : Program) (P : Params) : Obj := fO "through" "through" (tp p 57) (vS "linelaid.what_if" 658) 362
def e369 (p : Program) (P : Params) : Obj := { cls := Value.type "code", data := Data.fields #[vS "worth" 680, vS "worth" 681, vS "/claim/cut.py" 682, vI 281 0, vI 2 0, vI 0 0, vI 0 0, vI 3 0, vR 364, Value.bool true, vI 181 0, vR 365, Value.none, vR 366, vR 367, vR 368, vI 689 0, vI 281 0, vS "/claim/cut.py" 690] }
def e370 (p : Program) (P : Params) : Obj := fO "worth" "worth" (tp p 58) (vS "linelaid.what_if" 658) 369
def e371 (p : Program) (P : Params) : Obj := { cls := Value.type "tuple", data := Data.seq #[vI 0 738, vI 2 739, vI 1 740, vI 2 741, vI 2 742, vI 2 743, vI 1 744, vI 0 745, vI 0 746, vI 0 747, vI 0 748, vI 0 749, vI 0 750, vI 0 751, vI 1 752, vI 1 753, vI 2 754, vI 1 755, vI 0 756, vI 0 757, vI 1 758, vI 0 759, vI 0 760] }
def e377 (p : Program) (P : Params) : Obj := { cls := Value.type "code", data := Data.fields #[vS "answers" 762, vS "answers" 763, vS "/claim/cut.py" 764, vI 315 0, vI 1 0, vI 0 0, vI 0 0, vI 3 0, vR 372, Value.bool true, vI 181 0, vR 373, Value.none, vR 374, vR 375, vR 376, vI 772 0, vI 315 0, vS "/claim/cut.py" 773] }
def e378 (p : Program) (P : Params) : Obj := fO "answers" "answers" (tp p 83) (vS "linelaid.stations" 692) 377
def e384 (p : Program) (P : Params) : Obj := { cls := Value.type "code", data := Data.fields #[vS "takes_row" 775, vS "takes_row" 776, vS "/claim/cut.py" 777, vI 327 0, vI 1 0, vI 0 0, vI 0 0, vI 3 0, vR 379, Value.bool true, vI 181 0, vR 380, Value.none, vR 381, vR 382, vR 383, vI 779 0, vI 327 0, vS "/claim/cut.py" 780] }
def e385 (p : Program) (P : Params) : Obj := fO "takes_row" "takes_row" (tp p 84) (vS "linelaid.stations" 692) 384
def e391 (p : Program) (P : Params) : Obj := { cls := Value.type "code", data := Data.fields #[vS "first_argument" 782, vS "first_argument" 783, vS "/claim/cut.py" 784, vI 329 0, vI 2 0, vI 0 0, vI 0 0, vI 3 0, vR 386, Value.bool true, vI 181 0, vR 387, Value.none, vR 388, vR 389, vR 390, vI 787 0, vI 329 0, vS "/claim/cut.py" 788] }
def e392 (p : Program) (P : Params) : Obj := fO "first_argument" "first_argument" (tp p 85) (vS "linelaid.stations" 692) 391
def e398 (p : Program) (P : Params) : Obj := { cls := Value.type "code", data := Data.fields #[vS "call_end" 790, vS "call_end" 791, vS "/claim/cut.py" 792, vI 331 0, vI 2 0, vI 0 0, vI 0 0, vI 3 0, vR 393, Value.bool true, vI 181 0, vR 394, Value.none, vR 395, vR 396, vR 397, vI 795 0, vI 331 0, vS "/claim/cut.py" 796] }
def e399 (p : Program) (P : Params) : Obj := fO "call_end" "call_end" (tp p 86) (vS "linelaid.stations" 692) 398
def e405 (p : Program) (P : Params) : Obj := { cls := Value.type "code", data := Data.fields #[vS "answer_call" 798, vS "answer_call" 799, vS "/claim/cut.py" 800, vI 335 0, vI 3 0, vI 0 0, vI 0 0, vI 3 0, vR 400, Value.bool true, vI 181 0, vR 401, Value.none, vR 402, vR 403, vR 404, vI 804 0, vI 335 0, vS "/claim/cut.py" 805] }
def e406 (p : Program) (P : Params) : Obj := fO "answer_call" "answer_call" (tp p 87) (vS "linelaid.stations" 692) 405
def e412 (p : Program) (P : Params) : Obj := { cls := Value.type "code", data := Data.fields #[vS "answer_change" 807, vS "answer_change" 808, vS "/claim/cut.py" 809, vI 343 0, vI 3 0, vI 0 0, vI 0 0, vI 3 0, vR 407, Value.bool true, vI 181 0, vR 408, Value.none, vR 409, vR 410, vR 411, vI 813 0, vI 343 0, vS "/claim/cut.py" 814] }
def e413 (p : Program) (P : Params) : Obj := fO "answer_change" "answer_change" (tp p 88) (vS "linelaid.stations" 692) 412
def e419 (p : Program) (P : Params) : Obj := { cls := Value.type "code", data := Data.fields #[vS "answer_look" 816, vS "answer_look" 817, vS "/claim/cut.py" 818, vI 355 0, vI 3 0, vI 0 0, vI 0 0, vI 3 0, vR 414, Value.bool true, vI 181 0, vR 415, Value.none, vR 416, vR 417, vR 418, vI 822 0, vI 355 0, vS "/claim/cut.py" 823] }
def e420 (p : Program) (P : Params) : Obj := fO "answer_look" "answer_look" (tp p 89) (vS "linelaid.stations" 692) 419
def e426 (p : Program) (P : Params) : Obj := { cls := Value.type "code", data := Data.fields #[vS "answer_bare_look" 825, vS "answer_bare_look" 826, vS "/claim/cut.py" 827, vI 369 0, vI 2 0, vI 0 0, vI 0 0, vI 3 0, vR 421, Value.bool true, vI 181 0, vR 422, Value.none, vR 423, vR 424, vR 425, vI 830 0, vI 369 0, vS "/claim/cut.py" 831] }
def e427 (p : Program) (P : Params) : Obj := fO "answer_bare_look" "answer_bare_look" (tp p 90) (vS "linelaid.stations" 692) 426
/-- what is written out of the heap: the names, the class, the defs and their records -/
def KK (p : Program) (P : Params) : Frag := [(3, e3 p P), (20, e20 p P), (21, e21 p P), (25, e25 p P), (26, e26 p P), (32, e32 p P), (33, e33 p P), (39, e39 p P), (40, e40 p P), (46, e46 p P), (47, e47 p P), (53, e53 p P), (54, e54 p P), (60, e60 p P), (61, e61 p P), (67, e67 p P), (68, e68 p P), (72, e72 p P), (73, e73 p P), (77, e77 p P), (78, e78 p P), (84, e84 p P), (85, e85 p P), (91, e91 p P), (92, e92 p P), (96, e96 p P), (97, e97 p P), (101, e101 p P), (102, e102 p P), (106, e106 p P), (107, e107 p P), (111, e111 p P), (112, e112 p P), (118, e118 p P), (119, e119 p P), (125, e125 p P), (126, e126 p P), (132, e132 p P), (133, e133 p P), (139, e139 p P), (140, e140 p P), (144, e144 p P), (145, e145 p P), (151, e151 p P), (152, e152 p P), (158, e158 p P), (159, e159 p P), (165, e165 p P), (166, e166 p P), (172, e172 p P), (173, e173 p P), (179, e179 p P), (180, e180 p P), (186, e186 p P), (187, e187 p P), (193, e193 p P), (194, e194 p P), (200, e200 p P), (201, e201 p P), (205, e205 p P), (206, e206 p P), (212, e212 p P), (213, e213 p P), (219, e219 p P), (220, e220 p P), (226, e226 p P), (227, e227 p P), (233, e233 p P), (234, e234 p P), (240, e240 p P), (241, e241 p P), (254, e254 p P), (255, e255 p P), (261, e261 p P), (262, e262 p P), (266, e266 p P), (267, e267 p P), (273, e273 p P), (274, e274 p P), (280, e280 p P), (281, e281 p P), (287, e287 p P), (288, e288 p P), (294, e294 p P), (295, e295 p P), (301, e301 p P), (302, e302 p P), (308, e308 p P), (309, e309 p P), (315, e315 p P), (316, e316 p P), (320, e320 p P), (321, e321 p P), (327, e327 p P), (328, e328 p P), (334, e334 p P), (335, e335 p P), (341, e341 p P), (342, e342 p P), (344, e344 p P), (345, e345 p P), (355, e355 p P), (356, e356 p P), (362, e362 p P), (363, e363 p P), (369, e369 p P), (370, e370 p P), (371, e371 p P), (377, e377 p P), (378, e378 p P), (384, e384 p P), (385, e385 p P), (391, e391 p P), (392, e392 p P), (398, e398 p P), (399, e399 p P), (405, e405 p P), (406, e406 p P), (412, e412 p P), (413, e413 p P), (419, e419 p P), (420, e420 p P), (426, e426 p P), (427, e427 p P)]
def aK : List Addr := [3, 20, 21, 25, 26, 32, 33, 39, 40, 46, 47, 53, 54, 60, 61, 67, 68, 72, 73, 77, 78, 84, 85, 91, 92, 96, 97, 101, 102, 106, 107, 111, 112, 118, 119, 125, 126, 132, 133, 139, 140, 144, 145, 151, 152, 158, 159, 165, 166, 172, 173, 179, 180, 186, 187, 193, 194, 200, 201, 205, 206, 212, 213, 219, 220, 226, 227, 233, 234, 240, 241, 254, 255, 261, 262, 266, 267, 273, 274, 280, 281, 287, 288, 294, 295, 301, 302, 308, 309, 315, 316, 320, 321, 327, 328, 334, 335, 341, 342, 344, 345, 355, 356, 362, 363, 369, 370, 371, 377, 378, 384, 385, 391, 392, 398, 399, 405, 406, 412, 413, 419, 420, 426, 427]
def hk : Hook := kHook (KK P0) aK (fun _ => rfl)
def q0 : Program := view P0 [1, 2, 3, 4, 5, 6, 7, 8, 9, 10, 11, 12, 13, 14, 15, 16, 18, 19, 20, 21, 22, 23, 24, 25, 27, 28, 29, 30, 31, 32, 33, 34, 35, 36, 37, 38, 39, 41, 42, 43, 44, 45, 46, 47, 48, 50, 51, 52, 54, 56, 57, 58, 60, 61, 62, 63, 64, 65, 66, 67, 68, 69, 70, 71, 72, 73, 74, 75, 76, 77, 78, 79, 80, 81, 82, 83, 84, 85, 86, 87, 88, 89, 90]
def env1 (p : Program) : Env := { scope := p.main.scope, locals := mainNs, globals := mainNs, cells := [], code := .ref 13, frame := some 14 }
def pos0 : Pos := ⟨0, 0, 0, 0⟩
def pos1 : Pos := ⟨369, 0, 388, 22⟩
def code1 (p : Program) : Code := Code.body (behindTheImports p) (env1 p)
def o2 : Obj := { cls := .type "tuple", data := .seq #[] }
def o3 : Obj := { cls := .none, data := .fields #[] }
def o4 : Obj := { cls := .type "code", data := .fields #[vS "<module>" 182, vS "<module>" 183, vS "/claim/cut.py" 184, vI 1 0, vI 0 0, vI 0 0, vI 0 0, vI 0 0, vR 11, .bool false, vI 181 0, vR 12, .none, .none, .none, .none, vI 185 0, vI 1 0, vS "/claim/cut.py" 186] }
def o5 : Obj := { cls := .type "frame", slots := #[some (vR 13), some (vR 3), some (vR 3), none, some (vS "__main__" 164), none, some (vR 0)] }
noncomputable def heapA (P : Params) : Heap := { objs := { toList := [boot_o_0 P, boot_o_1 P, boot_o_2 P, boot_o_3 P, boot_o_4 P, boot_o_5 P, boot_o_6 P, boot_o_7 P, boot_o_8 P, boot_o_9 P, boot_o_10 P, o2, o3, o4, o5] } }
abbrev nd (o : Obj) (a b : BT) : BT := BT.node o a b
abbrev lf (o : Obj) : BT := BT.node o BT.nil BT.nil
noncomputable def treeB (P : Params) : BT :=
  nd (boot_o_0 P) (nd (boot_o_1 P) (nd (boot_o_3 P) (lf (boot_o_7 P)) (lf o2)) (nd (boot_o_5 P) (lf (boot_o_9 P)) (lf o4)))
    (nd (boot_o_2 P) (nd (boot_o_4 P) (lf (boot_o_8 P)) (lf o3)) (nd (boot_o_6 P) (lf (boot_o_10 P)) (lf o5)))
noncomputable def stB (w : World) (os : OsState) : SharedT := { tree := treeB w.params, n := 15, life := { }, gens := { toList := [] }, drawn := { }, toks := 187, os := os }
theorem pre (w : World) (os : OsState) : topGo treeTable P0 w 11 (some (.ref 6)) 12 { heap := boot_heap w.params, drawn := boot_drawn, toks := boot_toks, os := os } (topStub P0) =
    some ({ heap := heapA w.params, toks := 187, os := os }, { cur := denote treeTable (code1 P0), code := code1 P0, pos := pos0, stack := [topFrame pos0] }) := by
  kernel_rfl
theorem block (w : World) (os : OsState) : segRun treeTable P0 w 11 (some (.ref 6)) 1 1 { heap := heapA w.params, toks := 187, os := os } (blockOf (behindTheImports P0) (env1 P0) (code1 P0) pos0 [topFrame pos0]) =
    some (Flow.next, (stB w os).abs, code1 P0, pos0) := by
  kernel_rfl
theorem size (w : World) : ((boot_heap w.params).isNs mainGlobals && (Array.mk [] : Array GenState).size == 0, (boot_heap w.params).objs.size, (boot_heap w.params).nsMap mainGlobals "__annotations__") = (true, 11, some (.ref 6)) := by
  kernel_rfl
/-- all of the top's statements -/
noncomputable def seg (w : World) (os : OsState) := segRunT treeTable P0 w 11 (some (.ref 6)) 1 2480 (stB w os) (piecesOf (behindTheImports P0) (env1 P0) (code1 P0) pos0 [topFrame pos0])
/-- its end -/
noncomputable def fin (w : World) (s : SharedT) := topRun treeTable P0 w 11 (some (.ref 6)) 2 s.abs { cur := doneF Flow.next, code := code1 P0, pos := pos1, stack := [topFrame pos0] }
theorem runs (w : World) (os : OsState) : (seg w os).map (fun x => (x.1, x.2.2.1, x.2.2.2)) = some (Flow.next, code1 P0, pos1) := by
  unfold seg P0
  rw [PySem.W.Fast.te10110043849684766642, PySem.W.Fast.te14364793385576792824, PySem.W.Fast.te11746662920126637227]
  kernel_rfl
theorem look1 (w : World) (os : OsState) : (seg w os).map (fun x => (fin w x.2.1).map fun s => (staticsOk (importedModules P0.main.body) (boot_heap w.params) s.heap && namesBound P0 s.heap && gensDone s && laidKept (boot_heap w.params) s.heap)) = some (some true) := by
  unfold seg fin P0
  rw [PySem.W.Fast.te10110043849684766642, PySem.W.Fast.te14364793385576792824, PySem.W.Fast.te14082659384304107361, PySem.W.Fast.te11746662920126637227, PySem.W.Fast.te5923862056798008813]
  kernel_rfl
abbrev oS (s : Shared) := openSeen q0 [] (importedModules P0.main.body) (fun s => xlAt q0 [] s && recOk [] s) true s
abbrev oG := openGood q0 []
theorem look2 (w : World) (os : OsState) : (seg w os).map (fun x => (fin w x.2.1).map fun s => ((oS s).1, (oS s).2.1)) = some (some (oG.1, oG.2.1)) := by
  unfold seg fin oS oG openSeen openGood q0 P0
  dsimp only
  rw [PySem.W.Fast.te10110043849684766642, PySem.W.Fast.te14364793385576792824, PySem.W.Fast.te14082659384304107361, PySem.W.Fast.te11746662920126637227, PySem.W.Fast.te5160383126252970620, PySem.W.Fast.te3399658132070893891, PySem.W.Fast.te5991557255702980513]
  kernel_rfl
theorem look4 (w : World) (os : OsState) : (seg w os).map (fun x => (fin w x.2.1).map fun s => (oS s).2.2.1) = some (some oG.2.2.1) := by
  unfold seg fin oS oG openSeen openGood q0 P0
  dsimp only
  rw [PySem.W.Fast.te10110043849684766642, PySem.W.Fast.te14364793385576792824, PySem.W.Fast.te14082659384304107361, PySem.W.Fast.te11746662920126637227, PySem.W.Fast.te3399658132070893891, PySem.W.Fast.te10880121769531294198, PySem.W.Fast.te821141287760084731, PySem.W.Fast.te7409074990110511671, PySem.W.Fast.te13664370479719496447, PySem.W.Fast.te14722251495701143533, PySem.W.Fast.te5923862056798008813, PySem.W.Fast.te10994771534591457954]
  kernel_rfl
theorem look5 (w : World) (os : OsState) : (seg w os).map (fun x => (fin w x.2.1).map fun s => (oS s).2.2.2) = some (some oG.2.2.2) := by
  unfold seg fin oS oG openSeen openGood q0 P0
  dsimp only
  rw [PySem.W.Fast.te10110043849684766642, PySem.W.Fast.te14364793385576792824, PySem.W.Fast.te14082659384304107361, PySem.W.Fast.te11746662920126637227, PySem.W.Fast.te821141287760084731, PySem.W.Fast.te479339242167458305, PySem.W.Fast.te16090120013241838585, PySem.W.Fast.te3247288618530077131, PySem.W.Fast.te2386780881361962483, PySem.W.Fast.te11698064438423848299, PySem.W.Fast.te7317090234206586261, PySem.W.Fast.te7369524293546568484]
  kernel_rfl
theorem look3 (w : World) (os : OsState) : (seg w os).map (fun x => (fin w x.2.1).map fun s => aK.map s.heap.get?) = some (some ((KK P0 w.params).map fun e => some e.2)) := by
  unfold seg fin P0
  rw [PySem.W.Fast.te10110043849684766642, PySem.W.Fast.te14364793385576792824, PySem.W.Fast.te14082659384304107361, PySem.W.Fast.te11746662920126637227]
  kernel_rfl
/-- several looks at the end of one run -/
theorem ran_of {A1 A2 A3 A4 A5 : Type} {S : Option (Flow × SharedT × Code × Pos)} {f : SharedT → Option Shared} {c : Code} {ps : Pos} {f1 : Shared → A1} {f2 : Shared → A2} {f3 : Shared → A3} {f4 : Shared → A4} {f5 : Shared → A5} {a1 : A1} {a2 : A2} {a3 : A3} {a4 : A4} {a5 : A5}
    (h0 : S.map (fun x => (x.1, x.2.2.1, x.2.2.2)) = some (Flow.next, c, ps)) (h1 : S.map (fun x => (f x.2.1).map f1) = some (some a1)) (h2 : S.map (fun x => (f x.2.1).map f2) = some (some a2)) (h3 : S.map (fun x => (f x.2.1).map f3) = some (some a3)) (h4 : S.map (fun x => (f x.2.1).map f4) = some (some a4)) (h5 : S.map (fun x => (f x.2.1).map f5) = some (some a5)) :
    ∃ (st : SharedT) (s : Shared), S = some (Flow.next, st, c, ps) ∧ f st = some s ∧ f1 s = a1 ∧ f2 s = a2 ∧ f3 s = a3 ∧ f4 s = a4 ∧ f5 s = a5 := by
  cases S with
  | none => cases h0
  | some x =>
    obtain ⟨fl, st, c', ps'⟩ := x
    cases h0
    have h1 : (f st).map f1 = some a1 := Option.some.inj h1
    have h2 : (f st).map f2 = some a2 := Option.some.inj h2
    have h3 : (f st).map f3 = some a3 := Option.some.inj h3
    have h4 : (f st).map f4 = some a4 := Option.some.inj h4
    have h5 : (f st).map f5 = some a5 := Option.some.inj h5
    cases e : f st with
    | none => rw [e] at h1; cases h1
    | some s =>
      rw [e] at h1 h2 h3 h4 h5
      exact ⟨st, s, rfl, e, Option.some.inj h1, Option.some.inj h2, Option.some.inj h3, Option.some.inj h4, Option.some.inj h5⟩
/-- the top, run from what the start leaves -/
theorem left_of {p q : Program} {loose : List Str} {Xt : Shared → Bool} {B : Type} {Yf : Shared → B} {Ya : World → B} {N M : Nat} {H0 : Params → Heap} {d0 : Drawn} {k0 m0 : Nat} {ann : Option Value}
    (op : ∀ w : World, (fencedOpening treeTable p w N).map (fun s => (s.heap, s.gens, s.drawn, s.toks)) = some (H0 w.params, Array.mk [], d0, k0))
    (sz : ∀ w : World, ((H0 w.params).isNs mainGlobals && (Array.mk [] : Array GenState).size == 0, (H0 w.params).objs.size, (H0 w.params).nsMap mainGlobals "__annotations__") = (true, m0, ann))
    (rn : ∀ (w : World) (os : OsState), ∃ s : Shared, topRun treeTable p w m0 ann M ⟨H0 w.params, Array.mk [], d0, k0, os⟩ (topStub p) = some s ∧
      (staticsOk (importedModules p.main.body) (H0 w.params) s.heap && namesBound p s.heap && gensDone s && laidKept (H0 w.params) s.heap) = true ∧ openSeen q loose (importedModules p.main.body) Xt true s = openGood q loose ∧ Yf s = Ya w)
    (le : M ≤ N) : LeftO p q loose Xt Yf Ya N := by
  intro w
  obtain ⟨⟨hp, gs, dr, tk, os⟩, e1, e2⟩ := Option.map_eq_some_iff.mp (op w)
  cases e2
  obtain ⟨s, hr, g1, g2, g3⟩ := rn w os
  have z := sz w
  rw [Prod.mk.injEq, Prod.mk.injEq] at z
  obtain ⟨z1, z2, z3⟩ := z
  have r := topRun_mono (N - M) _ _ _ _ hr
  rw [Nat.add_sub_cancel' le] at r
  have tf : topFrom treeTable p w N ⟨H0 w.params, Array.mk [], dr, tk, os⟩ = some s := by
    unfold topFrom
    dsimp only
    rw [z1, z2, z3, r]
    show (match (staticsOk (importedModules p.main.body) (H0 w.params) s.heap && namesBound p s.heap && gensDone s && laidKept (H0 w.params) s.heap) with | true => some s | false => none) = some s
    rw [g1]
  have oe : openEnds treeTable p w N = some s := by
    unfold openEnds
    rw [e1]
    exact tf
  rw [oe]
  exact congrArg some (Prod.ext g2 g3)
theorem ran (w : World) (os : OsState) : ∃ s : Shared, topRun treeTable P0 w 11 (some (.ref 6)) (12 + (1 + (2480 + 2))) ⟨boot_heap w.params, Array.mk [], boot_drawn, boot_toks, os⟩ (topStub P0) = some s ∧
    (staticsOk (importedModules P0.main.body) (boot_heap w.params) s.heap && namesBound P0 s.heap && gensDone s && laidKept (boot_heap w.params) s.heap) = true ∧
    openSeen q0 [] (importedModules P0.main.body) (fun s => xlAt q0 [] s && recOk [] s) true s = openGood q0 [] ∧ Hook.obs hk s = Hook.val hk w := by
  obtain ⟨st, s, e1, e3, h1, h2, h3, h4, h5⟩ := ran_of (f := fin w) (runs w os) (look1 w os) (look2 w os) (look4 w os) (look5 w os) (look3 w os)
  have k := piece_app (rest := []) (segRun_of (show segRunT treeTable P0 w 11 (some (.ref 6)) 1 2480 (stB w os) (piecesOf (behindTheImports P0) (env1 P0) (code1 P0) pos0 [topFrame pos0]) = _ from e1)) (r := s) (N := 2) e3
  rw [List.append_nil] at k
  exact ⟨s, go_top (pre w os) (piece_block (block w os) k), h1, Prod.ext (congrArg (·.1) h2) (Prod.ext (congrArg (·.2) h2) (Prod.ext h3 h4)), h5⟩
theorem left : LeftO P0 q0 [] (fun s => xlAt q0 [] s && recOk [] s) (Hook.obs hk) (Hook.val hk) 5084 :=
  left_of (boot_open (p := P0) (N := 5084) (by kernel_rfl) (by decide +kernel) (fun s => by kernel_rfl)) size ran (by decide)
end HD

set_option Elab.async false
set_option linter.all false
set_option maxRecDepth 100000
set_option maxHeartbeats 4000000
theorem L2.cxK {CX P w K mg base N qual sc f cdv B outer s H E} : (L2.cxOf CX P w K mg base N qual sc f cdv B outer s H E).K = K := rfl
open L2 in
local macro_rules | `(tactic| simp_arith [$ts,*]) => `(tactic| simp (config := { decide := false, zeta := true }) only [tSeq, tNext, tRet, tIfS, tAsg, tDrop, gName, tVar, tC, tOp, tUn, tChain, tTest, tB, tAnd, tOr, tNot, tAndV, tOrV, tNotV, tIf, rI0, rI, rU, rEq, rNe, tCB, tCons, tFor_eq, tLc_eq, iRng1, iRng2, iRng3, iList, iZip, iEnum, tFld, rIxL, rIxT, rSlL, tSl, tPart, tNoPart, tLst, gTup, gCons, gNil, gSub, rSetL, sFld, tMeth, tMake, tBM, tBM0, rAppend, rExtend, rInsert0, rCat, rAll, rAny, rSum, rMax, rMin, tAug, ipI, tNil, tCall, scal, start, List.map_cons, List.map_nil, List.length_cons, List.length_nil, List.replicate_succ, List.replicate_zero, Nat.reduceSub, Nat.reduceAdd, Nat.add_sub_cancel, Nat.sub_self, List.set, List.append_nil, List.cons_append, List.nil_append, List.append_eq,
  List.getElem?_cons_zero, List.getElem?_cons_succ, Option.some.injEq, V.int.injEq, V.bl.injEq, V.ref.injEq, List.cons.injEq, and_true, true_and, exists_eq_left, exists_eq_left', exists_and_left, exists_eq, exists_const, decide_eq_true_eq, Bool.not_eq_true', decide_eq_false_iff_not, reduceCtorEq, and_assoc, cxK, if_true, if_false, exists_eq', ite_not, $ts,*])
namespace LL
open PySem PySem.Spec PyProof.Rows L2
def nv (n : Nat) : V := .int (n : Int)
def onv : Option Nat → V
  | none => .non
  | some n => .int (n : Int)
theorem onv_non (o : Option Nat) : (onv o = V.non) ↔ o = none := by cases o <;> simp [onv]
theorem onv_none : onv none = .non := rfl
theorem onv_some (n : Nat) : onv (some n) = .int (n : Int) := rfl
/-- is k better than b -/
def better (cs : List (Option Nat)) (k : Nat) : Option Nat → Bool
  | none => (cs.getD k none).isSome
  | some j => match cs.getD k none, cs.getD j none with
    | some c, some d => decide (c < d)
    | _, _ => false
theorem better_ss {cs : List (Option Nat)} {k j c d : Nat} (q : cs.getD k none = some c) (q2 : cs.getD j none = some d) : better cs k (some j) = decide (c < d) := by
  simp only [better, q, q2]
theorem better_n {cs : List (Option Nat)} {k : Nat} {b : Option Nat} (q : cs.getD k none = none) : better cs k b = false := by
  cases b <;> simp only [better, q, Option.isSome_none]
theorem better_sn {cs : List (Option Nat)} {k c : Nat} (q : cs.getD k none = some c) : better cs k none = true := by
  simp only [better, q, Option.isSome_some]
def bsGo (cs : List (Option Nat)) : List Nat → Option Nat → Option Nat
  | [], b => b
  | k :: l, b => bsGo cs l (if better cs k b then some k else b)
def bestStep (cs : List (Option Nat)) (h g : Nat) : Option Nat := bsGo cs (List.range' (h - g) (min 40 (h + g) + 1 - (h - g))) none
theorem bsGo_append (cs : List (Option Nat)) : ∀ (l m : List Nat) (b : Option Nat), bsGo cs (l ++ m) b = bsGo cs m (bsGo cs l b)
  | [], _, _ => rfl
  | k :: l, m, b => bsGo_append cs l m _
theorem bsGo_ok (cs : List (Option Nat)) : ∀ (l : List Nat) (b : Option Nat), (∀ j, b = some j → (cs.getD j none).isSome = true) → ∀ j, bsGo cs l b = some j → (cs.getD j none).isSome = true
  | [], b, h, j, e => h j e
  | k :: l, b, h, j, e => by
    refine bsGo_ok cs l _ ?_ j e
    intro j' e'
    by_cases hb : better cs k b = true
    · rw [if_pos hb] at e'
      cases e'
      cases b with
      | none => exact hb
      | some d =>
        unfold better at hb
        cases q : cs.getD k none with
        | none => rw [q] at hb; simp at hb
        | some c => rfl
    · rw [if_neg hb] at e'
      exact h j' e'
theorem getD_onv {cs : List (Option Nat)} {k : Nat} (h : k < cs.length) : (cs.map onv)[k]? = some (onv (cs.getD k none)) := by
  rw [List.getElem?_map, List.getD_eq_getElem?_getD, List.getElem?_eq_getElem h]
  rfl
/-- best_step -/
def spBest (K : PySem.W.Frag) : Sp := fun vs H Q _ => ∃ (c : Addr) (cs : List (Option Nat)) (h g : Nat), vs = [.ref c, .int h, .int g] ∧ SqL K H c (cs.map onv) ∧ cs.length = 41 ∧ h ≤ 40 ∧ g ≤ 1000 ∧ Q (onv (bestStep cs h g)) H
/-- is_height -/
def spH : Sp := fun vs H Q _ => ∃ i : Int, vs = [.int i] ∧ Q (.bl (decide (0 ≤ i) && decide (i ≤ 40))) H
section
variable {P : Program} {w : World} {K : PySem.W.Frag} {mg : Str → Option Value} {base : Heap} {A : Ad}
theorem ok_is_height (T : Txt K mg A) : FnOk P w K mg base CX0 1 A.f_is_height A.d_is_height ["x"] spH := by
  refine T.F_is_height.ok sc_is_height (fun vs H Q E h => ?_) (fun cdv B outer s H vs Q E hr h => ?_)
  · obtain ⟨i, rfl, _⟩ := h
    rfl
  · obtain ⟨i, rfl, k⟩ := h
    refine ⟨_, (pss_one (ps_ret (pe_chain op_le op_le pe_int (pv 0) (pe_gi T.c_HIGHEST rfl)))), ?_⟩
    simp_arith [spH]
    by_cases h : 0 ≤ i
    · rw [if_pos h]; simpa [h] using k
    · rw [if_neg h]; simpa [h] using k
theorem ok_best_step (T : Txt K mg A) : FnOk P w K mg base CX0 1 A.f_best_step A.d_best_step ["costs", "height", "grade"] (spBest K) := by
  refine T.F_best_step.ok sc_best_step (fun vs H Q E h => ?_) (fun cdv B outer s H vs Q E hr h => ?_)
  · obtain ⟨_, _, _, _, rfl, _⟩ := h
    rfl
  · obtain ⟨c, cs, h, g, rfl, hS, hl, hh, hg, k⟩ := h
    refine ⟨_, (pss_cons (ps_set (i := 3) sc_best_step.nd rfl (by first | exact Or.inl rfl | exact Or.inr rfl) pe_non)
      (pss_cons (ps_for PassesOwn.never rfl (pi_range2 rfl T.n_range (pa_cons (pe_callB (call_max2 rfl) (by rfl) T.n_max bo_max (pa_cons pe_int (pa_cons (pe_op op_sub (pv 1) (pv 2)) pa_nil))) (pa_cons (pe_op op_add (pe_callB (call_min2 rfl) (by rfl) T.n_min bo_min (pa_cons (pe_gi T.c_HIGHEST rfl) (pa_cons (pe_op op_add (pv 1) (pv 2)) pa_nil))) pe_int) pa_nil))) (pg_name (i := 4) sc_best_step.nd rfl (by first | exact Or.inl rfl | exact Or.inr rfl))
      (pss_one (ps_if (PW.pt (pw_and (pt_cmpR op_notN (pe_ix ix_list (pv 0) (pv 4) (fun _ _ => rfl)) pe_non (nomark _)) (pw_and1 (PW.pt (pw_or (pt_cmpR op_isN (pv 3) pe_non (nomark _)) (pw_or1 (pt_cmpR op_lt (pe_ix ix_list (pv 0) (pv 4) (fun _ _ => rfl)) (pe_ix ix_list (pv 0) (pv 3) (fun _ _ => rfl)) (nomark _))))))))
      (pss_one (ps_set (i := 3) sc_best_step.nd rfl (by first | exact Or.inl rfl | exact Or.inr rfl) (pv 4)))
      pss_nil)))
      (pss_one (ps_ret (pv 3))))), ?_⟩
    simp_arith []
    have e1 : (if (h : Int) - (g : Int) > 0 then (h : Int) - (g : Int) else 0) = ((h - g : Nat) : Int) := by split <;> omega
    have e2 : (if (h : Int) + (g : Int) < 40 then (h : Int) + (g : Int) else 40) = ((min 40 (h + g) : Nat) : Int) := by split <;> omega
    rw [e1, e2]
    refine ⟨by omega, by omega, by omega, by omega, ?_⟩
    generalize hlo : h - g = lo
    have e3 : ((min 40 (h + g) : Nat) : Int) + 1 - (lo : Int) = ((min 40 (h + g) + 1 - lo : Nat) : Int) := by omega
    rw [e3, Int.toNat_natCast]
    generalize hn : min 40 (h + g) + 1 - lo = n
    have hb : lo + n ≤ 41 := by omega
    have kk : Q (onv (bsGo cs (List.range' lo n) none)) H := by
      have : bestStep cs h g = bsGo cs (List.range' lo n) none := by unfold bestStep; rw [hlo, hn]
      rw [← this]; exact k
    refine forK_range (fun i σ H' => H' = H ∧ ∃ v, σ = [some (.ref c), some (.int h), some (.int g), some (onv (bsGo cs ((List.range' lo n).take i) none)), v]) ⟨rfl, none, rfl⟩ ?_ ?_
    · rintro i σ H' hi ⟨rfl, v, rfl⟩
      have hk : (List.range' lo n)[i]? = some (lo + i) := by rw [List.getElem?_range' hi]; simp
      have ek : (lo : Int) + (i : Int) = ((lo + i : Nat) : Int) := by omega
      have h1 : bsGo cs ((List.range' lo n).take (i + 1)) none = (if better cs (lo + i) (bsGo cs ((List.range' lo n).take i) none) then some (lo + i) else bsGo cs ((List.range' lo n).take i) none) := by
        rw [take_snocV hk, bsGo_append]; rfl
      have h2 := bsGo_ok cs ((List.range' lo n).take i) none (by simp)
      generalize bsGo cs ((List.range' lo n).take i) none = b at *
      have hc := getD_onv (cs := cs) (k := lo + i) (by omega)
      simp_arith [ek, h1]
      refine ⟨_, hS, _, atI_nat hc, ?_⟩
      cases b with
      | none =>
        cases q : cs.getD (lo + i) none with
        | none =>
          have hb : ¬ better cs (lo + i) none = true := by rw [better_n q]; simp
          rw [if_neg hb]
          simp [onv]
        | some d =>
          have hb : better cs (lo + i) none = true := better_sn q
          rw [if_pos hb]
          simp [onv]
      | some j =>
        have hj := h2 j rfl
        have hjl : j < cs.length := by
          by_cases hjl : j < cs.length
          · exact hjl
          · rw [List.getD_eq_getElem?_getD, List.getElem?_eq_none (by omega)] at hj
            cases hj
        have hcj := getD_onv (cs := cs) (k := j) hjl
        cases q : cs.getD (lo + i) none with
        | none =>
          have hb : ¬ better cs (lo + i) (some j) = true := by rw [better_n q]; simp
          rw [if_neg hb]
          simp [onv]
        | some d =>
          cases q2 : cs.getD j none with
          | none => rw [q2] at hj; cases hj
          | some d2 =>
            rw [q] at hc
            rw [q2] at hcj
            simp_arith [onv_some, onv_none]
            refine ⟨_, hS, _, atI_nat hc, _, hS, _, atI_nat hcj, _, rfl, _, rfl, ?_⟩
            by_cases hlt : d < d2
            · rw [if_pos (by omega)]
              have hb : better cs (lo + i) (some j) = true := by rw [better_ss q q2]; exact decide_eq_true hlt
              rw [if_pos hb]
              rfl
            · rw [if_neg (by omega)]
              have hb : ¬ better cs (lo + i) (some j) = true := by rw [better_ss q q2]; simpa using hlt
              rw [if_neg hb]
              rfl
    · rintro σ H' ⟨rfl, v, rfl⟩
      rw [List.take_of_length_le (by simp)]
      simp_arith []
      exact kk
end
end LL

set_option Elab.async false
set_option linter.all false
set_option maxRecDepth 100000
set_option maxHeartbeats 4000000
open L2 in
local macro_rules | `(tactic| simp_arith [$ts,*]) => `(tactic| simp (config := { decide := false, zeta := true }) only [tSeq, tNext, tRet, tIfS, tAsg, tDrop, gName, tVar, tC, tOp, tUn, tChain, tTest, tB, tAnd, tOr, tNot, tAndV, tOrV, tNotV, tIf, rI0, rI, rU, rEq, rNe, tCB, tCons, tFor_eq, tLc_eq, iRng1, iRng2, iRng3, iList, iZip, iEnum, tFld, rIxL, rIxT, rSlL, tSl, tPart, tNoPart, tLst, gTup, gCons, gNil, gSub, rSetL, sFld, tMeth, tMake, tBM, tBM0, rAppend, rExtend, rInsert0, rCat, rAll, rAny, rSum, rMax, rMin, tAug, ipI, tNil, tCall, scal, start, List.map_cons, List.map_nil, List.length_cons, List.length_nil, List.replicate_succ, List.replicate_zero, Nat.reduceSub, Nat.reduceAdd, Nat.add_sub_cancel, Nat.sub_self, List.set, List.append_nil, List.cons_append, List.nil_append, List.append_eq,
  List.getElem?_cons_zero, List.getElem?_cons_succ, Option.some.injEq, V.int.injEq, V.bl.injEq, V.ref.injEq, List.cons.injEq, and_true, true_and, exists_eq_left, exists_eq_left', exists_and_left, exists_eq, exists_const, decide_eq_true_eq, Bool.not_eq_true', decide_eq_false_iff_not, reduceCtorEq, and_assoc, cxK, if_true, if_false, exists_eq', ite_not, $ts,*])
namespace LL
open PySem PySem.Spec PyProof.Rows L2
open Kv363 (Abs okFix)
structure WF (a : Abs) : Prop where
  len : a.fix.length = a.ground.length
  two : 2 ≤ a.ground.length
  top : a.ground.length ≤ 12
  gr : ∀ x ∈ a.ground, x ≤ 40
  fx : ∀ x, some x ∈ a.fix → x ≤ 40
  first : (a.fix.getD 0 none).isSome = true
  last : (a.fix.getD (a.ground.length - 1) none).isSome = true
  k : a.grade ≤ 40
  c1 : 1 ≤ a.cutp
  c2 : a.cutp ≤ 10
  f1 : 1 ≤ a.fillp
  f2 : a.fillp ≤ 10
def rf (g t : Addr) (k c f : Nat) : List (Str × V) := [("ground", .ref g), ("told", .ref t), ("grade", .int k), ("cut_price", .int c), ("fill_price", .int f)]
theorem rf_ground {g t k c f} : (rf g t k c f).lookup ("ground" : Str) = some (V.ref g) := rfl
theorem rf_told {g t k c f} : (rf g t k c f).lookup ("told" : Str) = some (V.ref t) := rfl
theorem rf_grade {g t k c f} : (rf g t k c f).lookup ("grade" : Str) = some (V.int k) := rfl
theorem rf_cut {g t k c f} : (rf g t k c f).lookup ("cut_price" : Str) = some (V.int c) := rfl
theorem rf_fill {g t k c f} : (rf g t k c f).lookup ("fill_price" : Str) = some (V.int f) := rfl
/-- the road at r holds a -/
structure RoadAt (C : Addr) (H : Hp) (r dx g t : Addr) (a : Abs) : Prop where
  ins : H r = some (.ins C dx (rf g t a.grade a.cutp a.fillp))
  gr : H g = some (.lst (a.ground.map nv))
  tl : H t = some (.lst (a.fix.map onv))
  ne : g ≠ t
theorem RoadAt.same {C : Addr} {H H' : Hp} {r dx g t : Addr} {a : Abs} (R : RoadAt C H r dx g t a) (s : Same H H') : RoadAt C H' r dx g t a := ⟨s _ _ R.ins, s _ _ R.gr, s _ _ R.tl, R.ne⟩
theorem getD_nv {cs : List Nat} {k : Nat} (h : k < cs.length) : (cs.map nv)[k]? = some (.int (cs.getD k 0 : Nat)) := by
  rw [List.getElem?_map, List.getD_eq_getElem?_getD, List.getElem?_eq_getElem h]
  rfl
def costAt (a : Abs) (i h : Nat) : Option Nat := if okFix (a.fix.getD i none) h then some (a.at_ (a.ground.getD i 0) h) else none
def costsAt (a : Abs) (i : Nat) : List (Option Nat) := (List.range 41).map (costAt a i)
theorem WF.gle {a : Abs} (h : WF a) (i : Nat) : a.ground.getD i 0 ≤ 40 := by
  rw [List.getD_eq_getElem?_getD]
  cases e : a.ground[i]? with
  | none => simp
  | some x => exact h.gr x (List.mem_of_getElem? e)
theorem at_fill {a : Abs} {g h : Nat} (c : (0 : Int) < (h : Int) - (g : Int)) : ((h : Int) - (g : Int)) * (a.fillp : Int) = ((a.at_ g h : Nat) : Int) := by
  obtain ⟨d, rfl⟩ : ∃ d, h = g + d := ⟨h - g, by omega⟩
  have e1 : g - (g + d) = 0 := by omega
  have e2 : g + d - g = d := by omega
  have e3 : ((g + d : Nat) : Int) - (g : Int) = (d : Int) := by omega
  unfold Kv363.Abs.at_
  rw [e1, e2, e3, Nat.mul_zero, Nat.zero_add, Int.natCast_mul, Int.mul_comm]
theorem at_cut {a : Abs} {g h : Nat} (c : ¬ (0 : Int) < (h : Int) - (g : Int)) : -((h : Int) - (g : Int)) * (a.cutp : Int) = ((a.at_ g h : Nat) : Int) := by
  obtain ⟨d, rfl⟩ : ∃ d, g = h + d := ⟨g - h, by omega⟩
  have e1 : h - (h + d) = 0 := by omega
  have e2 : h + d - h = d := by omega
  have e3 : -((h : Int) - ((h + d : Nat) : Int)) = (d : Int) := by omega
  unfold Kv363.Abs.at_
  rw [e1, e2, e3, Nat.mul_zero, Nat.add_zero, Int.natCast_mul, Int.mul_comm]
def spCostAt (A : Ad) : Sp := fun vs H Q _ => ∃ (r dx g t : Addr) (a : Abs) (i h : Nat), vs = [.ref r, .int i, .int h] ∧ RoadAt A.C_Road H r dx g t a ∧ WF a ∧ i < a.ground.length ∧ h ≤ 40 ∧ Q (onv (costAt a i h)) H
section
variable {P : Program} {w : World} {K : PySem.W.Frag} {mg : Str → Option Value} {base : Heap} {A : Ad}
theorem ok_cost_at (T : Txt K mg A) : FnOk P w K mg base CX0 1 A.f_cost_at A.d_cost_at ["road", "station", "height"] (spCostAt A) := by
  refine T.F_cost_at.ok sc_cost_at (fun vs H Q E h => ?_) (fun cdv B outer s H vs Q E hr h => ?_)
  · obtain ⟨_, _, _, _, _, _, _, rfl, _⟩ := h
    rfl
  · obtain ⟨r, dx, g, t, a, i, h, rfl, R, W, hi, hh, k⟩ := h
    have h1 := R.ins
    have hT := getD_onv (cs := a.fix) (k := i) (by rw [W.len]; exact hi)
    have hG := getD_nv (cs := a.ground) (k := i) hi
    have hg := W.gle i
    refine ⟨_, (pss_cons (ps_set (i := 3) sc_cost_at.nd rfl (by first | exact Or.inl rfl | exact Or.inr rfl) (pe_ix ix_list (pe_fld (pv 0) rfl) (pv 1) (fun _ _ => rfl)))
      (pss_cons (ps_if (PW.pt (pw_and (pt_cmpR op_notN (pv 3) pe_non (nomark _)) (pw_and1 (pt_cmpR op_ne (pv 3) (pv 2) (nomark _)))))
      (pss_one (ps_ret pe_non))
      pss_nil)
      (pss_cons (ps_set (i := 4) sc_cost_at.nd rfl (by first | exact Or.inl rfl | exact Or.inr rfl) (pe_op op_sub (pv 2) (pe_ix ix_list (pe_fld (pv 0) rfl) (pv 1) (fun _ _ => rfl))))
      (pss_cons (ps_if (pt_cmpR op_gt (pv 4) pe_int (nomark _))
      (pss_one (ps_ret (pe_op op_mul (pv 4) (pe_fld (pv 0) rfl))))
      pss_nil)
      (pss_one (ps_ret (pe_op op_mul (pe_un un_neg (pv 4)) (pe_fld (pv 0) rfl)))))))), ?_⟩
    simp_arith [h1, HO.ins.injEq, T.cl_Road, T.a_Road_told, T.a_Road_ground, T.a_Road_cut_price, T.a_Road_fill_price, rf_ground, rf_told, rf_cut, rf_fill]
    refine ⟨_, SqL.of R.tl, _, atI_nat hT, ?_⟩
    have fin : okFix (a.fix.getD i none) h = true → (if (0 : Int) < (h : Int) - ((a.ground.getD i 0 : Nat) : Int) then CMul ((h : Int) - ((a.ground.getD i 0 : Nat) : Int)) (a.fillp : Int) ∧ Q (V.int (((h : Int) - ((a.ground.getD i 0 : Nat) : Int)) * (a.fillp : Int))) H
        else CMul (-((h : Int) - ((a.ground.getD i 0 : Nat) : Int))) (a.cutp : Int) ∧ Q (V.int (-((h : Int) - ((a.ground.getD i 0 : Nat) : Int)) * (a.cutp : Int))) H) := by
      intro ok
      unfold costAt at k
      rw [if_pos ok, onv_some] at k
      by_cases c : (0 : Int) < (h : Int) - ((a.ground.getD i 0 : Nat) : Int)
      · rw [if_pos c, at_fill c]
        exact ⟨.inl ⟨by omega, by omega⟩, k⟩
      · rw [if_neg c, at_cut c]
        exact ⟨.inl ⟨by omega, by omega⟩, k⟩
    cases e : a.fix.getD i none with
    | none =>
      simp_arith [onv_none]
      exact ⟨_, SqL.of R.gr, _, atI_nat hG, _, rfl, fin (by rw [e]; rfl)⟩
    | some x =>
      simp_arith [onv_some]
      by_cases hx : x = h
      · rw [if_pos (by omega)]
        exact ⟨_, SqL.of R.gr, _, atI_nat hG, _, rfl, fin (by rw [e]; exact beq_iff_eq.mpr hx)⟩
      · rw [if_neg (by omega)]
        have : ¬ okFix (a.fix.getD i none) h = true := by rw [e]; exact fun z => hx (beq_iff_eq.mp z)
        unfold costAt at k
        rw [if_neg this] at k
        exact k
def spCostsAt (A : Ad) : Sp := fun vs H Q _ => ∃ (r dx g t : Addr) (a : Abs) (i : Nat), vs = [.ref r, .int i] ∧ RoadAt A.C_Road H r dx g t a ∧ WF a ∧ i < a.ground.length ∧ ∀ l H', H l = none → Same H H' → H' l = some (.lst ((costsAt a i).map onv)) → Q (.ref l) H'
theorem ok_costs_at (T : Txt K mg A) : FnOk P w K mg base CX0 2 A.f_costs_at A.d_costs_at ["road", "station"] (spCostsAt A) := by
  refine T.F_costs_at.ok sc_costs_at (fun vs H Q E h => ?_) (fun cdv B outer s H vs Q E hr h => ?_)
  · obtain ⟨_, _, _, _, _, _, rfl, _⟩ := h
    rfl
  · obtain ⟨r, dx, g, t, a, i, rfl, R, W, hi, k⟩ := h
    refine ⟨_, (pss_one (ps_ret (pe_lc (own := [("height", 2)]) rfl sc_costs_at.nd (pi_range1 rfl T.n_range (pa_cons (pe_op op_add (pe_gi T.c_HIGHEST rfl) pe_int) pa_nil)) (blkOk_by (N := ["road", "station", "height"]) (sc := defScope s_costs_at) (by decide +kernel)) (fun _ _ _ _ _ => (pg_name (i := 2) sc_costs_at.nd rfl (by first | exact Or.inl rfl | exact Or.inr rfl))) (fun _ _ _ _ _ => pts_nil) (fun _ _ _ _ _ => (pe_call (ok_cost_at T) (hr.mono (by decide)) rfl T.m_cost_at T.F_cost_at.kp T.b_cost_at .nil pass0 (pa_cons (pv 0) (pa_cons (pv 1) (pa_cons (pv 2) pa_nil)))))))), ?_⟩
    simp_arith []
    refine ⟨by omega, by omega, ?_⟩
    refine lcK_range ((costsAt a i).map onv) (by simp [costsAt]) (by decide) ?_ k
    intro j y H' R' hj hy s1 kk
    simp_arith [wipe, spCostAt]
    refine ⟨dx, g, t, a, i, rfl, j, by omega, R.same s1, W, hi, by omega, ?_⟩
    have e : y = onv (costAt a i j) := by
      have := hy
      unfold costsAt at this
      rw [List.map_map, List.getElem?_map, List.getElem?_range (by omega)] at this
      exact (Option.some.inj this).symm
    rw [← e]
    exact kk _ (Same.refl _)
end
end LL

set_option Elab.async false
set_option linter.all false
set_option maxRecDepth 100000
set_option maxHeartbeats 4000000
open L2 in
local macro_rules | `(tactic| simp_arith [$ts,*]) => `(tactic| simp (config := { decide := false, zeta := true }) only [tSeq, tNext, tRet, tIfS, tAsg, tDrop, gName, tVar, tC, tOp, tUn, tChain, tTest, tB, tAnd, tOr, tNot, tAndV, tOrV, tNotV, tIf, rI0, rI, rU, rEq, rNe, tCB, tCons, tFor_eq, tLc_eq, iRng1, iRng2, iRng3, iList, iZip, iEnum, tFld, rIxL, rIxT, rSlL, tSl, tPart, tNoPart, tLst, gTup, gCons, gNil, gSub, rSetL, sFld, tMeth, tMake, tBM, tBM0, rAppend, rExtend, rInsert0, rCat, rAll, rAny, rSum, rMax, rMin, tAug, ipI, tNil, tCall, scal, start, List.map_cons, List.map_nil, List.length_cons, List.length_nil, List.replicate_succ, List.replicate_zero, Nat.reduceSub, Nat.reduceAdd, Nat.add_sub_cancel, Nat.sub_self, List.set, List.append_nil, List.cons_append, List.nil_append, List.append_eq,
  List.getElem?_cons_zero, List.getElem?_cons_succ, Option.some.injEq, V.int.injEq, V.bl.injEq, V.ref.injEq, List.cons.injEq, and_true, true_and, exists_eq_left, exists_eq_left', exists_and_left, exists_eq, exists_const, decide_eq_true_eq, Bool.not_eq_true', decide_eq_false_iff_not, reduceCtorEq, and_assoc, cxK, if_true, if_false, exists_eq', ite_not, $ts,*])
namespace LL
open PySem PySem.Spec PyProof.Rows L2
open Kv363 (Abs okFix)
def restAt (rs : List (Option Nat)) (g : Nat) (c : Option Nat) (h : Nat) : Option Nat := match c with
  | none => none
  | some c => match bestStep rs h g with
    | none => none
    | some k => (rs.getD k none).map (c + ·)
def withRest (cs rs : List (Option Nat)) (g : Nat) : List (Option Nat) := cs.zipIdx.map fun x => restAt rs g x.1 x.2
theorem withRest_len {cs rs : List (Option Nat)} {g : Nat} : (withRest cs rs g).length = cs.length := by simp [withRest]
theorem withRest_at {cs rs : List (Option Nat)} {g i : Nat} {c : Option Nat} (h : cs[i]? = some c) : (withRest cs rs g)[i]? = some (restAt rs g c i) := by
  unfold withRest
  rw [List.getElem?_map, List.getElem?_zipIdx, h]
  simp
theorem bestStep_ok {cs : List (Option Nat)} {h g k : Nat} (e : bestStep cs h g = some k) : ∃ d, cs.getD k none = some d := by
  have := bsGo_ok cs _ none (by simp) k e
  exact Option.isSome_iff_exists.mp this
theorem getD_lt {cs : List (Option Nat)} {k d : Nat} (h : cs.getD k none = some d) : k < cs.length := by
  by_cases hk : k < cs.length
  · exact hk
  · rw [List.getD_eq_getElem?_getD, List.getElem?_eq_none (by omega)] at h
    cases h
def spRest (K : PySem.W.Frag) : Sp := fun vs H Q _ => ∃ (c r : Addr) (cs rs : List (Option Nat)) (g : Nat), vs = [.ref c, .ref r, .int g] ∧ H c = some (.lst (cs.map onv)) ∧ H r = some (.lst (rs.map onv)) ∧ cs.length = 41 ∧ rs.length = 41 ∧ g ≤ 1000 ∧
  ∀ l H', H l = none → Same H H' → H' l = some (.lst ((withRest cs rs g).map onv)) → Q (.ref l) H'
section
variable {P : Program} {w : World} {K : PySem.W.Frag} {mg : Str → Option Value} {base : Heap} {A : Ad}
theorem ok_costs_with_rest (T : Txt K mg A) : FnOk P w K mg base CX0 2 A.f_costs_with_rest A.d_costs_with_rest ["costs", "rest", "grade"] (spRest K) := by
  refine T.F_costs_with_rest.ok sc_costs_with_rest (fun vs H Q E h => ?_) (fun cdv B outer s H vs Q E hr h => ?_)
  · obtain ⟨_, _, _, _, _, rfl, _⟩ := h
    rfl
  · obtain ⟨c, r, cs, rs, g, rfl, hc, hrr, hl1, hl2, hg, k⟩ := h
    refine ⟨_, (pss_cons (ps_set (i := 3) sc_costs_with_rest.nd rfl (by first | exact Or.inl rfl | exact Or.inr rfl) (pe_lst pa_nil))
      (pss_cons (ps_for PassesOwn.never rfl (pi_enum rfl T.n_enumerate (pa_cons (pv 0) pa_nil)) (pg_tup (n := 2) rfl (pgs_cons (pg_name (i := 4) sc_costs_with_rest.nd rfl (by first | exact Or.inl rfl | exact Or.inr rfl)) (pgs_cons (pg_name (i := 5) sc_costs_with_rest.nd rfl (by first | exact Or.inl rfl | exact Or.inr rfl)) pgs_nil)))
      (pss_cons (ps_set (i := 6) sc_costs_with_rest.nd rfl (by first | exact Or.inl rfl | exact Or.inr rfl) (pe_ifExp (pt_cmpR op_isN (pv 5) pe_non (nomark _)) pe_non (pe_call (ok_best_step T) (hr.mono (by decide)) rfl T.m_best_step T.F_best_step.kp T.b_best_step .nil pass0 (pa_cons (pv 1) (pa_cons (pv 4) (pa_cons (pv 2) pa_nil))))))
      (pss_one (ps_expr (pe_bm PySem.F.plainAttrs_list PySem.F.slot_list_append PySem.F.type_list_append mt_append (pv 3) (pa_cons (pe_ifExp (pt_cmpR op_isN (pv 6) pe_non (nomark _)) pe_non (pe_op op_add (pv 5) (pe_ix ix_list (pv 1) (pv 6) (fun _ _ => rfl)))) pa_nil))))))
      (pss_one (ps_ret (pv 3))))), ?_⟩
    simp_arith []
    refine ⟨Nat.zero_le _, fun l hl => ?_⟩
    have s0 : Same H (upd H l (.lst [])) := (Same.refl H).upd hl
    refine ⟨_, SqL.of (s0 _ _ hc), ?_⟩
    refine forK_enum (xs := cs.map onv) (fun i σ H' => Same H H' ∧ H' l = some (.lst (((withRest cs rs g).take i).map onv)) ∧ ∃ v4 v5 v6, σ = [some (.ref c), some (.ref r), some (.int g), some (.ref l), v4, v5, v6]) ⟨s0, upd_same, _, _, _, rfl⟩ (fun i σ H' _ p => SqL.of (p.1 _ _ hc)) ?_ ?_
    · rintro i x T' σ H' hx hT ⟨s1, e1, v4, v5, v6, rfl⟩
      have hi : i < cs.length := by
        have := (List.getElem?_eq_some_iff.mp hx).1
        simpa using this
      obtain ⟨co, hco, rfl⟩ : ∃ co, cs[i]? = some co ∧ x = onv co := by
        rw [List.getElem?_map] at hx
        cases e : cs[i]? with
        | none => rw [e] at hx; cases hx
        | some co => rw [e] at hx; exact ⟨co, rfl, (Option.some.inj hx).symm⟩
      have s2 : Same H' (upd H' T' (.tup [.int (i : Nat), onv co])) := (Same.refl H').upd hT
      have nx : ∀ H4, Same H' H4 → Same H (upd H4 l (.lst (((withRest cs rs g).take i).map onv ++ [onv (restAt rs g co i)]))) ∧ (upd H4 l (.lst (((withRest cs rs g).take i).map onv ++ [onv (restAt rs g co i)]))) l = some (.lst (((withRest cs rs g).take (i + 1)).map onv)) := fun H4 s4 =>
        ⟨(s1.trans s4).upd hl, by rw [upd_same, take_snocV (withRest_at hco), List.map_append]; rfl⟩
      simp_arith []
      refine ⟨_, SqT.of upd_same, ?_⟩
      simp_arith [spBest]
      generalize upd H' T' (HO.tup [V.int (i : Nat), onv co]) = H2 at s2 ⊢
      have e2 := s2 _ _ e1
      have ty : tyV K "list" (V.ref l) H2 := .inl ⟨rfl, _, SqL.of e2⟩
      have lz : (((withRest cs rs g).take i).map onv).length < sizeLine := by
        rw [List.length_map, List.length_take, withRest_len]
        exact Nat.lt_of_le_of_lt (Nat.min_le_right _ _) (by rw [hl1]; decide)
      cases co with
      | none =>
        simp_arith [onv_none]
        exact ⟨ty, _, e2, lz, nx _ s2⟩
      | some cv =>
        simp_arith [onv_some]
        refine ⟨rs, i, rfl, g, rfl, SqL.of (s2 _ _ (s1 _ _ hrr)), hl2, by omega, hg, ty, ?_⟩
        have nx := nx _ s2
        unfold restAt at nx
        dsimp only at nx
        cases e : bestStep rs i g with
        | none =>
          rw [e] at nx
          simp_arith [onv_none]
          exact ⟨_, e2, lz, nx⟩
        | some kk =>
          rw [e] at nx
          obtain ⟨d, hd⟩ := bestStep_ok e
          have hk := getD_onv (cs := rs) (k := kk) (getD_lt hd)
          rw [hd] at hk
          dsimp only at nx
          rw [hd] at nx
          simp_arith [onv_some]
          exact ⟨_, SqL.of (s2 _ _ (s1 _ _ hrr)), _, atI_nat hk, _, rfl, _, e2, lz, nx⟩
    · rintro σ H' ⟨s1, e1, v4, v5, v6, rfl⟩
      rw [List.length_map, List.take_of_length_le (by rw [withRest_len]; exact Nat.le_refl _)] at e1
      simp_arith []
      exact k l H' hl s1 e1
end
end LL

set_option Elab.async false
set_option linter.all false
set_option maxRecDepth 100000
set_option maxHeartbeats 4000000
open L2 in
local macro_rules | `(tactic| simp_arith [$ts,*]) => `(tactic| simp (config := { decide := false, zeta := true }) only [tSeq, tNext, tRet, tIfS, tAsg, tDrop, gName, tVar, tC, tOp, tUn, tChain, tTest, tB, tAnd, tOr, tNot, tAndV, tOrV, tNotV, tIf, rI0, rI, rU, rEq, rNe, tCB, tCons, tFor_eq, tLc_eq, iRng1, iRng2, iRng3, iList, iZip, iEnum, tFld, rIxL, rIxT, rSlL, tSl, tPart, tNoPart, tLst, gTup, gCons, gNil, gSub, rSetL, sFld, tMeth, tMake, tBM, tBM0, rAppend, rExtend, rInsert0, rCat, rAll, rAny, rSum, rMax, rMin, tAug, ipI, tNil, tCall, scal, start, List.map_cons, List.map_nil, List.length_cons, List.length_nil, List.replicate_succ, List.replicate_zero, Nat.reduceSub, Nat.reduceAdd, Nat.add_sub_cancel, Nat.sub_self, List.set, List.append_nil, List.cons_append, List.nil_append, List.append_eq,
  List.getElem?_cons_zero, List.getElem?_cons_succ, Option.some.injEq, V.int.injEq, V.bl.injEq, V.ref.injEq, List.cons.injEq, and_true, true_and, exists_eq_left, exists_eq_left', exists_and_left, exists_eq, exists_const, decide_eq_true_eq, Bool.not_eq_true', decide_eq_false_iff_not, reduceCtorEq, and_assoc, cxK, if_true, if_false, exists_eq', ite_not, $ts,*])
namespace LL
open PySem PySem.Spec PyProof.Rows L2
open Kv363 (Abs okFix)
/-- the costs onward, d stations ahead of the last -/
def tabD (a : Abs) : Nat → List (Option Nat)
  | 0 => costsAt a (a.ground.length - 1)
  | d + 1 => withRest (costsAt a (a.ground.length - 2 - d)) (tabD a d) a.grade
theorem costsAt_len {a : Abs} {i : Nat} : (costsAt a i).length = 41 := by simp [costsAt]
theorem tabD_len {a : Abs} : ∀ d : Nat, (tabD a d).length = 41
  | 0 => costsAt_len
  | d + 1 => by unfold tabD; rw [withRest_len, costsAt_len]
def spOnward (A : Ad) : Sp := fun vs H Q _ => ∃ (r dx g t : Addr) (a : Abs), vs = [.ref r] ∧ RoadAt A.C_Road H r dx g t a ∧ WF a ∧
  ∀ l H' (ads : List Addr), H l = none → Same H H' → H' l = some (.lst (ads.map V.ref)) → ads.length = a.ground.length → (∀ j, j < a.ground.length → ∃ p, ads[j]? = some p ∧ H' p = some (.lst ((tabD a (a.ground.length - 1 - j)).map onv))) → Q (.ref l) H'
section
variable {P : Program} {w : World} {K : PySem.W.Frag} {mg : Str → Option Value} {base : Heap} {A : Ad}
theorem ok_costs_onward (T : Txt K mg A) : FnOk P w K mg base CX0 3 A.f_costs_onward A.d_costs_onward ["road"] (spOnward A) := by
  refine T.F_costs_onward.ok sc_costs_onward (fun vs H Q E h => ?_) (fun cdv B outer s H vs Q E hr h => ?_)
  · obtain ⟨_, _, _, _, _, rfl, _⟩ := h
    rfl
  · obtain ⟨r, dx, g, t, a, rfl, R, W, k⟩ := h
    have h1 := R.ins
    have h2 := W.two
    have h12 := W.top
    refine ⟨_, (pss_cons (ps_set (i := 1) sc_costs_onward.nd rfl (by first | exact Or.inl rfl | exact Or.inr rfl) (pe_op op_sub (pe_callB (call_len_seq) (by rfl) T.n_len bo_len (pa_cons (pe_fld (pv 0) rfl) pa_nil)) pe_int))
      (pss_cons (ps_set (i := 2) sc_costs_onward.nd rfl (by first | exact Or.inl rfl | exact Or.inr rfl) (pe_lst (pa_cons (pe_call (ok_costs_at T) (hr.mono (by decide)) rfl T.m_costs_at T.F_costs_at.kp T.b_costs_at .nil pass0 (pa_cons (pv 0) (pa_cons (pv 1) pa_nil))) pa_nil)))
      (pss_cons (ps_for PassesOwn.never rfl (pi_range3 rfl T.n_range (pa_cons (pe_op op_sub (pv 1) pe_int) (pa_cons (pe_un un_neg pe_int) (pa_cons (pe_un un_neg pe_int) pa_nil)))) (pg_name (i := 3) sc_costs_onward.nd rfl (by first | exact Or.inl rfl | exact Or.inr rfl))
      (pss_one (ps_expr (pe_bm PySem.F.plainAttrs_list PySem.F.slot_list_insert PySem.F.type_list_insert mt_insert0 (pv 2) (pa_cons pe_int (pa_cons (pe_call (ok_costs_with_rest T) (hr.mono (by decide)) rfl T.m_costs_with_rest T.F_costs_with_rest.kp T.b_costs_with_rest .nil pass0 (pa_cons (pe_call (ok_costs_at T) (hr.mono (by decide)) rfl T.m_costs_at T.F_costs_at.kp T.b_costs_at .nil pass0 (pa_cons (pv 0) (pa_cons (pv 3) pa_nil))) (pa_cons (pe_ix ix_list (pv 2) pe_int (fun _ _ => rfl)) (pa_cons (pe_fld (pv 0) rfl) pa_nil)))) pa_nil))))))
      (pss_one (ps_ret (pv 2)))))), ?_⟩
    simp_arith [h1, HO.ins.injEq, T.cl_Road, T.a_Road_ground, rf_ground, spCostsAt]
    refine ⟨_, .inl (SqL.of R.gr), dx, g, t, a, a.ground.length - 1, ?_, R, W, by omega, ?_⟩
    · rw [List.length_map]; omega
    intro p0 H1 hp0 s1 e1
    refine ⟨by decide, fun l hl => ?_⟩
    rw [List.length_map]
    have hl0 : H l = none := s1.free hl
    have nl : p0 ≠ l := ne_of_none e1 hl
    have s2 : Same H (upd H1 l (.lst [.ref p0])) := s1.upd hl0
    refine ⟨_, RgC.neg (by omega) (by omega) (by omega) (by omega), ?_⟩
    have en : ((a.ground.length : Int) - 1 - 1 - -1).toNat = a.ground.length - 1 := by omega
    rw [en]
    refine forK_rangeC (fun i σ H' => Same H H' ∧ (∃ v, σ = [some (.ref r), some (.int ((a.ground.length : Int) - 1)), some (.ref l), v]) ∧ ∃ ads : List Addr, H' l = some (.lst (ads.map V.ref)) ∧ ads.length = i + 1 ∧ ∀ j, j ≤ i → ∃ p, p ≠ l ∧ ads[j]? = some p ∧ H' p = some (.lst ((tabD a (i - j)).map onv))) ?_ ?_ ?_
    · refine ⟨s2, ⟨_, rfl⟩, [p0], upd_same, rfl, fun j hj => ?_⟩
      obtain rfl : j = 0 := by omega
      exact ⟨p0, nl, rfl, by rw [upd_ne nl]; exact e1⟩
    · rintro i σ H' hi ⟨s3, ⟨v, rfl⟩, ads, e3, hz, at_⟩
      have R3 := R.same s3
      have h3 := R3.ins
      simp_arith [h3, HO.ins.injEq, T.cl_Road, T.a_Road_grade, rf_grade, spCostsAt, spRest]
      refine ⟨.inl ⟨rfl, _, SqL.of e3⟩, dx, g, t, a, a.ground.length - 2 - i, by omega, R3, W, by omega, ?_⟩
      intro q H4 hq s4 e4
      obtain ⟨p, npl, hp, ep⟩ := at_ 0 (Nat.zero_le _)
      have h4 := s4 _ _ h3
      have hp0 : (ads.map V.ref)[0]? = some (V.ref p) := by rw [List.getElem?_map, hp]; rfl
      refine ⟨_, SqL.of (s4 _ _ e3), _, atI_nat hp0, ?_⟩
      simp_arith [h4, HO.ins.injEq, T.cl_Road, T.a_Road_grade, rf_grade]
      refine ⟨costsAt a (a.ground.length - 2 - i), tabD a i, a.grade, rfl, e4, s4 _ _ ep, costsAt_len, tabD_len _, Nat.le_trans W.k (by decide), ?_⟩
      intro q5 H5 hq5 s5 e5
      have s45 : Same H' H5 := s4.trans s5
      have e35 := s45 _ _ e3
      refine ⟨_, e35, ?_, ?_⟩
      · rw [List.length_map, hz]
        exact small1000 (by omega)
      have nq : q5 ≠ l := fun z => by rw [z, s4 _ _ e3] at hq5; cases hq5
      refine ⟨(s3.trans s45).upd hl0, q5 :: ads, upd_same, by rw [List.length_cons, hz], fun j hj => ?_⟩
      cases j with
      | zero => exact ⟨q5, nq, rfl, by rw [upd_ne nq]; exact e5⟩
      | succ j =>
        obtain ⟨p', n', hp', ep'⟩ := at_ j (by omega)
        have ej : i + 1 - (j + 1) = i - j := by omega
        exact ⟨p', n', hp', by rw [upd_ne n', ej]; exact s45 _ _ ep'⟩
    · rintro σ H' ⟨s3, ⟨v, rfl⟩, ads, e3, hz, at_⟩
      simp_arith []
      refine k l H' ads hl0 s3 e3 (by omega) fun j hj => ?_
      obtain ⟨p, _, hp, ep⟩ := at_ j (by omega)
      exact ⟨p, hp, ep⟩
end
end LL

set_option Elab.async false
set_option linter.all false
set_option maxRecDepth 100000
set_option maxHeartbeats 4000000
open L2 in
local macro_rules | `(tactic| simp_arith [$ts,*]) => `(tactic| simp (config := { decide := false, zeta := true }) only [tSeq, tNext, tRet, tIfS, tAsg, tDrop, gName, tVar, tC, tOp, tUn, tChain, tTest, tB, tAnd, tOr, tNot, tAndV, tOrV, tNotV, tIf, rI0, rI, rU, rEq, rNe, tCB, tCons, tFor_eq, tLc_eq, iRng1, iRng2, iRng3, iList, iZip, iEnum, tFld, rIxL, rIxT, rSlL, tSl, tPart, tNoPart, tLst, gTup, gCons, gNil, gSub, rSetL, sFld, tMeth, tMake, tBM, tBM0, rAppend, rExtend, rInsert0, rCat, rAll, rAny, rSum, rMax, rMin, tAug, ipI, tNil, tCall, scal, start, List.map_cons, List.map_nil, List.length_cons, List.length_nil, List.replicate_succ, List.replicate_zero, Nat.reduceSub, Nat.reduceAdd, Nat.add_sub_cancel, Nat.sub_self, List.set, List.append_nil, List.cons_append, List.nil_append, List.append_eq,
  List.getElem?_cons_zero, List.getElem?_cons_succ, Option.some.injEq, V.int.injEq, V.bl.injEq, V.ref.injEq, List.cons.injEq, and_true, true_and, exists_eq_left, exists_eq_left', exists_and_left, exists_eq, exists_const, decide_eq_true_eq, Bool.not_eq_true', decide_eq_false_iff_not, reduceCtorEq, and_assoc, cxK, if_true, if_false, exists_eq', ite_not, $ts,*])
namespace LL
open PySem PySem.Spec PyProof.Rows L2
open Kv363 (Abs okFix)
/-- the walk's height at a station -/
def walkH (a : Abs) (h0 : Nat) : Nat → Nat
  | 0 => h0
  | i + 1 => (bestStep (tabD a (a.ground.length - 1 - (i + 1))) (walkH a h0 i) a.grade).getD 0
def cheapM (a : Abs) : Option (List Nat) := match (tabD a (a.ground.length - 1)).getD ((a.fix.getD 0 none).getD 0) none with
  | none => none
  | some _ => some ((List.range a.ground.length).map (walkH a ((a.fix.getD 0 none).getD 0)))
theorem restAt_some {rs : List (Option Nat)} {g h d : Nat} {c : Option Nat} (e : restAt rs g c h = some d) : ∃ k v, bestStep rs h g = some k ∧ rs.getD k none = some v := by
  unfold restAt at e
  cases c with
  | none => cases e
  | some c =>
    dsimp only at e
    cases q : bestStep rs h g with
    | none => rw [q] at e; cases e
    | some k =>
      obtain ⟨v, hv⟩ := bestStep_ok q
      exact ⟨k, v, rfl, hv⟩
theorem tab_next {a : Abs} {d h v : Nat} (e : (tabD a (d + 1)).getD h none = some v) : ∃ k v', bestStep (tabD a d) h a.grade = some k ∧ (tabD a d).getD k none = some v' := by
  have hl := getD_lt e
  have hc : ∃ c, (costsAt a (a.ground.length - 2 - d))[h]? = some c := ⟨_, List.getElem?_eq_getElem (by rw [costsAt_len]; rw [tabD_len] at hl; exact hl)⟩
  obtain ⟨c, hc⟩ := hc
  have e2 := withRest_at (rs := tabD a d) (g := a.grade) hc
  rw [List.getD_eq_getElem?_getD] at e
  unfold tabD at e
  rw [e2] at e
  exact restAt_some e
theorem walk_ok {a : Abs} {h0 v : Nat} (e : (tabD a (a.ground.length - 1)).getD h0 none = some v) : ∀ i, i < a.ground.length → ∃ v', (tabD a (a.ground.length - 1 - i)).getD (walkH a h0 i) none = some v'
  | 0, _ => ⟨v, e⟩
  | i + 1, hi => by
    obtain ⟨v1, e1⟩ := walk_ok e i (by omega)
    have ed : a.ground.length - 1 - i = a.ground.length - 1 - (i + 1) + 1 := by omega
    rw [ed] at e1
    obtain ⟨k, v', h1, h2⟩ := tab_next e1
    refine ⟨v', ?_⟩
    unfold walkH
    rw [h1]
    exact h2
theorem walk_step {a : Abs} {h0 v i : Nat} (e : (tabD a (a.ground.length - 1)).getD h0 none = some v) (hi : i + 1 < a.ground.length) : bestStep (tabD a (a.ground.length - 1 - (i + 1))) (walkH a h0 i) a.grade = some (walkH a h0 (i + 1)) := by
  obtain ⟨v1, e1⟩ := walk_ok e i (by omega)
  have ed : a.ground.length - 1 - i = a.ground.length - 1 - (i + 1) + 1 := by omega
  rw [ed] at e1
  obtain ⟨k, v', h1, h2⟩ := tab_next e1
  rw [h1]
  show some k = some ((bestStep (tabD a (a.ground.length - 1 - (i + 1))) (walkH a h0 i) a.grade).getD 0)
  rw [h1]
  rfl
theorem walk_le {a : Abs} {h0 v i : Nat} (e : (tabD a (a.ground.length - 1)).getD h0 none = some v) (hi : i < a.ground.length) : walkH a h0 i ≤ 40 := by
  obtain ⟨v1, e1⟩ := walk_ok e i hi
  have := getD_lt e1
  rw [tabD_len] at this
  omega
theorem WF.fle {a : Abs} (h : WF a) {i x : Nat} (e : a.fix.getD i none = some x) : x ≤ 40 := by
  rw [List.getD_eq_getElem?_getD] at e
  cases q : a.fix[i]? with
  | none => rw [q] at e; cases e
  | some o =>
    rw [q] at e
    have e : o = some x := e
    subst e
    exact h.fx x (List.mem_of_getElem? q)
theorem cutV_1 (xs : List V) : cutV xs (some 1) none = xs.drop 1 := by
  unfold cutV HT.sIx
  cases xs with
  | nil => simp
  | cons x l => simp
def spCheap (A : Ad) : Sp := fun vs H Q _ => ∃ (r dx g t : Addr) (a : Abs), vs = [.ref r] ∧ RoadAt A.C_Road H r dx g t a ∧ WF a ∧ (cheapM a = none → ∀ H', Same H H' → Q .non H') ∧
  ∀ row, cheapM a = some row → ∀ l H', H l = none → Same H H' → H' l = some (.lst (row.map nv)) → Q (.ref l) H'
section
variable {P : Program} {w : World} {K : PySem.W.Frag} {mg : Str → Option Value} {base : Heap} {A : Ad}
theorem ok_cheapest (T : Txt K mg A) : FnOk P w K mg base CX0 4 A.f_cheapest A.d_cheapest ["road"] (spCheap A) := by
  refine T.F_cheapest.ok sc_cheapest (fun vs H Q E h => ?_) (fun cdv B outer s H vs Q E hr h => ?_)
  · obtain ⟨_, _, _, _, _, rfl, _⟩ := h
    rfl
  · obtain ⟨r, dx, g, t, a, rfl, R, W, k1, k2⟩ := h
    have h2 := W.two
    have h12 := W.top
    obtain ⟨h0, e0⟩ := Option.isSome_iff_exists.mp W.first
    have hh0 := W.fle e0
    refine ⟨_, (pss_cons (ps_set (i := 1) sc_cheapest.nd rfl (by first | exact Or.inl rfl | exact Or.inr rfl) (pe_call (ok_costs_onward T) (hr.mono (by decide)) rfl T.m_costs_onward T.F_costs_onward.kp T.b_costs_onward .nil pass0 (pa_cons (pv 0) pa_nil)))
      (pss_cons (ps_set (i := 2) sc_cheapest.nd rfl (by first | exact Or.inl rfl | exact Or.inr rfl) (pe_ix ix_list (pe_fld (pv 0) rfl) pe_int (fun _ _ => rfl)))
      (pss_cons (ps_if (pt_cmpR op_isN (pe_ix ix_list (pe_ix ix_list (pv 1) pe_int (fun _ _ => rfl)) (pv 2) (fun _ _ => rfl)) pe_non (nomark _))
      (pss_one (ps_ret pe_non))
      pss_nil)
      (pss_cons (ps_set (i := 3) sc_cheapest.nd rfl (by first | exact Or.inl rfl | exact Or.inr rfl) (pe_lst (pa_cons (pv 2) pa_nil)))
      (pss_cons (ps_for PassesOwn.never rfl (pi_list (pe_slice sl_list (pv 1) (po_some pe_int) po_none)) (pg_name (i := 4) sc_cheapest.nd rfl (by first | exact Or.inl rfl | exact Or.inr rfl))
      (pss_cons (ps_set (i := 2) sc_cheapest.nd rfl (by first | exact Or.inl rfl | exact Or.inr rfl) (pe_call (ok_best_step T) (hr.mono (by decide)) rfl T.m_best_step T.F_best_step.kp T.b_best_step .nil pass0 (pa_cons (pv 4) (pa_cons (pv 2) (pa_cons (pe_fld (pv 0) rfl) pa_nil)))))
      (pss_one (ps_expr (pe_bm PySem.F.plainAttrs_list PySem.F.slot_list_append PySem.F.type_list_append mt_append (pv 3) (pa_cons (pv 2) pa_nil))))))
      (pss_one (ps_ret (pv 3)))))))), ?_⟩
    simp_arith [spOnward]
    refine ⟨dx, g, t, a, R, W, ?_⟩
    intro l H1 ads hl s1 e1 hz at_
    have R1 := R.same s1
    have h1 := R1.ins
    have hT := getD_onv (cs := a.fix) (k := 0) (by rw [W.len]; omega)
    rw [e0, onv_some] at hT
    simp_arith [h1, HO.ins.injEq, T.cl_Road, T.a_Road_told, rf_told]
    refine ⟨_, SqL.of R1.tl, _, atI_nat hT, ?_⟩
    obtain ⟨p, hp, ep⟩ := at_ 0 (by omega)
    have hp0 : (ads.map V.ref)[0]? = some (V.ref p) := by rw [List.getElem?_map, hp]; rfl
    refine ⟨_, SqL.of e1, _, atI_nat hp0, ?_⟩
    simp_arith []
    have hc := getD_onv (cs := tabD a (a.ground.length - 1)) (k := h0) (by rw [tabD_len]; omega)
    refine ⟨_, SqL.of ep, _, atI_nat hc, ?_⟩
    cases ec : (tabD a (a.ground.length - 1)).getD h0 none with
    | none =>
      simp_arith [onv_none]
      refine k1 ?_ H1 s1
      unfold cheapM
      rw [e0]
      show (match (tabD a (a.ground.length - 1)).getD h0 none with | none => none | some _ => _) = none
      rw [ec]
    | some v0 =>
      have ek : cheapM a = some ((List.range a.ground.length).map (walkH a h0)) := by
        unfold cheapM
        rw [e0]
        show (match (tabD a (a.ground.length - 1)).getD h0 none with | none => none | some _ => some ((List.range a.ground.length).map (walkH a h0))) = _
        rw [ec]
      have k := k2 _ ek
      simp_arith [onv_some]
      refine ⟨by decide, fun q hq => ⟨_, SqL.of (((Same.refl H1).upd hq) _ _ e1), fun c hcn => ?_⟩⟩
      have nqc : q ≠ c := ne_of_none upd_same hcn
      have hc1 : H1 c = none := by rw [upd_ne nqc.symm] at hcn; exact hcn
      refine ⟨⟨_, SqL.of upd_same⟩, ?_⟩
      rw [cutV_1]
      refine forK_list (xs := (ads.map V.ref).drop 1) (fun i σ H' => Same H1 H' ∧ H' c = some (.lst ((ads.map V.ref).drop 1)) ∧ H' q = some (.lst (((List.range (i + 1)).map (walkH a h0)).map nv)) ∧ ∃ v4, σ = [some (.ref r), some (.ref l), some (.int (walkH a h0 i : Nat)), some (.ref q), v4]) ?_ (fun i σ H' _ p => SqL.of p.2.1) ?_ ?_
      · refine ⟨((Same.refl H1).upd hq).upd hc1, upd_same, ?_, none, rfl⟩
        rw [upd_ne nqc, upd_same]
        rfl
      · rintro i x σ H' hx ⟨s3, e3, e4, v4, rfl⟩
        have hi : i + 1 < a.ground.length := by
          have := (List.getElem?_eq_some_iff.mp hx).1
          rw [List.length_drop, List.length_map, hz] at this
          omega
        obtain ⟨p', hp', ep'⟩ := at_ (i + 1) hi
        obtain rfl : x = V.ref p' := by
          rw [List.getElem?_drop, List.getElem?_map, Nat.add_comm, hp'] at hx
          exact (Option.some.inj hx).symm
        have h3 := s3 _ _ h1
        simp_arith [h3, HO.ins.injEq, T.cl_Road, T.a_Road_grade, rf_grade, spBest]
        refine ⟨_, _, rfl, _, rfl, SqL.of (s3 _ _ ep'), tabD_len _, walk_le ec (by omega), Nat.le_trans W.k (by decide), .inl ⟨rfl, _, SqL.of e4⟩, _, e4, ?_, s3.upd hq, ?_, ?_, ?_⟩
        · rw [List.length_map, List.length_map, List.length_range]
          exact small1000 (by omega)
        · rw [upd_ne nqc.symm]
          exact e3
        · rw [upd_same, walk_step ec hi, List.range_succ (n := i + 1), List.map_append, List.map_append]
          rfl
        · rw [walk_step ec hi]
          rfl
      · rintro σ H' ⟨s3, e3, e4, v4, rfl⟩
        simp_arith []
        refine k q H' (s1.free hq) (s1.trans s3) ?_
        rw [e4, List.length_drop, List.length_map, hz]
        have : a.ground.length - 1 + 1 = a.ground.length := by omega
        rw [this]
end
end LL

set_option Elab.async false
set_option linter.all false
set_option maxRecDepth 100000
set_option maxHeartbeats 4000000
namespace LL
open Kv363 (Abs okFix Best pick heights TOP)
/-- the costs of a table -/
def costs (t : List (Option Best)) : List (Option Nat) := t.map (Option.map Best.cost)
theorem costs_getD (t : List (Option Best)) (k : Nat) : (costs t).getD k none = (t.getD k none).map Best.cost := by
  unfold costs
  rw [List.getD_eq_getElem?_getD, List.getD_eq_getElem?_getD, List.getElem?_map]
  cases t[k]? <;> rfl
/-- the lesser of the held one and the best of the rest -/
theorem bsGo_some (cs : List (Option Nat)) : ∀ (l : List Nat) (j d : Nat), cs.getD j none = some d → bsGo cs l (some j) = match bsGo cs l none with
    | none => some j
    | some m => if better cs m (some j) then some m else some j
  | [], j, d, _ => rfl
  | k :: l, j, d, hj => by
    show bsGo cs l (if better cs k (some j) then some k else some j) = match bsGo cs l (if better cs k none then some k else none) with
      | none => some j
      | some m => if better cs m (some j) then some m else some j
    cases hk : cs.getD k none with
    | none =>
      rw [better_n hk, better_n hk]
      exact bsGo_some cs l j d hj
    | some c =>
      have e1 : better cs k none = true := better_sn hk
      rw [e1, better_ss hk hj]
      rw [if_pos rfl, bsGo_some cs l k c hk]
      have hm := bsGo_ok cs l none (by simp)
      by_cases hlt : c < d
      · rw [decide_eq_true hlt, if_pos rfl, bsGo_some cs l k c hk]
        cases hr : bsGo cs l none with
        | none =>
          show some k = if better cs k (some j) then some k else some j
          rw [better_ss hk hj, decide_eq_true hlt]
          rfl
        | some m =>
          obtain ⟨e, he⟩ := Option.isSome_iff_exists.mp (hm m hr)
          dsimp only
          rw [better_ss he hk]
          by_cases h2 : e < c
          · rw [decide_eq_true h2, if_pos rfl]
            show some m = if better cs m (some j) then some m else some j
            rw [better_ss he hj, decide_eq_true (by omega)]
            rfl
          · rw [decide_eq_false h2, if_neg (by simp)]
            show some k = if better cs k (some j) then some k else some j
            rw [better_ss hk hj, decide_eq_true hlt]
            rfl
      · rw [decide_eq_false hlt, if_neg (by simp), bsGo_some cs l j d hj]
        cases hr : bsGo cs l none with
        | none =>
          show some j = if better cs k (some j) then some k else some j
          rw [better_ss hk hj, decide_eq_false hlt]
          rfl
        | some m =>
          obtain ⟨e, he⟩ := Option.isSome_iff_exists.mp (hm m hr)
          dsimp only
          rw [better_ss he hk, better_ss he hj]
          by_cases h2 : e < c
          · rw [decide_eq_true h2, if_pos rfl]
            show _ = if better cs m (some j) then some m else some j
            rw [better_ss he hj]
          · rw [decide_eq_false h2, decide_eq_false (show ¬ e < d by omega)]
            show some j = if better cs k (some j) then some k else some j
            rw [better_ss hk hj, decide_eq_false hlt]
            rfl
theorem pick_bs (t : List (Option Best)) : ∀ l : List Nat, pick (l.map fun k => t.getD k none) = (bsGo (costs t) l none).bind fun k => t.getD k none
  | [] => rfl
  | k :: l => by
    have ih := pick_bs t l
    show pick (t.getD k none :: l.map fun k => t.getD k none) = (bsGo (costs t) l (if better (costs t) k none then some k else none)).bind fun k => t.getD k none
    cases hk : t.getD k none with
    | none =>
      have hc : (costs t).getD k none = none := by rw [costs_getD, hk]; rfl
      rw [better_n hc]
      exact ih
    | some x =>
      have hc : (costs t).getD k none = some x.cost := by rw [costs_getD, hk]; rfl
      rw [better_sn hc, if_pos rfl, bsGo_some _ l k _ hc]
      show (match pick (l.map fun k => t.getD k none) with
        | none => some x
        | some y => if y.cost < x.cost then some y else some x) = _
      rw [ih]
      cases hr : bsGo (costs t) l none with
      | none => exact hk.symm
      | some m =>
        obtain ⟨e, he⟩ := Option.isSome_iff_exists.mp (bsGo_ok (costs t) l none (by simp) m hr)
        dsimp only
        rw [better_ss he hc]
        rw [costs_getD] at he
        cases hm : t.getD m none with
        | none => rw [hm] at he; cases he
        | some y =>
          rw [hm] at he
          have he : y.cost = e := Option.some.inj he
          subst he
          show (match (t.getD m none) with
            | none => some x
            | some y => if y.cost < x.cost then some y else some x) = _
          rw [hm]
          dsimp only
          by_cases h2 : y.cost < x.cost
          · rw [if_pos h2, decide_eq_true h2, if_pos rfl]
            exact hm.symm
          · rw [if_neg h2, decide_eq_false h2, if_neg (by simp)]
            exact hk.symm
theorem filter_near (a : Abs) (h : Nat) (hh : h ≤ 40) : (heights.filter fun k => a.near h k) = List.range' (h - a.grade) (min 40 (h + a.grade) + 1 - (h - a.grade)) := by
  generalize hlo : h - a.grade = lo
  generalize hm : min 40 (h + a.grade) + 1 - lo = m
  have e : heights = List.range' 0 lo ++ (List.range' lo m ++ List.range' (lo + m) (41 - (lo + m))) := by
    show List.range 41 = _
    rw [List.range_eq_range']
    have e2 : List.range' lo m ++ List.range' (lo + m) (41 - (lo + m)) = List.range' lo (m + (41 - (lo + m))) := by
      rw [← List.range'_append_1]
    have e3 : List.range' 0 lo ++ List.range' lo (m + (41 - (lo + m))) = List.range' 0 (lo + (m + (41 - (lo + m)))) := by
      have q := List.range'_append_1 (s := 0) (m := lo) (n := m + (41 - (lo + m)))
      rw [Nat.zero_add] at q
      exact q
    rw [e2, e3]
    congr 1
    omega
  rw [e, List.filter_append, List.filter_append]
  have f1 : (List.range' 0 lo).filter (fun k => a.near h k) = [] := by
    rw [List.filter_eq_nil_iff]
    intro k hk
    rw [List.mem_range'_1] at hk
    unfold Kv363.Abs.near
    simp
    omega
  have f2 : (List.range' lo m).filter (fun k => a.near h k) = List.range' lo m := by
    rw [List.filter_eq_self]
    intro k hk
    rw [List.mem_range'_1] at hk
    unfold Kv363.Abs.near
    simp
    omega
  have f3 : (List.range' (lo + m) (41 - (lo + m))).filter (fun k => a.near h k) = [] := by
    rw [List.filter_eq_nil_iff]
    intro k hk
    rw [List.mem_range'_1] at hk
    unfold Kv363.Abs.near
    simp
    omega
  rw [f1, f2, f3]
  simp
end LL

set_option Elab.async false
set_option linter.all false
set_option maxRecDepth 100000
set_option maxHeartbeats 4000000
namespace LL
open Kv363 (Abs okFix Best pick heights TOP)
def lineD (a : Abs) : Nat → Nat → List Nat
  | 0, h => [h]
  | d + 1, h => h :: lineD a d ((bestStep (tabD a d) h a.grade).getD 0)
theorem heights_map {α : Type} (f : Nat → Option α) (h : Nat) (hh : h ≤ 40) : (heights.map f).getD h none = f h := by
  show ((List.range 41).map f).getD h none = f h
  rw [List.getD_eq_getElem?_getD, List.getElem?_map, List.getElem?_range (by omega)]
  rfl
theorem heights_len {α : Type} (f : Nat → α) : (heights.map f).length = 41 := by
  show ((List.range 41).map f).length = 41
  simp
theorem rows_drop (a : Abs) (hl : a.fix.length = a.ground.length) {i : Nat} (hi : i < a.ground.length) : a.rows.drop i = (a.ground.getD i 0, a.fix.getD i none) :: a.rows.drop (i + 1) := by
  have h1 : i < (a.ground.zip a.fix).length := by rw [List.length_zip]; omega
  show (a.ground.zip a.fix).drop i = _ :: (a.ground.zip a.fix).drop (i + 1)
  rw [List.drop_eq_getElem_cons h1]
  congr 1
  rw [List.getElem_zip, List.getD_eq_getElem?_getD, List.getD_eq_getElem?_getD, List.getElem?_eq_getElem hi, List.getElem?_eq_getElem (by omega)]
  rfl
theorem rows_last (a : Abs) (hl : a.fix.length = a.ground.length) {i : Nat} (hi : a.ground.length ≤ i) : a.rows.drop i = [] := by
  apply List.drop_eq_nil_of_le
  unfold Kv363.Abs.rows
  rw [List.length_zip]
  omega
theorem table_len (a : Abs) : ∀ l : List (Nat × Option Nat), (a.table l).length = 41
  | [] => heights_len _
  | [_] => heights_len _
  | _ :: _ :: _ => heights_len _
theorem costs_tab {a : Abs} {t : List (Option Best)} {cs : List (Option Nat)} {f : Nat → List Nat} (h1 : t.length = 41) (h2 : cs.length = 41) (h : ∀ h, h ≤ 40 → t.getD h none = (cs.getD h none).map fun c => ⟨c, f h⟩) : costs t = cs := by
  apply List.ext_getElem?
  intro k
  by_cases hk : k ≤ 40
  · have e1 := costs_getD t k
    rw [h k hk] at e1
    have e2 : ((cs.getD k none).map fun c => (⟨c, f k⟩ : Best)).map Best.cost = cs.getD k none := by cases cs.getD k none <;> rfl
    rw [e2, List.getD_eq_getElem?_getD, List.getD_eq_getElem?_getD] at e1
    have q1 : k < (costs t).length := by unfold costs; rw [List.length_map]; omega
    have q2 : k < cs.length := by omega
    rw [List.getElem?_eq_getElem q1, List.getElem?_eq_getElem q2] at e1 ⊢
    exact congrArg some e1
  · rw [List.getElem?_eq_none (by unfold costs; rw [List.length_map]; omega), List.getElem?_eq_none (by omega)]
theorem entry {a : Abs} (W : WF a) : ∀ d, d < a.ground.length → ∀ h, h ≤ 40 → (a.table (a.rows.drop (a.ground.length - 1 - d))).getD h none = ((tabD a d).getD h none).map fun c => ⟨c, lineD a d h⟩
  | 0, hd, h, hh => by
    rw [rows_drop a W.len (by omega), rows_last a W.len (i := a.ground.length - 1 - 0 + 1) (by omega)]
    unfold Kv363.Abs.table
    rw [heights_map _ h hh]
    have er : (tabD a 0).getD h none = costAt a (a.ground.length - 1) h := heights_map (costAt a (a.ground.length - 1)) h hh
    rw [er]
    unfold costAt
    show (if okFix (a.fix.getD (a.ground.length - 1) none) h = true then some (⟨a.at_ (a.ground.getD (a.ground.length - 1) 0) h, [h]⟩ : Best) else none) = _
    by_cases c : okFix (a.fix.getD (a.ground.length - 1) none) h = true
    · rw [if_pos c, if_pos c]
      rfl
    · rw [if_neg c, if_neg c]
      rfl
  | d + 1, hd, h, hh => by
    have ih := entry W d (by omega)
    have ct := costs_tab (a := a) (table_len a _) (tabD_len d) ih
    have e1 : a.ground.length - 1 - (d + 1) + 1 = a.ground.length - 1 - d := by omega
    have e2 : a.ground.length - 1 - (d + 1) = a.ground.length - 2 - d := by omega
    rw [rows_drop a W.len (by omega), e1]
    generalize ht : a.table (a.rows.drop (a.ground.length - 1 - d)) = t at ih ct
    rw [rows_drop a W.len (i := a.ground.length - 1 - d) (by omega)] at ht ⊢
    unfold Kv363.Abs.table
    rw [ht, heights_map _ h hh]
    have hc : (costsAt a (a.ground.length - 2 - d))[h]? = some (costAt a (a.ground.length - 2 - d) h) := by
      unfold costsAt
      rw [List.getElem?_map, List.getElem?_range (by omega)]
      rfl
    have er : (tabD a (d + 1)).getD h none = restAt (tabD a d) a.grade (costAt a (a.ground.length - 2 - d) h) h := by
      rw [List.getD_eq_getElem?_getD]
      show (withRest (costsAt a (a.ground.length - 2 - d)) (tabD a d) a.grade)[h]?.getD none = _
      rw [withRest_at hc]
      rfl
    rw [er, e2, filter_near a h hh, pick_bs, ct]
    show (if okFix (a.fix.getD (a.ground.length - 2 - d) none) h = true then ((bestStep (tabD a d) h a.grade).bind fun k => t.getD k none).map (fun b => (⟨a.at_ (a.ground.getD (a.ground.length - 2 - d) 0) h + b.cost, h :: b.line⟩ : Best)) else none) = _
    unfold costAt
    by_cases c : okFix (a.fix.getD (a.ground.length - 2 - d) none) h = true
    · rw [if_pos c, if_pos c]
      unfold restAt lineD
      dsimp only
      cases hb : bestStep (tabD a d) h a.grade with
      | none => rfl
      | some k =>
        obtain ⟨v, hv⟩ := bestStep_ok hb
        have hk := getD_lt hv
        rw [tabD_len] at hk
        have := ih k (by omega)
        rw [hv] at this
        dsimp only [Option.bind]
        rw [this]
        dsimp only [Option.map]
        rw [hv]
        rfl
    · rw [if_neg c, if_neg c]
      rfl
theorem lineD_walk {a : Abs} {h0 : Nat} : ∀ d i, i + d + 1 = a.ground.length → lineD a d (walkH a h0 i) = (List.range' i (d + 1)).map (walkH a h0)
  | 0, i, _ => rfl
  | d + 1, i, hi => by
    have e : a.ground.length - 1 - (i + 1) = d := by omega
    have ih := lineD_walk (a := a) (h0 := h0) d (i + 1) (by omega)
    show walkH a h0 i :: lineD a d ((bestStep (tabD a d) (walkH a h0 i) a.grade).getD 0) = walkH a h0 i :: (List.range' (i + 1) (d + 1)).map (walkH a h0)
    rw [← ih]
    show _ = walkH a h0 i :: lineD a d ((bestStep (tabD a (a.ground.length - 1 - (i + 1))) (walkH a h0 i) a.grade).getD 0)
    rw [e]
theorem pick_none : ∀ l : List (Option Best), (∀ x ∈ l, x = none) → pick l = none
  | [], _ => rfl
  | none :: l, h => pick_none l fun x hx => h x (List.mem_cons_of_mem _ hx)
  | some y :: l, h => by cases h (some y) (List.mem_cons.mpr (.inl rfl))
theorem pick_only : ∀ (l : List (Option Best)) (j : Nat), (∀ i, i ≠ j → l.getD i none = none) → pick l = l.getD j none
  | [], j, _ => by simp [pick]
  | x :: l, 0, h => by
    have hl : pick l = none := pick_none l fun y hy => by
      obtain ⟨i, hi, rfl⟩ := List.getElem_of_mem hy
      have := h (i + 1) (by omega)
      rw [List.getD_eq_getElem?_getD, List.getElem?_cons_succ, List.getElem?_eq_getElem hi] at this
      exact this
    cases x with
    | none => exact hl
    | some y =>
      show (match pick l with | none => some y | some z => if z.cost < y.cost then some z else some y) = some y
      rw [hl]
  | x :: l, j + 1, h => by
    have hx : x = none := h 0 (by omega)
    subst hx
    have ih := pick_only l j fun i hi => by
      have := h (i + 1) (by omega)
      rw [List.getD_eq_getElem?_getD, List.getElem?_cons_succ] at this
      rw [List.getD_eq_getElem?_getD]
      exact this
    show pick l = _
    rw [ih, List.getD_eq_getElem?_getD, List.getD_eq_getElem?_getD, List.getElem?_cons_succ]
/-- the cheapest line of the specification is the walk's -/
theorem best_eq {a : Abs} (W : WF a) {h0 : Nat} (e0 : a.fix.getD 0 none = some h0) : a.best = ((tabD a (a.ground.length - 1)).getD h0 none).map fun c => ⟨c, (List.range a.ground.length).map (walkH a h0)⟩ := by
  have h2 := W.two
  have hn := entry W (a.ground.length - 1) (by omega)
  have e1 : a.ground.length - 1 - (a.ground.length - 1) = 0 := by omega
  rw [e1, List.drop_zero] at hn
  have hle := W.fle e0
  unfold Kv363.Abs.best
  rw [pick_only _ h0 ?_]
  · rw [hn h0 hle]
    have := lineD_walk (a := a) (h0 := h0) (a.ground.length - 1) 0 (by omega)
    have e3 : a.ground.length - 1 + 1 = a.ground.length := by omega
    rw [e3, ← List.range_eq_range'] at this
    show _ = ((tabD a (a.ground.length - 1)).getD h0 none).map fun c => (⟨c, (List.range a.ground.length).map (walkH a h0)⟩ : Best)
    rw [← this]
    rfl
  · intro i hi
    by_cases hi40 : i ≤ 40
    · have hr := rows_drop a W.len (i := 0) (by omega)
      rw [List.drop_zero, Nat.zero_add] at hr
      rw [hr, rows_drop a W.len (i := 1) (by omega)]
      unfold Kv363.Abs.table
      rw [heights_map _ i hi40]
      rw [if_neg]
      rw [e0]
      intro z
      exact hi (eq_of_beq z).symm
    · rw [List.getD_eq_getElem?_getD, List.getElem?_eq_none (by rw [table_len]; omega)]
      rfl
theorem cheapM_best {a : Abs} (W : WF a) : cheapM a = a.best.map Best.line := by
  obtain ⟨h0, e0⟩ := Option.isSome_iff_exists.mp W.first
  rw [best_eq W e0]
  unfold cheapM
  rw [e0]
  show (match (tabD a (a.ground.length - 1)).getD h0 none with | none => none | some _ => some ((List.range a.ground.length).map (walkH a h0))) = _
  cases (tabD a (a.ground.length - 1)).getD h0 none <;> rfl
end LL

set_option Elab.async false
set_option linter.all false
set_option maxRecDepth 100000
set_option maxHeartbeats 4000000
open L2 in
local macro_rules | `(tactic| simp_arith [$ts,*]) => `(tactic| simp (config := { decide := false, zeta := true }) only [tSeq, tNext, tRet, tIfS, tAsg, tDrop, gName, tVar, tC, tOp, tUn, tChain, tTest, tB, tAnd, tOr, tNot, tAndV, tOrV, tNotV, tIf, rI0, rI, rU, rEq, rNe, tCB, tCons, tFor_eq, tLc_eq, iRng1, iRng2, iRng3, iList, iZip, iEnum, tFld, rIxL, rIxT, rSlL, tSl, tPart, tNoPart, tLst, gTup, gCons, gNil, gSub, rSetL, sFld, tMeth, tMake, tBM, tBM0, rAppend, rExtend, rInsert0, rCat, rAll, rAny, rSum, rMax, rMin, tAug, ipI, tNil, tCall, scal, start, List.map_cons, List.map_nil, List.length_cons, List.length_nil, List.replicate_succ, List.replicate_zero, Nat.reduceSub, Nat.reduceAdd, Nat.add_sub_cancel, Nat.sub_self, List.set, List.append_nil, List.cons_append, List.nil_append, List.append_eq,
  List.getElem?_cons_zero, List.getElem?_cons_succ, Option.some.injEq, V.int.injEq, V.bl.injEq, V.ref.injEq, List.cons.injEq, and_true, true_and, exists_eq_left, exists_eq_left', exists_and_left, exists_eq, exists_const, decide_eq_true_eq, Bool.not_eq_true', decide_eq_false_iff_not, reduceCtorEq, and_assoc, cxK, if_true, if_false, exists_eq', ite_not, $ts,*])
namespace LL
open PySem PySem.Spec PyProof.Rows L2
open Kv363 (Abs okFix)
theorem map_at {α β : Type} {l : List α} {f : α → β} {i : Nat} {y : β} (h : (l.map f)[i]? = some y) : ∃ x, l[i]? = some x ∧ y = f x := by
  rw [List.getElem?_map] at h
  cases e : l[i]? with
  | none => rw [e] at h; cases h
  | some x => rw [e] at h; exact ⟨x, rfl, (Option.some.inj h).symm⟩
theorem zip_at {α β : Type} {l : List α} {m : List β} {i : Nat} {x : α} {y : β} (h1 : l[i]? = some x) (h2 : m[i]? = some y) : (l.zip m)[i]? = some (x, y) := by
  rw [List.getElem?_zip_eq_some]
  exact ⟨h1, h2⟩
theorem zmap_at {α β γ : Type} {l : List α} {m : List β} {f : α × β → γ} {i : Nat} {x : α} {y : β} {z : γ} (h1 : l[i]? = some x) (h2 : m[i]? = some y) (h : ((l.zip m).map f)[i]? = some z) : z = f (x, y) := by
  obtain ⟨p, hp, e⟩ := map_at h
  rw [zip_at h1 h2] at hp
  cases hp
  exact e
/-- a look at a road and a row -/
def spRow (K : PySem.W.Frag) (A : Ad) (f : Abs → List Nat → V) (ok : Abs → List Nat → Prop) : Sp := fun vs H Q _ => ∃ (r dx g t row : Addr) (a : Abs) (ns : List Nat), vs = [.ref r, .ref row] ∧ RoadAt A.C_Road H r dx g t a ∧ SqL K H row (ns.map nv) ∧ ok a ns ∧ ∀ H', Same H H' → Q (f a ns) H'
def keepsTold (a : Abs) (l : List Nat) : Bool := (a.fix.zip l).all fun x => okFix x.1 x.2
def keepsGrade (a : Abs) (l : List Nat) : Bool := (l.zip (l.drop 1)).all fun x => a.near x.1 x.2
def short (l : List Nat) : Prop := l.length ≤ 1000
theorem nv_def (n : Nat) : nv n = .int (n : Int) := rfl
section
variable {P : Program} {w : World} {K : PySem.W.Frag} {mg : Str → Option Value} {base : Heap} {A : Ad}
theorem ok_keeps_told (T : Txt K mg A) : FnOk P w K mg base CX0 1 A.f_keeps_told A.d_keeps_told ["road", "row"] (spRow K A (fun a l => .bl (keepsTold a l)) fun _ l => short l) := by
  refine T.F_keeps_told.ok sc_keeps_told (fun vs H Q E h => ?_) (fun cdv B outer s H vs Q E hr h => ?_)
  · obtain ⟨_, _, _, _, _, _, _, rfl, _⟩ := h
    rfl
  · obtain ⟨r, dx, g, t, row, a, ns, rfl, R, hS, hk, k⟩ := h
    have h1 := R.ins
    refine ⟨_, (pss_one (ps_ret (pe_callB (cr_all rfl) (by rfl) T.n_all bo_all (pa_cons (pe_lc (own := [("told", 2), ("height", 3)]) rfl sc_keeps_told.nd (pi_zip rfl T.n_zip (pa_cons (pe_fld (pv 0) rfl) (pa_cons (pv 1) pa_nil))) (blkOk_by (N := ["road", "row", "told", "height"]) (sc := defScope s_keeps_told) (by decide +kernel)) (fun _ _ _ _ _ => (pg_tupK (K := K) (n := 2) rfl rfl (pgs_cons (pg_name (i := 2) sc_keeps_told.nd rfl (by first | exact Or.inl rfl | exact Or.inr rfl)) (pgs_cons (pg_name (i := 3) sc_keeps_told.nd rfl (by first | exact Or.inl rfl | exact Or.inr rfl)) pgs_nil)))) (fun _ _ _ _ _ => pts_nil) (fun _ _ _ _ _ => (pe_or (pe_cmpR op_isN (pv 2) pe_non (nomark _)) (pe_one (pe_cmpR op_eq (pv 2) (pv 3) (nomark _)))))) pa_nil)))), ?_⟩
    simp_arith [h1, HO.ins.injEq, T.cl_Road, T.a_Road_told, rf_told]
    refine ⟨_, SqL.of R.tl, _, hS, ?_⟩
    refine lcK_zip ((a.fix.zip ns).map fun x => V.bl (okFix x.1 x.2)) (SqL.of R.tl) hS (by simp) ?_ ?_ ?_
    · rw [List.length_map, List.length_zip]
      exact Nat.le_of_lt (small1000 (Nat.le_trans (Nat.min_le_right _ _) hk))
    · intro i x y z T' H' R' hx hy hz s1 e1 kk
      obtain ⟨f, hf, rfl⟩ := map_at hx
      obtain ⟨n, hn, rfl⟩ := map_at hy
      obtain rfl := zmap_at hf hn hz
      simp_arith []
      refine ⟨_, SqT.of e1, ?_⟩
      simp_arith [wipe]
      cases f with
      | none =>
        simp_arith [onv_none]
        exact kk _ (Same.refl _)
      | some x =>
        simp_arith [onv_some, nv_def]
        have e : decide ((x : Int) = (n : Int)) = okFix (some x) n := by
          show _ = (x == n)
          rw [Bool.beq_eq_decide_eq]
          exact decide_eq_decide.mpr (by omega)
        rw [e]
        exact kk _ (Same.refl _)
    · intro D H' hD s1 e1
      simp_arith []
      refine ⟨(a.fix.zip ns).map fun x => okFix x.1 x.2, SqL.of (by rw [e1, List.map_map]; rfl), ?_⟩
      have : ((a.fix.zip ns).map fun x => okFix x.1 x.2).all id = keepsTold a ns := by unfold keepsTold; rw [List.all_map]; rfl
      rw [this]
      exact k H' s1
theorem near_def {a : Abs} {x y : Nat} : a.near x y = decide ((if (x : Int) - (y : Int) < 0 then -((x : Int) - (y : Int)) else (x : Int) - (y : Int)) ≤ (a.grade : Int)) := by
  unfold Kv363.Abs.near
  rw [← Bool.decide_and]
  apply decide_eq_decide.mpr
  split <;> omega
theorem ok_keeps_grade (T : Txt K mg A) : FnOk P w K mg base CX0 1 A.f_keeps_grade A.d_keeps_grade ["road", "row"] (spRow K A (fun a l => .bl (keepsGrade a l)) fun _ l => short l) := by
  refine T.F_keeps_grade.ok sc_keeps_grade (fun vs H Q E h => ?_) (fun cdv B outer s H vs Q E hr h => ?_)
  · obtain ⟨_, _, _, _, _, _, _, rfl, _⟩ := h
    rfl
  · obtain ⟨r, dx, g, t, row, a, ns, rfl, R, hS, hk, k⟩ := h
    have h1 := R.ins
    refine ⟨_, (pss_one (ps_ret (pe_callB (cr_all rfl) (by rfl) T.n_all bo_all (pa_cons (pe_lc (own := [("height", 2), ("after", 3)]) rfl sc_keeps_grade.nd (pi_zip rfl T.n_zip (pa_cons (pv 1) (pa_cons (pe_slice sl_list (pv 1) (po_some pe_int) po_none) pa_nil))) (blkOk_by (N := ["road", "row", "height", "after"]) (sc := defScope s_keeps_grade) (by decide +kernel)) (fun _ _ _ _ _ => (pg_tupK (K := K) (n := 2) rfl rfl (pgs_cons (pg_name (i := 2) sc_keeps_grade.nd rfl (by first | exact Or.inl rfl | exact Or.inr rfl)) (pgs_cons (pg_name (i := 3) sc_keeps_grade.nd rfl (by first | exact Or.inl rfl | exact Or.inr rfl)) pgs_nil)))) (fun _ _ _ _ _ => pts_nil) (fun _ _ _ _ _ => (pe_cmpR op_le (pe_callB (call_abs) (by rfl) T.n_abs bo_abs (pa_cons (pe_op op_sub (pv 2) (pv 3)) pa_nil)) (pe_fldK (K := K) rfl (pv 0) rfl) (nomark _)))) pa_nil)))), ?_⟩
    simp_arith []
    refine ⟨_, hS, fun p hp => ?_⟩
    have s0 : Same H (upd H p (.lst (cutV (ns.map nv) (some 1) none))) := (Same.refl H).upd hp
    refine ⟨_, s0.seq hS, _, SqL.of upd_same, ?_⟩
    rw [cutV_1, ← List.map_drop] at s0 ⊢
    refine lcK_zip ((ns.zip (ns.drop 1)).map fun x => V.bl (a.near x.1 x.2)) (s0.seq hS) (SqL.of upd_same) (by simp) ?_ ?_ ?_
    · rw [List.length_map, List.length_zip]
      exact Nat.le_of_lt (small1000 (Nat.le_trans (Nat.min_le_left _ _) hk))
    · intro i x y z T' H' R' hx hy hz s1 e1 kk
      obtain ⟨f, hf, rfl⟩ := map_at hx
      obtain ⟨n, hn, rfl⟩ := map_at hy
      obtain rfl := zmap_at hf hn hz
      have h2 := s1 _ _ (s0 _ _ h1)
      simp_arith []
      refine ⟨_, SqT.of e1, ?_⟩
      simp_arith [wipe, nv_def, h2, HO.ins.injEq, T.cl_Road, T.a_Road_grade, rf_grade]
      rw [← near_def]
      exact kk _ (Same.refl _)
    · intro D H' hD s1 e1
      simp_arith []
      refine ⟨(ns.zip (ns.drop 1)).map fun x => a.near x.1 x.2, SqL.of (by rw [e1, List.map_map]; rfl), ?_⟩
      have : ((ns.zip (ns.drop 1)).map fun x => a.near x.1 x.2).all id = keepsGrade a ns := by unfold keepsGrade; rw [List.all_map]; rfl
      rw [this]
      exact k H' (s0.trans s1)
theorem sum_nat : ∀ l : List Nat, (l.map fun n : Nat => (n : Int)).sum = ((l.sum : Nat) : Int)
  | [] => rfl
  | a :: l => by rw [List.map_cons, List.sum_cons, List.sum_cons, sum_nat l, Int.natCast_add]
theorem ok_cut_of (T : Txt K mg A) : FnOk P w K mg base CX0 1 A.f_cut_of A.d_cut_of ["road", "row"] (spRow K A (fun a l => .int (a.cut l : Nat)) fun _ l => short l) := by
  refine T.F_cut_of.ok sc_cut_of (fun vs H Q E h => ?_) (fun cdv B outer s H vs Q E hr h => ?_)
  · obtain ⟨_, _, _, _, _, _, _, rfl, _⟩ := h
    rfl
  · obtain ⟨r, dx, g, t, row, a, ns, rfl, R, hS, hk, k⟩ := h
    have h1 := R.ins
    refine ⟨_, (pss_one (ps_ret (pe_callB (cr_sum rfl) (by rfl) T.n_sum bo_sum (pa_cons (pe_lc (own := [("ground", 2), ("height", 3)]) rfl sc_cut_of.nd (pi_zip rfl T.n_zip (pa_cons (pe_fld (pv 0) rfl) (pa_cons (pv 1) pa_nil))) (blkOk_by (N := ["road", "row", "ground", "height"]) (sc := defScope s_cut_of) (by decide +kernel)) (fun _ _ _ _ _ => (pg_tupK (K := K) (n := 2) rfl rfl (pgs_cons (pg_name (i := 2) sc_cut_of.nd rfl (by first | exact Or.inl rfl | exact Or.inr rfl)) (pgs_cons (pg_name (i := 3) sc_cut_of.nd rfl (by first | exact Or.inl rfl | exact Or.inr rfl)) pgs_nil)))) (fun _ _ _ _ _ => pts_nil) (fun _ _ _ _ _ => (pe_callB (call_max2 rfl) (by rfl) T.n_max bo_max (pa_cons pe_int (pa_cons (pe_op op_sub (pv 2) (pv 3)) pa_nil))))) pa_nil)))), ?_⟩
    simp_arith [h1, HO.ins.injEq, T.cl_Road, T.a_Road_ground, rf_ground]
    refine ⟨_, SqL.of R.gr, _, hS, ?_⟩
    refine lcK_zip ((a.ground.zip ns).map fun x => V.int ((x.1 - x.2 : Nat) : Int)) (SqL.of R.gr) hS (by simp) ?_ ?_ ?_
    · rw [List.length_map, List.length_zip]
      exact Nat.le_of_lt (small1000 (Nat.le_trans (Nat.min_le_right _ _) hk))
    · intro i x y z T' H' R' hx hy hz s1 e1 kk
      obtain ⟨f, hf, rfl⟩ := map_at hx
      obtain ⟨n, hn, rfl⟩ := map_at hy
      obtain rfl := zmap_at hf hn hz
      simp_arith []
      refine ⟨_, SqT.of e1, ?_⟩
      simp_arith [wipe, nv_def]
      have e : (if (f : Int) - (n : Int) > 0 then (f : Int) - (n : Int) else 0) = ((f - n : Nat) : Int) := by split <;> omega
      rw [e]
      exact kk _ (Same.refl _)
    · intro D H' hD s1 e1
      simp_arith []
      refine ⟨((a.ground.zip ns).map fun x => x.1 - x.2).map fun n : Nat => (n : Int), SqL.of (by rw [e1, List.map_map, List.map_map]; rfl), ?_⟩
      rw [sum_nat]
      exact k H' s1
theorem ok_filled_of (T : Txt K mg A) : FnOk P w K mg base CX0 1 A.f_filled_of A.d_filled_of ["road", "row"] (spRow K A (fun a l => .int (a.fill l : Nat)) fun _ l => short l) := by
  refine T.F_filled_of.ok sc_filled_of (fun vs H Q E h => ?_) (fun cdv B outer s H vs Q E hr h => ?_)
  · obtain ⟨_, _, _, _, _, _, _, rfl, _⟩ := h
    rfl
  · obtain ⟨r, dx, g, t, row, a, ns, rfl, R, hS, hk, k⟩ := h
    have h1 := R.ins
    refine ⟨_, (pss_one (ps_ret (pe_callB (cr_sum rfl) (by rfl) T.n_sum bo_sum (pa_cons (pe_lc (own := [("ground", 2), ("height", 3)]) rfl sc_filled_of.nd (pi_zip rfl T.n_zip (pa_cons (pe_fld (pv 0) rfl) (pa_cons (pv 1) pa_nil))) (blkOk_by (N := ["road", "row", "ground", "height"]) (sc := defScope s_filled_of) (by decide +kernel)) (fun _ _ _ _ _ => (pg_tupK (K := K) (n := 2) rfl rfl (pgs_cons (pg_name (i := 2) sc_filled_of.nd rfl (by first | exact Or.inl rfl | exact Or.inr rfl)) (pgs_cons (pg_name (i := 3) sc_filled_of.nd rfl (by first | exact Or.inl rfl | exact Or.inr rfl)) pgs_nil)))) (fun _ _ _ _ _ => pts_nil) (fun _ _ _ _ _ => (pe_callB (call_max2 rfl) (by rfl) T.n_max bo_max (pa_cons pe_int (pa_cons (pe_op op_sub (pv 3) (pv 2)) pa_nil))))) pa_nil)))), ?_⟩
    simp_arith [h1, HO.ins.injEq, T.cl_Road, T.a_Road_ground, rf_ground]
    refine ⟨_, SqL.of R.gr, _, hS, ?_⟩
    refine lcK_zip ((a.ground.zip ns).map fun x => V.int ((x.2 - x.1 : Nat) : Int)) (SqL.of R.gr) hS (by simp) ?_ ?_ ?_
    · rw [List.length_map, List.length_zip]
      exact Nat.le_of_lt (small1000 (Nat.le_trans (Nat.min_le_right _ _) hk))
    · intro i x y z T' H' R' hx hy hz s1 e1 kk
      obtain ⟨f, hf, rfl⟩ := map_at hx
      obtain ⟨n, hn, rfl⟩ := map_at hy
      obtain rfl := zmap_at hf hn hz
      simp_arith []
      refine ⟨_, SqT.of e1, ?_⟩
      simp_arith [wipe, nv_def]
      have e : (if (n : Int) - (f : Int) > 0 then (n : Int) - (f : Int) else 0) = ((n - f : Nat) : Int) := by split <;> omega
      rw [e]
      exact kk _ (Same.refl _)
    · intro D H' hD s1 e1
      simp_arith []
      refine ⟨((a.ground.zip ns).map fun x => x.2 - x.1).map fun n : Nat => (n : Int), SqL.of (by rw [e1, List.map_map, List.map_map]; rfl), ?_⟩
      rw [sum_nat]
      exact k H' s1
end
end LL

set_option Elab.async false
set_option linter.all false
set_option maxRecDepth 100000
set_option maxHeartbeats 4000000
open L2 in
local macro_rules | `(tactic| simp_arith [$ts,*]) => `(tactic| simp (config := { decide := false, zeta := true }) only [tSeq, tNext, tRet, tIfS, tAsg, tDrop, gName, tVar, tC, tOp, tUn, tChain, tTest, tB, tAnd, tOr, tNot, tAndV, tOrV, tNotV, tIf, rI0, rI, rU, rEq, rNe, tCB, tCons, tFor_eq, tLc_eq, iRng1, iRng2, iRng3, iList, iZip, iEnum, tFld, rIxL, rIxT, rSlL, tSl, tPart, tNoPart, tLst, gTup, gCons, gNil, gSub, rSetL, sFld, tMeth, tMake, tBM, tBM0, rAppend, rExtend, rInsert0, rCat, rAll, rAny, rSum, rMax, rMin, tAug, ipI, tNil, tCall, scal, start, List.map_cons, List.map_nil, List.length_cons, List.length_nil, List.replicate_succ, List.replicate_zero, Nat.reduceSub, Nat.reduceAdd, Nat.add_sub_cancel, Nat.sub_self, List.set, List.append_nil, List.cons_append, List.nil_append, List.append_eq,
  List.getElem?_cons_zero, List.getElem?_cons_succ, Option.some.injEq, V.int.injEq, V.bl.injEq, V.ref.injEq, List.cons.injEq, and_true, true_and, exists_eq_left, exists_eq_left', exists_and_left, exists_eq, exists_const, decide_eq_true_eq, Bool.not_eq_true', decide_eq_false_iff_not, reduceCtorEq, and_assoc, cxK, if_true, if_false, exists_eq', ite_not, $ts,*])
namespace LL
open PySem PySem.Spec PyProof.Rows L2
open Kv363 (Abs okFix Best)
theorem cost_split (a : Abs) (l : List Nat) : a.cost l = a.cut l * a.cutp + a.fill l * a.fillp := by
  unfold Kv363.Abs.cost Kv363.Abs.cut Kv363.Abs.fill
  generalize a.ground.zip l = z
  induction z with
  | nil => simp
  | cons x z ih =>
    rw [List.map_cons, List.map_cons, List.map_cons, List.sum_cons, List.sum_cons, List.sum_cons, ih]
    unfold Kv363.Abs.at_
    rw [Nat.add_mul, Nat.add_mul, Nat.mul_comm a.cutp, Nat.mul_comm a.fillp]
    omega
theorem int_heights (n : Nat) : (decide ((0 : Int) ≤ (n : Int)) && decide ((n : Int) ≤ 40)) = decide (n ≤ 40) := by
  rw [← Bool.decide_and]
  apply decide_eq_decide.mpr
  omega
def spAre (K : PySem.W.Frag) : Sp := fun vs H Q _ => ∃ (row : Addr) (ns : List Nat), vs = [.ref row] ∧ SqL K H row (ns.map nv) ∧ short ns ∧ ∀ H', Same H H' → Q (.bl (ns.all fun n => decide (n ≤ 40))) H'
def spPrice : Sp := fun vs H Q _ => ∃ i : Int, vs = [.int i] ∧ Q (.bl (decide (1 ≤ i) && decide (i ≤ 10))) H
section
variable {P : Program} {w : World} {K : PySem.W.Frag} {mg : Str → Option Value} {base : Heap} {A : Ad}
theorem ok_is_price (T : Txt K mg A) : FnOk P w K mg base CX0 1 A.f_is_price A.d_is_price ["x"] spPrice := by
  refine T.F_is_price.ok sc_is_price (fun vs H Q E h => ?_) (fun cdv B outer s H vs Q E hr h => ?_)
  · obtain ⟨i, rfl, _⟩ := h
    rfl
  · obtain ⟨i, rfl, k⟩ := h
    refine ⟨_, (pss_one (ps_ret (pe_chain op_le op_le (pe_gi T.c_LEAST_PRICE rfl) (pv 0) (pe_gi T.c_DEAREST rfl)))), ?_⟩
    simp_arith []
    by_cases h : 1 ≤ i
    · rw [if_pos h]; simpa [h] using k
    · rw [if_neg h]; simpa [h] using k
theorem ok_are_heights (T : Txt K mg A) : FnOk P w K mg base CX0 2 A.f_are_heights A.d_are_heights ["row"] (spAre K) := by
  refine T.F_are_heights.ok sc_are_heights (fun vs H Q E h => ?_) (fun cdv B outer s H vs Q E hr h => ?_)
  · obtain ⟨_, _, rfl, _⟩ := h
    rfl
  · obtain ⟨row, ns, rfl, hS, hk, k⟩ := h
    refine ⟨_, (pss_one (ps_ret (pe_callB (cr_all rfl) (by rfl) T.n_all bo_all (pa_cons (pe_lc (own := [("x", 1)]) rfl sc_are_heights.nd (pi_list (pv 0)) (blkOk_by (N := ["row", "x"]) (sc := defScope s_are_heights) (by decide +kernel)) (fun _ _ _ _ _ => (pg_name (i := 1) sc_are_heights.nd rfl (by first | exact Or.inl rfl | exact Or.inr rfl))) (fun _ _ _ _ _ => pts_nil) (fun _ _ _ _ _ => (pe_call (ok_is_height T) (hr.mono (by decide)) rfl T.m_is_height T.F_is_height.kp T.b_is_height .nil pass0 (pa_cons (pv 1) pa_nil)))) pa_nil)))), ?_⟩
    simp_arith []
    refine ⟨⟨_, hS⟩, ?_⟩
    refine lcK_list (ns.map fun n => V.bl (decide (n ≤ 40))) hS (by simp) (by rw [List.length_map]; exact Nat.le_of_lt (small1000 hk)) ?_ ?_
    · intro i x y H' R' hx hy s1 kk
      obtain ⟨n, hn, rfl⟩ := map_at hx
      obtain ⟨n', hn', rfl⟩ := map_at hy
      rw [hn] at hn'
      cases hn'
      simp_arith [wipe, spH, nv_def]
      rw [int_heights]
      exact kk _ (Same.refl _)
    · intro D H' hD s1 e1
      simp_arith []
      refine ⟨ns.map fun n => decide (n ≤ 40), SqL.of (by rw [e1, List.map_map]; rfl), ?_⟩
      have : (ns.map fun n => decide (n ≤ 40)).all id = ns.all fun n => decide (n ≤ 40) := by rw [List.all_map]; rfl
      rw [this]
      exact k H' s1
theorem ok_is_line (T : Txt K mg A) : FnOk P w K mg base CX0 2 A.f_is_line A.d_is_line ["road", "row"] (spRow K A (fun a l => .bl (keepsTold a l && keepsGrade a l)) fun _ l => short l) := by
  refine T.F_is_line.ok sc_is_line (fun vs H Q E h => ?_) (fun cdv B outer s H vs Q E hr h => ?_)
  · obtain ⟨_, _, _, _, _, _, _, rfl, _⟩ := h
    rfl
  · obtain ⟨r, dx, g, t, row, a, ns, rfl, R, hS, hk, k⟩ := h
    refine ⟨_, (pss_one (ps_ret (pe_and (pe_call (ok_keeps_told T) (hr.mono (by decide)) rfl T.m_keeps_told T.F_keeps_told.kp T.b_keeps_told .nil pass0 (pa_cons (pv 0) (pa_cons (pv 1) pa_nil))) (pe_one (pe_call (ok_keeps_grade T) (hr.mono (by decide)) rfl T.m_keeps_grade T.F_keeps_grade.kp T.b_keeps_grade .nil pass0 (pa_cons (pv 0) (pa_cons (pv 1) pa_nil))))))), ?_⟩
    simp_arith [spRow]
    refine ⟨dx, g, t, a, R, ns, hS, hk, fun H1 s1 => ?_⟩
    cases e : keepsTold a ns with
    | false =>
      simp_arith [Bool.false_eq_true]
      simpa [e] using k H1 s1
    | true =>
      simp_arith []
      refine ⟨dx, g, t, a, R.same s1, ns, s1.seq hS, hk, fun H2 s2 => ?_⟩
      simpa [e] using k H2 (s1.trans s2)
theorem ok_cost_of (T : Txt K mg A) : FnOk P w K mg base CX0 2 A.f_cost_of A.d_cost_of ["road", "row"] (spRow K A (fun a l => .int (a.cost l : Nat)) fun a l => short l ∧ a.cutp ≤ 10 ∧ a.fillp ≤ 10) := by
  refine T.F_cost_of.ok sc_cost_of (fun vs H Q E h => ?_) (fun cdv B outer s H vs Q E hr h => ?_)
  · obtain ⟨_, _, _, _, _, _, _, rfl, _⟩ := h
    rfl
  · obtain ⟨r, dx, g, t, row, a, ns, rfl, R, hS, ⟨hk, hc, hf⟩, k⟩ := h
    refine ⟨_, (pss_one (ps_ret (pe_op op_add (pe_op op_mul (pe_call (ok_cut_of T) (hr.mono (by decide)) rfl T.m_cut_of T.F_cut_of.kp T.b_cut_of .nil pass0 (pa_cons (pv 0) (pa_cons (pv 1) pa_nil))) (pe_fld (pv 0) rfl)) (pe_op op_mul (pe_call (ok_filled_of T) (hr.mono (by decide)) rfl T.m_filled_of T.F_filled_of.kp T.b_filled_of .nil pass0 (pa_cons (pv 0) (pa_cons (pv 1) pa_nil))) (pe_fld (pv 0) rfl))))), ?_⟩
    simp_arith [spRow]
    refine ⟨dx, g, t, a, R, ns, hS, hk, fun H1 s1 => ?_⟩
    have h1 := s1 _ _ R.ins
    simp_arith [h1, HO.ins.injEq, T.cl_Road, T.a_Road_cut_price, T.a_Road_fill_price, rf_cut, rf_fill]
    refine ⟨.inr ⟨by omega, by omega⟩, dx, g, t, a, R.same s1, ns, s1.seq hS, hk, fun H2 s2 => ?_⟩
    have h2 := s2 _ _ h1
    simp_arith [h2, HO.ins.injEq, T.cl_Road, T.a_Road_cut_price, T.a_Road_fill_price, rf_cut, rf_fill]
    refine ⟨.inr ⟨by omega, by omega⟩, ?_⟩
    have e := congrArg (fun n : Nat => (n : Int)) (cost_split a ns)
    simp only [Int.natCast_add, Int.natCast_mul] at e
    rw [← e]
    exact k H2 (s1.trans s2)
end
end LL

set_option Elab.async false
set_option linter.all false
set_option maxRecDepth 100000
set_option maxHeartbeats 4000000
namespace LL
open Kv363 (Abs okFix Best pick heights TOP)
theorem ground_drop (a : Abs) {i : Nat} (hi : i < a.ground.length) : a.ground.drop i = a.ground.getD i 0 :: a.ground.drop (i + 1) := by
  rw [List.drop_eq_getElem_cons hi, List.getD_eq_getElem?_getD, List.getElem?_eq_getElem hi]
  rfl
theorem costAt_some {a : Abs} {i h c : Nat} (e : costAt a i h = some c) : c = a.at_ (a.ground.getD i 0) h := by
  unfold costAt at e
  by_cases q : okFix (a.fix.getD i none) h = true
  · rw [if_pos q] at e
    exact (Option.some.inj e).symm
  · rw [if_neg q] at e
    cases e
theorem tab_at {a : Abs} {d h : Nat} (hh : h ≤ 40) : (tabD a (d + 1)).getD h none = restAt (tabD a d) a.grade (costAt a (a.ground.length - 2 - d) h) h := by
  have hc : (costsAt a (a.ground.length - 2 - d))[h]? = some (costAt a (a.ground.length - 2 - d) h) := by
    unfold costsAt
    rw [List.getElem?_map, List.getElem?_range (by omega)]
    rfl
  rw [List.getD_eq_getElem?_getD]
  show (withRest (costsAt a (a.ground.length - 2 - d)) (tabD a d) a.grade)[h]?.getD none = _
  rw [withRest_at hc]
  rfl
theorem tab_cost {a : Abs} : ∀ d, d < a.ground.length → ∀ h c, (tabD a d).getD h none = some c → c = (((a.ground.drop (a.ground.length - 1 - d)).zip (lineD a d h)).map fun x => a.at_ x.1 x.2).sum
  | 0, hd, h, c, e => by
    have hh := getD_lt e
    rw [tabD_len] at hh
    have er : (tabD a 0).getD h none = costAt a (a.ground.length - 1) h := heights_map (costAt a (a.ground.length - 1)) h (by omega)
    rw [er] at e
    have := costAt_some e
    rw [ground_drop a (by omega)]
    show c = a.at_ (a.ground.getD (a.ground.length - 1 - 0) 0) h + _
    rw [this]
    simp [List.zip]
  | d + 1, hd, h, c, e => by
    have hh := getD_lt e
    rw [tabD_len] at hh
    rw [tab_at (by omega)] at e
    unfold restAt at e
    have e1 : a.ground.length - 1 - (d + 1) = a.ground.length - 2 - d := by omega
    have e2 : a.ground.length - 2 - d + 1 = a.ground.length - 1 - d := by omega
    rw [e1, ground_drop a (by omega), e2]
    cases q : costAt a (a.ground.length - 2 - d) h with
    | none => rw [q] at e; cases e
    | some c0 =>
      rw [q] at e
      dsimp only at e
      cases hb : bestStep (tabD a d) h a.grade with
      | none => rw [hb] at e; cases e
      | some k =>
        rw [hb] at e
        obtain ⟨v, hv⟩ := bestStep_ok hb
        dsimp only at e
        rw [hv] at e
        have e : c0 + v = c := Option.some.inj e
        have ih := tab_cost d (by omega) k v hv
        have := costAt_some q
        show c = (((a.ground.getD (a.ground.length - 2 - d) 0 :: a.ground.drop (a.ground.length - 1 - d)).zip (h :: lineD a d ((bestStep (tabD a d) h a.grade).getD 0))).map fun x => a.at_ x.1 x.2).sum
        rw [hb, List.zip_cons_cons, List.map_cons, List.sum_cons]
        show c = a.at_ (a.ground.getD (a.ground.length - 2 - d) 0) h + (((a.ground.drop (a.ground.length - 1 - d)).zip (lineD a d k)).map fun x => a.at_ x.1 x.2).sum
        rw [← ih]
        omega
theorem best_line {a : Abs} (W : WF a) {b : Best} (e : a.best = some b) : a.cost b.line = b.cost ∧ b.line.length = a.ground.length ∧ short b.line := by
  obtain ⟨h0, e0⟩ := Option.isSome_iff_exists.mp W.first
  have h2 := W.two
  rw [best_eq W e0] at e
  cases q : (tabD a (a.ground.length - 1)).getD h0 none with
  | none => rw [q] at e; cases e
  | some c =>
    rw [q] at e
    have e : (⟨c, (List.range a.ground.length).map (walkH a h0)⟩ : Best) = b := Option.some.inj e
    subst e
    have l := lineD_walk (a := a) (h0 := h0) (a.ground.length - 1) 0 (by omega)
    have e3 : a.ground.length - 1 + 1 = a.ground.length := by omega
    rw [e3, ← List.range_eq_range'] at l
    have tc := tab_cost (a := a) (a.ground.length - 1) (by omega) h0 c q
    have e1 : a.ground.length - 1 - (a.ground.length - 1) = 0 := by omega
    rw [e1, List.drop_zero] at tc
    refine ⟨?_, by simp, ?_⟩
    · show a.cost ((List.range a.ground.length).map (walkH a h0)) = c
      rw [← l]
      exact tc.symm
    · show ((List.range a.ground.length).map (walkH a h0)).length ≤ 1000
      have := W.top
      simp
      omega
end LL

set_option Elab.async false
set_option linter.all false
set_option maxRecDepth 100000
set_option maxHeartbeats 4000000
namespace LL
open Kv363 (Abs okFix Best gap TOP)
theorem bsGo_mem (cs : List (Option Nat)) : ∀ (l : List Nat) (b : Option Nat) (k : Nat), bsGo cs l b = some k → b = some k ∨ k ∈ l
  | [], b, k, e => .inl e
  | x :: l, b, k, e => by
    rcases bsGo_mem cs l _ k e with h | h
    · by_cases q : better cs x b = true
      · rw [if_pos q] at h
        cases h
        exact .inr (List.mem_cons.mpr (.inl rfl))
      · rw [if_neg q] at h
        exact .inl h
    · exact .inr (List.mem_cons_of_mem _ h)
theorem bsGo_keep (cs : List (Option Nat)) : ∀ (l : List Nat) (b : Option Nat), b.isSome = true → (bsGo cs l b).isSome = true
  | [], b, h => h
  | x :: l, b, h => bsGo_keep cs l _ (by split <;> simp [h])
theorem bsGo_has (cs : List (Option Nat)) : ∀ (l : List Nat) (b : Option Nat) (k d : Nat), k ∈ l → cs.getD k none = some d → (bsGo cs l b).isSome = true
  | x :: l, b, k, d, hk, hd => by
    rcases List.mem_cons.mp hk with rfl | hk
    · show (bsGo cs l (if better cs k b then some k else b)).isSome = true
      refine bsGo_keep cs l _ ?_
      cases b with
      | none => rw [better_sn hd]; rfl
      | some j => split <;> rfl
    · exact bsGo_has cs l _ k d hk hd
theorem step_near {a : Abs} {cs : List (Option Nat)} {h k : Nat} (hh : h ≤ 40) (e : bestStep cs h a.grade = some k) : a.near h k = true := by
  rcases bsGo_mem cs _ none k e with q | q
  · cases q
  · rw [List.mem_range'_1] at q
    unfold Kv363.Abs.near
    simp
    omega
theorem step_has {a : Abs} {cs : List (Option Nat)} {h k d : Nat} (hk : k ≤ 40) (n : a.near h k = true) (e : cs.getD k none = some d) : ∃ k', bestStep cs h a.grade = some k' := by
  refine Option.isSome_iff_exists.mp (bsGo_has cs _ none k d ?_ e)
  unfold Kv363.Abs.near at n
  simp at n
  rw [List.mem_range'_1]
  omega
/-- a line, by its places -/
structure LineAt (a : Abs) (f : Nat → Nat) : Prop where
  top : ∀ i, i < a.ground.length → f i ≤ 40
  fix : ∀ i, i < a.ground.length → okFix (a.fix.getD i none) (f i) = true
  near : ∀ i, i + 1 < a.ground.length → a.near (f i) (f (i + 1)) = true
theorem costAt_ok {a : Abs} {i h : Nat} : (costAt a i h).isSome = true ↔ okFix (a.fix.getD i none) h = true := by
  unfold costAt
  split
  · rename_i q; exact ⟨fun _ => q, fun _ => rfl⟩
  · rename_i q; exact ⟨fun z => (by cases z), fun z => absurd z q⟩
theorem line_tab {a : Abs} {f : Nat → Nat} (L : LineAt a f) : ∀ d, d < a.ground.length → ∃ v, (tabD a d).getD (f (a.ground.length - 1 - d)) none = some v
  | 0, hd => by
    have er : (tabD a 0).getD (f (a.ground.length - 1 - 0)) none = costAt a (a.ground.length - 1) (f (a.ground.length - 1 - 0)) := heights_map (costAt a (a.ground.length - 1)) _ (L.top _ (by omega))
    rw [er]
    exact Option.isSome_iff_exists.mp (costAt_ok.mpr (L.fix (a.ground.length - 1) (by omega)))
  | d + 1, hd => by
    obtain ⟨v, hv⟩ := line_tab L d (by omega)
    have e1 : a.ground.length - 1 - (d + 1) + 1 = a.ground.length - 1 - d := by omega
    have e2 : a.ground.length - 1 - (d + 1) = a.ground.length - 2 - d := by omega
    have hn := L.near (a.ground.length - 1 - (d + 1)) (by omega)
    rw [e1] at hn
    obtain ⟨k', hk'⟩ := step_has (L.top _ (by omega)) hn hv
    obtain ⟨c, hc⟩ := Option.isSome_iff_exists.mp (costAt_ok.mpr (L.fix (a.ground.length - 1 - (d + 1)) (by omega)))
    rw [tab_at (L.top _ (by omega))]
    rw [e2] at hc hk' ⊢
    unfold restAt
    rw [hc]
    dsimp only
    rw [hk']
    obtain ⟨v', hv'⟩ := bestStep_ok hk'
    dsimp only
    rw [hv']
    exact ⟨_, rfl⟩
theorem tab_fix {a : Abs} {d h v : Nat} (hd : d < a.ground.length) (e : (tabD a d).getD h none = some v) : okFix (a.fix.getD (a.ground.length - 1 - d) none) h = true := by
  have hh := getD_lt e
  rw [tabD_len] at hh
  cases d with
  | zero =>
    have er : (tabD a 0).getD h none = costAt a (a.ground.length - 1) h := heights_map (costAt a (a.ground.length - 1)) h (by omega)
    rw [er] at e
    show okFix (a.fix.getD (a.ground.length - 1) none) h = true
    exact costAt_ok.mp (by rw [e]; rfl)
  | succ d =>
    rw [tab_at (by omega)] at e
    have e2 : a.ground.length - 1 - (d + 1) = a.ground.length - 2 - d := by omega
    rw [e2]
    refine costAt_ok.mp ?_
    cases q : costAt a (a.ground.length - 2 - d) h with
    | none =>
      rw [q] at e
      cases e
    | some c => rfl
theorem walk_line {a : Abs} {h0 v : Nat} (e : (tabD a (a.ground.length - 1)).getD h0 none = some v) : LineAt a (walkH a h0) := by
  refine ⟨fun i hi => walk_le e hi, fun i hi => ?_, fun i hi => ?_⟩
  · obtain ⟨v', hv'⟩ := walk_ok e i hi
    have := tab_fix (d := a.ground.length - 1 - i) (by omega) hv'
    have e2 : a.ground.length - 1 - (a.ground.length - 1 - i) = i := by omega
    rw [e2] at this
    exact this
  · exact step_near (walk_le e (by omega)) (walk_step e hi)
theorem best_iff {a : Abs} (W : WF a) : a.best.isSome = true ↔ ∃ f, LineAt a f := by
  have h2 := W.two
  obtain ⟨h0, e0⟩ := Option.isSome_iff_exists.mp W.first
  rw [best_eq W e0]
  constructor
  · intro h
    cases q : (tabD a (a.ground.length - 1)).getD h0 none with
    | none => rw [q] at h; cases h
    | some v => exact ⟨_, walk_line q⟩
  · rintro ⟨f, L⟩
    have hf := L.fix 0 (by omega)
    rw [e0] at hf
    have hf : h0 = f 0 := eq_of_beq hf
    obtain ⟨v, hv⟩ := line_tab L (a.ground.length - 1) (by omega)
    have e1 : a.ground.length - 1 - (a.ground.length - 1) = 0 := by omega
    rw [e1, ← hf] at hv
    rw [hv]
    rfl
/-! ### told heights -/
theorem told_mem {a : Abs} {j h : Nat} : (j, h) ∈ a.told ↔ a.fix.getD j none = some h := by
  unfold Kv363.Abs.told
  rw [List.mem_filterMap]
  constructor
  · rintro ⟨⟨o, i⟩, hm, e⟩
    rw [List.mem_zipIdx_iff_getElem?] at hm
    cases o with
    | none => cases e
    | some x =>
      have e := Option.some.inj e
      cases e
      rw [List.getD_eq_getElem?_getD, hm]
      rfl
  · intro e
    rw [List.getD_eq_getElem?_getD] at e
    cases q : a.fix[j]? with
    | none => rw [q] at e; cases e
    | some o =>
      rw [q] at e
      have e : o = some h := e
      subst e
      exact ⟨(some h, j), by rw [List.mem_zipIdx_iff_getElem?]; exact q, rfl⟩
theorem gap_comm (x y : Nat) : gap x y = gap y x := by unfold gap; omega
theorem why_none {a : Abs} : a.why = none ↔ ∀ i x j y, a.fix.getD i none = some x → a.fix.getD j none = some y → gap x y ≤ a.grade * gap i j := by
  unfold Kv363.Abs.why
  rw [Option.map_eq_none_iff, List.find?_eq_none]
  constructor
  · intro h i x j y hx hy
    rcases Nat.lt_trichotomy i j with q | q | q
    · have := h ((i, x), (j, y)) (List.mem_flatMap.mpr ⟨(i, x), told_mem.mpr hx, List.mem_map.mpr ⟨(j, y), List.mem_filter.mpr ⟨told_mem.mpr hy, decide_eq_true q⟩, rfl⟩⟩)
      unfold Kv363.Abs.tooFar at this
      simp at this
      exact this
    · subst q
      rw [hx] at hy
      cases hy
      unfold gap
      omega
    · have := h ((j, y), (i, x)) (List.mem_flatMap.mpr ⟨(j, y), told_mem.mpr hy, List.mem_map.mpr ⟨(i, x), List.mem_filter.mpr ⟨told_mem.mpr hx, decide_eq_true q⟩, rfl⟩⟩)
      unfold Kv363.Abs.tooFar at this
      simp at this
      rw [gap_comm x y, gap_comm i j]
      exact this
  · rintro h ⟨⟨i, x⟩, ⟨j, y⟩⟩ hm
    obtain ⟨p, hp, hq⟩ := List.mem_flatMap.mp hm
    obtain ⟨q, hq, e⟩ := List.mem_map.mp hq
    cases e
    have hx := told_mem.mp hp
    have hy := told_mem.mp (List.mem_filter.mp hq).1
    unfold Kv363.Abs.tooFar
    simp
    exact h i x j y hx hy
/-- over several steps a line keeps within the grade -/
theorem line_gap {a : Abs} {f : Nat → Nat} (L : LineAt a f) : ∀ n i, i + n < a.ground.length → gap (f i) (f (i + n)) ≤ a.grade * n
  | 0, i, _ => by unfold gap; simp
  | n + 1, i, hi => by
    have ih := line_gap L n i (by omega)
    have hn := L.near (i + n) (by omega)
    unfold Kv363.Abs.near at hn
    simp at hn
    have e : i + (n + 1) = i + n + 1 := by omega
    rw [e, Nat.mul_succ]
    unfold gap at ih ⊢
    omega
theorem foldl_max (l : List Nat) : ∀ b x : Nat, (l.foldl max b ≤ x ↔ b ≤ x ∧ ∀ y ∈ l, y ≤ x) := by
  induction l with
  | nil => intro b x; simp
  | cons z l ih =>
    intro b x
    rw [List.foldl_cons, ih]
    constructor
    · rintro ⟨h1, h2⟩
      refine ⟨by omega, fun y hy => ?_⟩
      rcases List.mem_cons.mp hy with rfl | hy
      · omega
      · exact h2 y hy
    · rintro ⟨h1, h2⟩
      have := h2 z (List.mem_cons.mpr (.inl rfl))
      exact ⟨by omega, fun y hy => h2 y (List.mem_cons_of_mem _ hy)⟩
theorem foldl_min (l : List Nat) : ∀ b x : Nat, (x ≤ l.foldl min b ↔ x ≤ b ∧ ∀ y ∈ l, x ≤ y) := by
  induction l with
  | nil => intro b x; simp
  | cons z l ih =>
    intro b x
    rw [List.foldl_cons, ih]
    constructor
    · rintro ⟨h1, h2⟩
      refine ⟨by omega, fun y hy => ?_⟩
      rcases List.mem_cons.mp hy with rfl | hy
      · omega
      · exact h2 y hy
    · rintro ⟨h1, h2⟩
      have := h2 z (List.mem_cons.mpr (.inl rfl))
      exact ⟨by omega, fun y hy => h2 y (List.mem_cons_of_mem _ hy)⟩
theorem low_le {a : Abs} {i x : Nat} : a.low i ≤ x ↔ ∀ j h, a.fix.getD j none = some h → h - a.grade * gap i j ≤ x := by
  unfold Kv363.Abs.low
  rw [foldl_max]
  constructor
  · rintro ⟨_, h⟩ j y hy
    exact h _ (List.mem_map.mpr ⟨(j, y), told_mem.mpr hy, rfl⟩)
  · intro h
    refine ⟨Nat.zero_le _, fun y hy => ?_⟩
    obtain ⟨⟨j, z⟩, hz, rfl⟩ := List.mem_map.mp hy
    exact h j z (told_mem.mp hz)
theorem le_high {a : Abs} {i x : Nat} : x ≤ a.high i ↔ x ≤ 40 ∧ ∀ j h, a.fix.getD j none = some h → x ≤ h + a.grade * gap i j := by
  unfold Kv363.Abs.high
  rw [foldl_min]
  constructor
  · rintro ⟨h1, h⟩
    exact ⟨h1, fun j y hy => h _ (List.mem_map.mpr ⟨(j, y), told_mem.mpr hy, rfl⟩)⟩
  · rintro ⟨h1, h⟩
    refine ⟨h1, fun y hy => ?_⟩
    obtain ⟨⟨j, z⟩, hz, rfl⟩ := List.mem_map.mp hy
    exact h j z (told_mem.mp hz)
/-- the lowest heights are a line, where no two told heights are too far off one another -/
theorem low_line {a : Abs} (W : WF a) (h : a.why = none) : LineAt a a.low := by
  rw [why_none] at h
  have one : ∀ i, a.low i ≤ a.low (i + 1) + a.grade ∧ a.low (i + 1) ≤ a.low i + a.grade := fun i => by
    have gs : ∀ j, gap (i + 1) j ≤ gap i j + 1 ∧ gap i j ≤ gap (i + 1) j + 1 := fun j => by unfold gap; omega
    constructor
    · rw [low_le]
      intro j y hy
      have q := (low_le (x := a.low (i + 1)) (i := i + 1)).mp (Nat.le_refl _) j y hy
      have := Nat.mul_le_mul_left a.grade (gs j).1
      rw [Nat.mul_add, Nat.mul_one] at this
      omega
    · rw [low_le]
      intro j y hy
      have q := (low_le (x := a.low i) (i := i)).mp (Nat.le_refl _) j y hy
      have := Nat.mul_le_mul_left a.grade (gs j).2
      rw [Nat.mul_add, Nat.mul_one] at this
      omega
  refine ⟨fun i _ => ?_, fun i _ => ?_, fun i _ => ?_⟩
  · rw [low_le]
    intro j y hy
    have := W.fle hy
    omega
  · cases q : a.fix.getD i none with
    | none => rfl
    | some x =>
      refine beq_iff_eq.mpr ?_
      have h1 : a.low i ≤ x := by
        rw [low_le]
        intro j y hy
        have := h i x j y q hy
        unfold gap at this ⊢
        omega
      have h2 := (low_le (x := a.low i) (i := i)).mp (Nat.le_refl _) i x q
      have : gap i i = 0 := by unfold gap; omega
      rw [this, Nat.mul_zero] at h2
      omega
  · unfold Kv363.Abs.near
    have := one i
    simp
    omega
/-- there is a line just if no two told heights are too far off one another -/
theorem best_why {a : Abs} (W : WF a) : a.best.isSome = true ↔ a.why = none := by
  rw [best_iff W]
  constructor
  · rintro ⟨f, L⟩
    rw [why_none]
    intro i x j y hx hy
    have lt : ∀ {i x}, a.fix.getD i none = some x → i < a.ground.length := fun {i x} e => by rw [← W.len]; exact getD_lt e
    have fx : ∀ {i x}, a.fix.getD i none = some x → f i = x := fun {i x} e => by
      have := L.fix i (lt e)
      rw [e] at this
      exact (eq_of_beq this).symm
    rw [← fx hx, ← fx hy]
    rcases Nat.le_total i j with q | q
    · have := line_gap L (j - i) i (by have := lt hy; omega)
      have e1 : i + (j - i) = j := by omega
      have e2 : gap i j = j - i := by unfold gap; omega
      rw [e1] at this
      rw [e2]
      exact this
    · have := line_gap L (i - j) j (by have := lt hx; omega)
      have e1 : j + (i - j) = i := by omega
      have e2 : gap i j = i - j := by unfold gap; omega
      rw [e1] at this
      rw [e2, gap_comm]
      exact this
  · intro h
    exact ⟨_, low_line W h⟩
theorem end_told {a : Abs} (W : WF a) {i : Nat} {x : Nat} (hi : i < a.ground.length) (hx : x ≤ 40) : WF (a.setF i (some x)) := by
  have hl : i < a.fix.length := by rw [W.len]; exact hi
  have gs : ∀ j, (a.fix.set i (some x)).getD j none = if i = j then some x else a.fix.getD j none := fun j => by
    rw [List.getD_eq_getElem?_getD, List.getD_eq_getElem?_getD, List.getElem?_set]
    by_cases e : i = j
    · subst e
      rw [if_pos rfl, if_pos hl, if_pos rfl]
      rfl
    · rw [if_neg e, if_neg e]
  refine ⟨by show (a.fix.set i (some x)).length = _; rw [List.length_set]; exact W.len, W.two, W.top, W.gr, ?_, ?_, ?_, W.k, W.c1, W.c2, W.f1, W.f2⟩
  · intro y hy
    rcases List.mem_or_eq_of_mem_set hy with h | h
    · exact W.fx y h
    · cases h; exact hx
  · show ((a.fix.set i (some x)).getD 0 none).isSome = true
    rw [gs]
    split
    · rfl
    · exact W.first
  · show ((a.fix.set i (some x)).getD (a.ground.length - 1) none).isSome = true
    rw [gs]
    split
    · rfl
    · exact W.last
/-- a line may lie at a station just as low and as high as told, and anywhere between -/
theorem between_iff {a : Abs} (W : WF a) (hb : a.best.isSome = true) {i x : Nat} (hi : i < a.ground.length) (hx : x ≤ 40) :
    (okFix (a.fix.getD i none) x = true ∧ (a.setF i (some x)).best.isSome = true) ↔ (a.low i ≤ x ∧ x ≤ a.high i) := by
  have hl : i < a.fix.length := by rw [W.len]; exact hi
  have gs : ∀ j, (a.setF i (some x)).fix.getD j none = if i = j then some x else a.fix.getD j none := fun j => by
    show (a.fix.set i (some x)).getD j none = _
    rw [List.getD_eq_getElem?_getD, List.getD_eq_getElem?_getD, List.getElem?_set]
    by_cases e : i = j
    · subst e
      rw [if_pos rfl, if_pos hl, if_pos rfl]
      rfl
    · rw [if_neg e, if_neg e]
  have hw := (best_why W).mp hb
  rw [why_none] at hw
  rw [best_why (end_told W hi hx), why_none, low_le, le_high]
  have g0 : gap i i = 0 := by unfold gap; omega
  constructor
  · rintro ⟨h1, h2⟩
    have key : ∀ j y, a.fix.getD j none = some y → gap x y ≤ a.grade * gap i j := fun j y hy => by
      by_cases e : i = j
      · subst e
        rw [hy] at h1
        have : y = x := eq_of_beq h1
        subst this
        unfold gap
        omega
      · exact h2 i x j y (by rw [gs, if_pos rfl]) (by rw [gs, if_neg e]; exact hy)
    refine ⟨fun j y hy => ?_, hx, fun j y hy => ?_⟩
    · have := key j y hy
      generalize a.grade * gap i j = z at this ⊢
      unfold gap at this
      omega
    · have := key j y hy
      generalize a.grade * gap i j = z at this ⊢
      unfold gap at this
      omega
  · rintro ⟨h1, _, h2⟩
    have key : ∀ j y, a.fix.getD j none = some y → gap x y ≤ a.grade * gap i j := fun j y hy => by
      have q1 := h1 j y hy
      have q2 := h2 j y hy
      generalize a.grade * gap i j = z at q1 q2 ⊢
      unfold gap
      omega
    refine ⟨?_, fun j y k z hy hz => ?_⟩
    · cases q : a.fix.getD i none with
      | none => rfl
      | some y =>
        have := key i y q
        rw [g0, Nat.mul_zero] at this
        refine beq_iff_eq.mpr ?_
        unfold gap at this
        omega
    · rw [gs] at hy hz
      by_cases e1 : i = j
      · rw [if_pos e1] at hy
        have hy := Option.some.inj hy
        by_cases e2 : i = k
        · rw [if_pos e2] at hz
          have hz := Option.some.inj hz
          unfold gap
          omega
        · rw [if_neg e2] at hz
          rw [← hy, ← e1]
          exact key k z hz
      · rw [if_neg e1] at hy
        by_cases e2 : i = k
        · rw [if_pos e2] at hz
          have hz := Option.some.inj hz
          rw [← hz, ← e2, gap_comm y x, gap_comm j i]
          exact key j y hy
        · rw [if_neg e2] at hz
          exact hw j y k z hy hz
theorem WFk {a : Abs} (W : WF a) {k : Nat} (h : k ≤ 40) : WF (a.withK k) := ⟨W.len, W.two, W.top, W.gr, W.fx, W.first, W.last, h, W.c1, W.c2, W.f1, W.f2⟩
/-- the least grade by which there is a line -/
theorem leastK_best {a : Abs} (W : WF a) : a.leastK = ((List.range 41).find? fun k => (a.withK k).best.isSome).getD 40 := by
  unfold Kv363.Abs.leastK
  congr 1
  show (List.range 41).find? _ = _
  have : ∀ l : List Nat, (∀ k ∈ l, k ≤ 40) → (l.find? fun k => (a.withK k).why.isNone) = l.find? fun k => (a.withK k).best.isSome := by
    intro l
    induction l with
    | nil => intro _; rfl
    | cons k l ih =>
      intro h
      rw [List.find?_cons, List.find?_cons, ih fun k hk => h k (List.mem_cons_of_mem _ hk)]
      have e : (a.withK k).why.isNone = (a.withK k).best.isSome := by
        rw [Bool.eq_iff_iff, best_why (WFk W (h k (List.mem_cons.mpr (.inl rfl)))), Option.isNone_iff_eq_none]
      rw [e]
  exact this _ fun k hk => by
    rw [List.mem_range] at hk
    omega
end LL

set_option Elab.async false
set_option linter.all false
set_option maxRecDepth 100000
set_option maxHeartbeats 4000000
namespace LL
open Kv363 (Abs okFix Best Call pick heights gap)
/-! ### no line costs less -/
theorem bsGo_le (cs : List (Option Nat)) : ∀ (l : List Nat) (b : Option Nat), (∀ j, b = some j → ∃ e, cs.getD j none = some e) → ∀ (k d : Nat), (k ∈ l ∨ b = some k) → cs.getD k none = some d → ∃ k' d', bsGo cs l b = some k' ∧ cs.getD k' none = some d' ∧ d' ≤ d
  | [], b, hB, k, d, h, hd => by
    rcases h with h | h
    · cases h
    · exact ⟨k, d, h, hd, Nat.le_refl _⟩
  | x :: l, b, hB, k, d, h, hd => by
    show ∃ k' d', bsGo cs l (if better cs x b then some x else b) = some k' ∧ cs.getD k' none = some d' ∧ d' ≤ d
    have hB' : ∀ j, (if better cs x b then some x else b) = some j → ∃ e, cs.getD j none = some e := by
      intro j hj
      by_cases hb : better cs x b = true
      · rw [if_pos hb] at hj
        cases hj
        cases q : cs.getD x none with
        | none => rw [better_n q] at hb; cases hb
        | some e => exact ⟨e, rfl⟩
      · rw [if_neg hb] at hj
        exact hB j hj
    have key : ∀ (k1 d1 : Nat), cs.getD k1 none = some d1 → d1 ≤ d → (if better cs x b then some x else b) = some k1 → ∃ k' d', bsGo cs l (if better cs x b then some x else b) = some k' ∧ cs.getD k' none = some d' ∧ d' ≤ d := by
      intro k1 d1 e1 hle e2
      obtain ⟨k', d', p1, p2, p3⟩ := bsGo_le cs l (if better cs x b then some x else b) hB' k1 d1 (.inr e2) e1
      exact ⟨k', d', p1, p2, by omega⟩
    rcases h with h | h
    · rcases List.mem_cons.mp h with h | h
      · subst h
        by_cases hb : better cs k b = true
        · exact key k d hd (Nat.le_refl _) (if_pos hb)
        · cases b with
          | none => rw [better_sn hd] at hb; exact absurd rfl hb
          | some j =>
            obtain ⟨e, q⟩ := hB j rfl
            refine key j e q ?_ (if_neg hb)
            rw [better_ss hd q] at hb
            simp at hb
            exact hb
      · exact bsGo_le cs l _ hB' k d (.inl h) hd
    · subst h
      by_cases hb : better cs x (some k) = true
      · cases q : cs.getD x none with
        | none => rw [better_n q] at hb; cases hb
        | some e =>
          refine key x e q ?_ (if_pos hb)
          rw [better_ss q hd] at hb
          simp at hb
          omega
      · exact key k d hd (Nat.le_refl _) (if_neg hb)
theorem step_le {a : Abs} {cs : List (Option Nat)} {h k d : Nat} (hk : k ≤ 40) (n : a.near h k = true) (e : cs.getD k none = some d) : ∃ k' d', bestStep cs h a.grade = some k' ∧ cs.getD k' none = some d' ∧ d' ≤ d := by
  refine bsGo_le cs _ none (fun j z => by cases z) k d (.inl ?_) e
  unfold Kv363.Abs.near at n
  simp at n
  rw [List.mem_range'_1]
  omega
/-- what a line costs on its last stations -/
def sumF (a : Abs) (f : Nat → Nat) : Nat → Nat
  | 0 => a.at_ (a.ground.getD (a.ground.length - 1) 0) (f (a.ground.length - 1))
  | d + 1 => a.at_ (a.ground.getD (a.ground.length - 2 - d) 0) (f (a.ground.length - 2 - d)) + sumF a f d
theorem costAt_val {a : Abs} {i h : Nat} (e : okFix (a.fix.getD i none) h = true) : costAt a i h = some (a.at_ (a.ground.getD i 0) h) := if_pos e
theorem line_le {a : Abs} {f : Nat → Nat} (L : LineAt a f) : ∀ d, d < a.ground.length → ∃ v, (tabD a d).getD (f (a.ground.length - 1 - d)) none = some v ∧ v ≤ sumF a f d
  | 0, hd => by
    have er : (tabD a 0).getD (f (a.ground.length - 1 - 0)) none = costAt a (a.ground.length - 1) (f (a.ground.length - 1 - 0)) := heights_map (costAt a (a.ground.length - 1)) _ (L.top _ (by omega))
    rw [er]
    exact ⟨_, costAt_val (L.fix (a.ground.length - 1) (by omega)), Nat.le_refl _⟩
  | d + 1, hd => by
    obtain ⟨v, hv, hle⟩ := line_le L d (by omega)
    have e1 : a.ground.length - 1 - (d + 1) + 1 = a.ground.length - 1 - d := by omega
    have e2 : a.ground.length - 1 - (d + 1) = a.ground.length - 2 - d := by omega
    have hn := L.near (a.ground.length - 1 - (d + 1)) (by omega)
    rw [e1] at hn
    obtain ⟨k', v', hk', hv', hle'⟩ := step_le (L.top _ (by omega)) hn hv
    have hc := costAt_val (L.fix (a.ground.length - 1 - (d + 1)) (by omega))
    rw [tab_at (L.top _ (by omega))]
    rw [e2] at hc hk' ⊢
    unfold restAt
    rw [hc]
    dsimp only
    rw [hk']
    dsimp only
    rw [hv']
    refine ⟨_, rfl, ?_⟩
    show a.at_ (a.ground.getD (a.ground.length - 2 - d) 0) (f (a.ground.length - 2 - d)) + v' ≤ a.at_ (a.ground.getD (a.ground.length - 2 - d) 0) (f (a.ground.length - 2 - d)) + sumF a f d
    omega
theorem walk_sum {a : Abs} {h0 v : Nat} (e : (tabD a (a.ground.length - 1)).getD h0 none = some v) : ∀ d, d < a.ground.length → (tabD a d).getD (walkH a h0 (a.ground.length - 1 - d)) none = some (sumF a (walkH a h0) d)
  | 0, hd => by
    have L := walk_line e
    have er : (tabD a 0).getD (walkH a h0 (a.ground.length - 1 - 0)) none = costAt a (a.ground.length - 1) (walkH a h0 (a.ground.length - 1 - 0)) := heights_map (costAt a (a.ground.length - 1)) _ (L.top _ (by omega))
    rw [er]
    exact costAt_val (L.fix (a.ground.length - 1) (by omega))
  | d + 1, hd => by
    have L := walk_line e
    have ih := walk_sum e d (by omega)
    have e1 : a.ground.length - 1 - (d + 1) + 1 = a.ground.length - 1 - d := by omega
    have e2 : a.ground.length - 1 - (d + 1) = a.ground.length - 2 - d := by omega
    have e3 : a.ground.length - 1 - (a.ground.length - 1 - d) = d := by omega
    have hk' := walk_step (i := a.ground.length - 1 - (d + 1)) e (by omega)
    rw [e1, e3] at hk'
    have hc := costAt_val (L.fix (a.ground.length - 1 - (d + 1)) (by omega))
    rw [tab_at (L.top _ (by omega))]
    rw [e2] at hc hk' ⊢
    unfold restAt
    rw [hc]
    dsimp only
    rw [hk']
    dsimp only
    rw [ih]
    rfl
theorem freed_at {a : Abs} {i j : Nat} : (a.setF i none).fix.getD j none = if i = j then none else a.fix.getD j none := by
  show (a.fix.set i none).getD j none = _
  rw [List.getD_eq_getElem?_getD, List.getElem?_set]
  by_cases h : i = j
  · subst h
    rw [if_pos rfl, if_pos rfl]
    split <;> rfl
  · rw [if_neg h, if_neg h, List.getD_eq_getElem?_getD]
/-- with a height less told there is a line too, and none dearer -/
theorem freed_le {a : Abs} {i : Nat} (W : WF a) (W' : WF (a.setF i none)) {b : Best} (hb : a.best = some b) : ∃ c, (a.setF i none).best = some c ∧ c.cost ≤ b.cost := by
  obtain ⟨h0, e0⟩ := Option.isSome_iff_exists.mp W.first
  have h2 := W.two
  have hi0 : i ≠ 0 := by
    intro z
    have := W'.first
    rw [freed_at, if_pos z] at this
    cases this
  have e0' : (a.setF i none).fix.getD 0 none = some h0 := by rw [freed_at, if_neg hi0]; exact e0
  rw [best_eq W e0] at hb
  rw [best_eq W' e0']
  cases q : (tabD a (a.ground.length - 1)).getD h0 none with
  | none => rw [q] at hb; cases hb
  | some v =>
    rw [q] at hb
    have hb : (⟨v, (List.range a.ground.length).map (walkH a h0)⟩ : Best) = b := Option.some.inj hb
    subst hb
    have L := walk_line q
    have L' : LineAt (a.setF i none) (walkH a h0) := by
      refine ⟨L.top, fun j hj => ?_, L.near⟩
      rw [freed_at]
      by_cases h : i = j
      · rw [if_pos h]; rfl
      · rw [if_neg h]; exact L.fix j hj
    obtain ⟨u, hu, hle⟩ := line_le L' (a.ground.length - 1) (by show a.ground.length - 1 < a.ground.length; omega)
    have e1 : a.ground.length - 1 - (a.ground.length - 1) = 0 := by omega
    have hs := walk_sum q (a.ground.length - 1) (by omega)
    rw [e1] at hs
    have hu : (tabD (a.setF i none) (a.ground.length - 1)).getD (walkH a h0 (a.ground.length - 1 - (a.ground.length - 1))) none = some u := hu
    rw [e1] at hu
    have w0 : walkH a h0 0 = h0 := rfl
    rw [w0] at hu hs
    rw [q] at hs
    have hs := Option.some.inj hs
    have es : ∀ d, sumF (a.setF i none) (walkH a h0) d = sumF a (walkH a h0) d := by
      intro d
      induction d with
      | zero => rfl
      | succ d ih => show _ + sumF (a.setF i none) (walkH a h0) d = _ + sumF a (walkH a h0) d; rw [ih]; rfl
    rw [es] at hle
    refine ⟨⟨u, (List.range a.ground.length).map (walkH (a.setF i none) h0)⟩, ?_, ?_⟩
    · show ((tabD (a.setF i none) (a.ground.length - 1)).getD h0 none).map _ = _
      rw [hu]
      rfl
    · show u ≤ v
      omega
/-! ### the longest stretch -/
def Level (l : List Nat) (p q : Nat) : Prop := ∀ i, p ≤ i → i < q → l.getD i 0 = l.getD p 0
def run (l : List Nat) (i : Nat) : Nat := ((l.drop i).takeWhile fun h => h == l.getD i 0).length
theorem tw_all (x : Nat) : ∀ (m : List Nat) (j : Nat), j < (m.takeWhile fun h => h == x).length → m.getD j 0 = x
  | [], j, h => by simp at h
  | y :: m, j, h => by
    by_cases e : y = x
    · subst e
      cases j with
      | zero => rfl
      | succ j =>
        rw [List.takeWhile_cons_of_pos (by simp)] at h
        have := tw_all y m j (by simpa using h)
        exact this
    · rw [List.takeWhile_cons_of_neg (by simpa using e)] at h
      cases h
theorem tw_ge (x : Nat) : ∀ (m : List Nat) (k : Nat), k ≤ m.length → (∀ j, j < k → m.getD j 0 = x) → k ≤ (m.takeWhile fun h => h == x).length
  | [], k, h, _ => by simpa using h
  | y :: m, 0, h, _ => Nat.zero_le _
  | y :: m, k + 1, h, ha => by
    have e : y = x := ha 0 (by omega)
    subst e
    rw [List.takeWhile_cons_of_pos (by simp)]
    have := tw_ge y m k (by simpa using h) (fun j hj => ha (j + 1) (by omega))
    simpa using this
theorem getD_drop {l : List Nat} {i j : Nat} : (l.drop i).getD j 0 = l.getD (i + j) 0 := by
  rw [List.getD_eq_getElem?_getD, List.getElem?_drop, List.getD_eq_getElem?_getD]
theorem run_level {l : List Nat} {i : Nat} : Level l i (i + run l i) := by
  intro j h1 h2
  have := tw_all (l.getD i 0) (l.drop i) (j - i) (by unfold run at h2; omega)
  rw [getD_drop] at this
  rw [show i + (j - i) = j by omega] at this
  exact this
theorem run_le {l : List Nat} {i : Nat} (h : i ≤ l.length) : i + run l i ≤ l.length := by
  have := (List.takeWhile_sublist (l := l.drop i) fun h => h == l.getD i 0).length_le
  rw [List.length_drop] at this
  unfold run
  omega
theorem run_ge {l : List Nat} {i q : Nat} (h : q ≤ l.length) (hl : Level l i q) : q - i ≤ run l i := by
  refine tw_ge (l.getD i 0) (l.drop i) (q - i) (by rw [List.length_drop]; omega) (fun j hj => ?_)
  rw [getD_drop]
  exact hl (i + j) (by omega) (by omega)
theorem flat_of {l : List Nat} {lo ls : Nat} (h1 : ls < l.length) (h2 : run l ls = lo) (h3 : 0 < lo) (h4 : ∀ i, i < l.length → run l i ≤ lo) (h5 : ∀ i, i < ls → run l i < lo) : Kv363.flat l = (lo, ls) := by
  have key : ∀ k, k ≤ l.length → (if k ≤ ls then (((List.range k).map fun i => (run l i, i)).foldl (fun (b x : Nat × Nat) => if b.1 < x.1 then x else b) (0, 0)).1 < lo else ((List.range k).map fun i => (run l i, i)).foldl (fun (b x : Nat × Nat) => if b.1 < x.1 then x else b) (0, 0) = (lo, ls)) := by
    intro k
    induction k with
    | zero => intro _; rw [if_pos (Nat.zero_le _)]; exact h3
    | succ k ih =>
      intro hk
      have ih := ih (by omega)
      rw [List.range_succ, List.map_append, List.foldl_append]
      generalize ((List.range k).map fun i => (run l i, i)).foldl (fun (b x : Nat × Nat) => if b.1 < x.1 then x else b) (0, 0) = b at ih ⊢
      show (if k + 1 ≤ ls then (if b.1 < run l k then (run l k, k) else b).1 < lo else (if b.1 < run l k then (run l k, k) else b) = (lo, ls))
      by_cases c : k + 1 ≤ ls
      · rw [if_pos c]
        rw [if_pos (by omega)] at ih
        have := h5 k (by omega)
        split
        · exact this
        · exact ih
      · rw [if_neg c]
        by_cases c2 : k = ls
        · subst c2
          rw [if_pos (Nat.le_refl _)] at ih
          rw [h2, if_pos ih]
        · rw [if_neg (by omega)] at ih
          subst ih
          have := h4 k (by omega)
          rw [if_neg (by show ¬ lo < run l k; omega)]
  have := key l.length (Nat.le_refl _)
  rw [if_neg (by omega)] at this
  exact this
/-- the walk's promise: the first s heights of l gone through -/
structure Gone (l : List Nat) (s lo ls st : Nat) : Prop where
  le : st ≤ s
  lev : Level l st s
  new : 0 < st → l.getD (st - 1) 0 ≠ l.getD st 0
  in_ : ls + lo ≤ s
  own : Level l ls (ls + lo)
  all : ∀ p q, p ≤ q → q ≤ s → Level l p q → q - p ≤ lo ∧ (p < ls → q - p < lo)
theorem Gone.zero {l : List Nat} : Gone l 0 0 0 0 := ⟨Nat.le_refl _, fun i h1 h2 => absurd h2 (by omega), fun h => absurd h (by omega), by omega, fun i h1 h2 => absurd h2 (by omega), fun p q h1 h2 _ => ⟨by omega, by omega⟩⟩
theorem Gone.step {l : List Nat} {s lo ls st st' : Nat} (G : Gone l s lo ls st) (e : st' = if l.getD s 0 = l.getD st 0 then st else s) :
    if lo < s - st' + 1 then Gone l (s + 1) (s - st' + 1) st' st' else Gone l (s + 1) lo ls st' := by
  have a1 : st' ≤ s := by
    have := G.le
    split at e <;> omega
  have lev' : Level l st' (s + 1) := by
    intro i h1 h2
    by_cases c : l.getD s 0 = l.getD st 0
    · rw [if_pos c] at e
      subst e
      by_cases h : i = s
      · subst h; exact c
      · exact G.lev i h1 (by omega)
    · rw [if_neg c] at e
      have : i = st' := by omega
      rw [this]
  have new' : 0 < st' → l.getD (st' - 1) 0 ≠ l.getD st' 0 := by
    intro h
    by_cases c : l.getD s 0 = l.getD st 0
    · rw [if_pos c] at e
      subst e
      exact G.new h
    · rw [if_neg c] at e
      subst e
      have hst : st < st' := by
        have := G.le
        rcases Nat.lt_or_ge st st' with q | q
        · exact q
        · have : st = st' := by omega
          rw [this] at c
          exact absurd rfl c
      rw [G.lev (st' - 1) (by omega) (by omega)]
      exact fun z => c z.symm
  have far : ∀ p q, p ≤ q → q ≤ s + 1 → Level l p q → (q ≤ s ∨ st' ≤ p ∨ p = s + 1) := by
    intro p q h1 h2 hl
    by_cases c : q ≤ s
    · exact .inl c
    · right
      by_cases c2 : st' ≤ p
      · exact .inl c2
      · exfalso
        refine new' (by omega) ?_
        rw [hl st' (by omega) (by omega), hl (st' - 1) (by omega) (by omega)]
  have hin := G.in_
  split
  · rename_i hlt
    refine ⟨by omega, lev', new', by omega, ?_, ?_⟩
    · rw [show st' + (s - st' + 1) = s + 1 by omega]
      exact lev'
    · intro p q h1 h2 hl
      rcases far p q h1 h2 hl with c | c | c
      · have := (G.all p q h1 c hl).1
        omega
      · omega
      · omega
  · rename_i hge
    refine ⟨by omega, lev', new', by omega, G.own, ?_⟩
    intro p q h1 h2 hl
    rcases far p q h1 h2 hl with c | c | c
    · exact G.all p q h1 c hl
    · omega
    · omega
theorem Gone.flat {l : List Nat} {lo ls st : Nat} (G : Gone l l.length lo ls st) (h0 : 0 < l.length) : Kv363.flat l = (lo, ls) := by
  have one := (G.all 0 1 (by omega) (by omega) (fun i h1 h2 => by rw [show i = 0 by omega])).1
  have hin := G.in_
  have r1 := run_ge (l := l) (i := ls) (q := ls + lo) hin G.own
  have r2 := (G.all ls (ls + run l ls) (by omega) (run_le (by omega)) run_level).1
  refine flat_of (by omega) (by omega) (by omega) (fun i hi => ?_) (fun i hi => ?_)
  · have := (G.all i (i + run l i) (by omega) (run_le (by omega)) run_level).1
    omega
  · have := (G.all i (i + run l i) (by omega) (run_le (by omega)) run_level).2 hi
    omega
/-! ### told heights, in their order -/
def toldS (a : Abs) : List Nat := a.told.map Prod.fst
theorem told_filter {α : Type} (f : Nat → Nat → α) : ∀ (l : List (Option Nat)) (k : Nat), (l.zipIdx k).filterMap (fun x => x.1.map fun h => f x.2 h) = (List.range l.length).filterMap fun i => (l.getD i none).map fun h => f (k + i) h
  | [], k => rfl
  | x :: l, k => by
    rw [List.zipIdx_cons, List.filterMap_cons, told_filter f l (k + 1), List.length_cons, List.range_succ_eq_map, List.filterMap_cons, List.filterMap_map]
    have : ((fun i => ((x :: l).getD i none).map fun h => f (k + i) h) ∘ Nat.succ) = fun i => (l.getD i none).map fun h => f (k + 1 + i) h := by
      funext i
      show (l.getD i none).map (fun h => f (k + (i + 1)) h) = _
      rw [show k + (i + 1) = k + 1 + i by omega]
    rw [this]
    cases x <;> rfl
theorem toldS_eq (a : Abs) : toldS a = (List.range a.fix.length).filterMap fun i => (a.fix.getD i none).map fun _ => i := by
  unfold toldS Kv363.Abs.told
  rw [List.map_filterMap]
  have := told_filter (fun i _ => i) a.fix 0
  simp only [Nat.zero_add] at this
  rw [← this]
  congr 1
  funext x
  cases x.1 <;> rfl
theorem toldS_mem {a : Abs} {i : Nat} : i ∈ toldS a ↔ ∃ h, a.fix.getD i none = some h := by
  unfold toldS
  rw [List.mem_map]
  constructor
  · rintro ⟨⟨j, h⟩, hm, rfl⟩
    exact ⟨h, told_mem.mp hm⟩
  · rintro ⟨h, e⟩
    exact ⟨(i, h), told_mem.mpr e, rfl⟩
def farAt (a : Abs) (k i j : Nat) : Bool := decide (i < j) && decide (k * (j - i) < gap ((a.fix.getD i none).getD 0) ((a.fix.getD j none).getD 0))
def inner (a : Abs) (k i : Nat) (m : List Nat) : Option (Nat × Nat) := m.findSome? fun j => if farAt a k i j then some (i, j) else none
def outer_ (a : Abs) (k : Nat) (m : List Nat) : Option (Nat × Nat) := m.findSome? fun i => inner a k i (toldS a)
theorem find_flat {α β γ : Type} (F : α → List β) (p : β → Bool) (g : β → γ) : ∀ l : List α, ((l.flatMap F).find? p).map g = l.findSome? fun x => ((F x).find? p).map g
  | [] => rfl
  | x :: l => by
    rw [List.flatMap_cons, List.find?_append, List.findSome?_cons, ← find_flat F p g l]
    cases (F x).find? p <;> rfl
theorem find_fm {α β γ : Type} (c : α → Bool) (m : α → β) (p : β → Bool) (g : β → γ) : ∀ l : List α, (((l.filter c).map m).find? p).map g = l.findSome? fun x => if c x && p (m x) then some (g (m x)) else none
  | [] => rfl
  | x :: l => by
    have ih := find_fm c m p g l
    rw [List.findSome?_cons, ← ih, List.filter_cons]
    cases hc : c x with
    | false => rfl
    | true =>
      rw [if_pos rfl, List.map_cons, List.find?_cons]
      cases hp : p (m x) <;> rfl
theorem findSome_map {α β γ : Type} (m : α → β) (f : β → Option γ) : ∀ l : List α, (l.map m).findSome? f = l.findSome? fun x => f (m x)
  | [] => rfl
  | x :: l => by rw [List.map_cons, List.findSome?_cons, List.findSome?_cons, findSome_map m f l]
theorem findSome_congr {α γ : Type} {f g : α → Option γ} : ∀ {l : List α}, (∀ x ∈ l, f x = g x) → l.findSome? f = l.findSome? g
  | [], _ => rfl
  | x :: l, h => by rw [List.findSome?_cons, List.findSome?_cons, h x (List.mem_cons_self ..), findSome_congr fun y hy => h y (List.mem_cons_of_mem _ hy)]
theorem why_outer (a : Abs) (k : Nat) : (a.withK k).why = outer_ a k (toldS a) := by
  unfold Kv363.Abs.why
  rw [find_flat]
  unfold outer_ toldS
  rw [findSome_map]
  refine findSome_congr fun x hx => ?_
  rw [find_fm]
  unfold inner
  rw [findSome_map]
  refine findSome_congr fun y hy => ?_
  have ex := told_mem.mp (show (x.1, x.2) ∈ a.told from hx)
  have ey := told_mem.mp (show (y.1, y.2) ∈ a.told from hy)
  unfold farAt Kv363.Abs.tooFar
  rw [ex, ey]
  by_cases c : x.1 < y.1
  · have : gap x.1 y.1 = y.1 - x.1 := by unfold gap; omega
    show (if (decide (x.1 < y.1) && decide (k * gap x.1 y.1 < gap x.2 y.2)) = true then some (x.1, y.1) else none) = _
    rw [this]
    rfl
  · simp [c]
/-! ### the least grade -/
theorem far_40 {a : Abs} (W : WF a) : (a.withK 40).why = none := by
  rw [why_none]
  intro i x j y hx hy
  have hx' : a.fix.getD i none = some x := hx
  have hy' : a.fix.getD j none = some y := hy
  have h1 := W.fle hx'
  have h2 := W.fle hy'
  show gap x y ≤ 40 * gap i j
  by_cases h : i = j
  · subst h
    rw [hx'] at hy'
    cases hy'
    unfold gap
    omega
  · unfold gap
    omega
theorem leastK_of {a : Abs} {k : Nat} (hk : k ≤ 40) (h : (a.withK k).why = none) (hl : ∀ j, j < k → (a.withK j).why ≠ none) : a.leastK = k := by
  unfold Kv363.Abs.leastK
  have : ((List.range (Kv363.TOP + 1)).find? fun k => (a.withK k).why.isNone) = some k := by
    rw [List.find?_range_eq_some]
    refine ⟨by rw [h]; rfl, List.mem_range.mpr (by show k < 40 + 1; omega), fun j hj => ?_⟩
    have := hl j hj
    cases q : (a.withK j).why with
    | none => exact absurd q this
    | some p => rfl
  rw [this]
  rfl
/-! ### how low, how high -/
theorem low_of {a : Abs} {i : Nat} {m : Int} (h1 : ∃ j h, a.fix.getD j none = some h ∧ m = (h : Int) - (a.grade * gap i j : Nat)) (h2 : ∀ j h, a.fix.getD j none = some h → (h : Int) - (a.grade * gap i j : Nat) ≤ m) : (if m > 0 then m else 0) = ((a.low i : Nat) : Int) := by
  obtain ⟨j, h, e, rfl⟩ := h1
  have l1 : a.low i ≤ h - a.grade * gap i j := low_le.mpr fun j' h' e' => by
    have := h2 j' h' e'
    omega
  have l2 := low_le.mp (Nat.le_refl (a.low i)) j h e
  split <;> omega
theorem high_of {a : Abs} {i : Nat} {m : Int} (h1 : ∃ j h, a.fix.getD j none = some h ∧ m = (h : Int) + (a.grade * gap i j : Nat)) (h2 : ∀ j h, a.fix.getD j none = some h → m ≤ (h : Int) + (a.grade * gap i j : Nat)) : (if m < 40 then m else 40) = ((a.high i : Nat) : Int) := by
  obtain ⟨j, h, e, rfl⟩ := h1
  have l2 := le_high.mp (Nat.le_refl (a.high i))
  have l3 := l2.2 j h e
  have l1 : min 40 (h + a.grade * gap i j) ≤ a.high i := le_high.mpr ⟨Nat.min_le_left _ _, fun j' h' e' => by
    have := h2 j' h' e'
    omega⟩
  have l4 := l2.1
  split <;> omega
end LL

set_option Elab.async false
set_option linter.all false
set_option maxRecDepth 100000
set_option maxHeartbeats 4000000
open L2 in
local macro_rules | `(tactic| simp_arith [$ts,*]) => `(tactic| simp (config := { decide := false, zeta := true }) only [tSeq, tNext, tRet, tIfS, tAsg, tDrop, gName, tVar, tC, tOp, tUn, tChain, tTest, tB, tAnd, tOr, tNot, tAndV, tOrV, tNotV, tIf, rI0, rI, rU, rEq, rNe, tCB, tCons, tFor_eq, tLc_eq, iRng1, iRng2, iRng3, iList, iZip, iEnum, tFld, rIxL, rIxT, rSlL, tSl, tPart, tNoPart, tLst, gTup, gCons, gNil, gSub, rSetL, sFld, tMeth, tMake, tBM, tBM0, rAppend, rExtend, rInsert0, rCat, rAll, rAny, rSum, rMax, rMin, tAug, ipI, tNil, tCall, scal, start, List.map_cons, List.map_nil, List.length_cons, List.length_nil, List.replicate_succ, List.replicate_zero, Nat.reduceSub, Nat.reduceAdd, Nat.add_sub_cancel, Nat.sub_self, List.set, List.append_nil, List.cons_append, List.nil_append, List.append_eq,
  List.getElem?_cons_zero, List.getElem?_cons_succ, Option.some.injEq, V.int.injEq, V.bl.injEq, V.ref.injEq, List.cons.injEq, and_true, true_and, exists_eq_left, exists_eq_left', exists_and_left, exists_eq, exists_const, decide_eq_true_eq, Bool.not_eq_true', decide_eq_false_iff_not, reduceCtorEq, and_assoc, cxK, if_true, if_false, exists_eq', ite_not, $ts,*])
namespace LL
open PySem PySem.Spec PyProof.Rows L2
open Kv363 (Abs okFix Best Call)
/-- what a call answers -/
def ansOf (a : Abs) (c : Call) : List Int := Kv363Neutral.row (a.does c).2
/-- a look: a new list with the answer -/
def spLook (A : Ad) (c : Call) : Sp := fun vs H Q _ => ∃ (r dx g t : Addr) (a : Abs), vs = [.ref r] ∧ RoadAt A.C_Road H r dx g t a ∧ WF a ∧ ∀ l H', H l = none → Same H H' → H' l = some (.lst ((ansOf a c).map V.int)) → Q (.ref l) H'
theorem cheapM_none {a : Abs} (W : WF a) (h : cheapM a = none) : a.best = none := by
  rw [cheapM_best W] at h
  cases e : a.best with
  | none => rfl
  | some b => rw [e] at h; cases h
theorem cheapM_some {a : Abs} (W : WF a) {row : List Nat} (h : cheapM a = some row) : ∃ b, a.best = some b ∧ b.line = row := by
  rw [cheapM_best W] at h
  cases e : a.best with
  | none => rw [e] at h; cases h
  | some b => rw [e] at h; exact ⟨b, rfl, Option.some.inj h⟩
section
variable {P : Program} {w : World} {K : PySem.W.Frag} {mg : Str → Option Value} {base : Heap} {A : Ad}
theorem ok_can (T : Txt K mg A) : FnOk P w K mg base CX0 5 A.f_can A.d_can ["road"] (spLook A .can) := by
  refine T.F_can.ok sc_can (fun vs H Q E h => ?_) (fun cdv B outer s H vs Q E hr h => ?_)
  · obtain ⟨_, _, _, _, _, rfl, _⟩ := h
    rfl
  · obtain ⟨r, dx, g, t, a, rfl, R, W, k⟩ := h
    refine ⟨_, (pss_one (ps_ret (pe_lst (pa_cons (pe_ifExp (pt_cmpR op_isN (pe_call (ok_cheapest T) (hr.mono (by decide)) rfl T.m_cheapest T.F_cheapest.kp T.b_cheapest .nil pass0 (pa_cons (pv 0) pa_nil)) pe_non (nomark _)) pe_int pe_int) pa_nil)))), ?_⟩
    simp_arith [spCheap]
    refine ⟨dx, g, t, a, R, W, ?_, ?_⟩
    · intro hn H1 s1
      have hb := cheapM_none W hn
      refine ⟨by decide, fun l hl => ?_⟩
      refine k l _ (s1.free hl) (s1.upd (s1.free hl)) ?_
      rw [upd_same]
      unfold ansOf
      simp [Kv363.Abs.does, hb, Kv363.say, Kv363Neutral.row, Kv363Neutral.ints]
    · intro row hrow l1 H1 hl1 s1 e1
      obtain ⟨b, hb, _⟩ := cheapM_some W hrow
      refine ⟨by decide, fun l hl => ?_⟩
      refine k l _ (s1.free hl) (s1.upd (s1.free hl)) ?_
      rw [upd_same]
      unfold ansOf
      simp [Kv363.Abs.does, hb, Kv363.say, Kv363Neutral.row, Kv363Neutral.ints]
/-- what the cheapest line costs, if there is one -/
def spLeast (A : Ad) : Sp := fun vs H Q _ => ∃ (r dx g t : Addr) (a : Abs), vs = [.ref r] ∧ RoadAt A.C_Road H r dx g t a ∧ WF a ∧ ∀ H', Same H H' → Q (onv (a.best.map Best.cost)) H'
theorem ok_least_cost (T : Txt K mg A) : FnOk P w K mg base CX0 5 A.f_least_cost A.d_least_cost ["road"] (spLeast A) := by
  refine T.F_least_cost.ok sc_least_cost (fun vs H Q E h => ?_) (fun cdv B outer s H vs Q E hr h => ?_)
  · obtain ⟨_, _, _, _, _, rfl, _⟩ := h
    rfl
  · obtain ⟨r, dx, g, t, a, rfl, R, W, k⟩ := h
    refine ⟨_, (pss_cons (ps_set (i := 1) sc_least_cost.nd rfl (by first | exact Or.inl rfl | exact Or.inr rfl) (pe_call (ok_cheapest T) (hr.mono (by decide)) rfl T.m_cheapest T.F_cheapest.kp T.b_cheapest .nil pass0 (pa_cons (pv 0) pa_nil)))
      (pss_one (ps_ret (pe_ifExp (pt_cmpR op_isN (pv 1) pe_non (nomark _)) pe_non (pe_call (ok_cost_of T) (hr.mono (by decide)) rfl T.m_cost_of T.F_cost_of.kp T.b_cost_of .nil pass0 (pa_cons (pv 0) (pa_cons (pv 1) pa_nil))))))), ?_⟩
    simp_arith [spCheap]
    refine ⟨dx, g, t, a, R, W, ?_, ?_⟩
    · intro hn H1 s1
      have hb := cheapM_none W hn
      rw [hb] at k
      exact k H1 s1
    · intro row hrow l1 H1 hl1 s1 e1
      obtain ⟨b, hb, rfl⟩ := cheapM_some W hrow
      obtain ⟨bc, bl, bs⟩ := best_line W hb
      simp_arith [spRow]
      refine ⟨dx, g, t, a, R.same s1, b.line, SqL.of e1, bs, W.c2, W.f2, fun H2 s2 => ?_⟩
      rw [hb] at k
      rw [bc]
      exact k H2 (s1.trans s2)
theorem ok_cost (T : Txt K mg A) : FnOk P w K mg base CX0 6 A.f_cost A.d_cost ["road"] (spLook A .cost) := by
  refine T.F_cost.ok sc_cost (fun vs H Q E h => ?_) (fun cdv B outer s H vs Q E hr h => ?_)
  · obtain ⟨_, _, _, _, _, rfl, _⟩ := h
    rfl
  · obtain ⟨r, dx, g, t, a, rfl, R, W, k⟩ := h
    refine ⟨_, (pss_cons (ps_set (i := 1) sc_cost.nd rfl (by first | exact Or.inl rfl | exact Or.inr rfl) (pe_call (ok_least_cost T) (hr.mono (by decide)) rfl T.m_least_cost T.F_least_cost.kp T.b_least_cost .nil pass0 (pa_cons (pv 0) pa_nil)))
      (pss_one (ps_ret (pe_lst (pa_cons (pe_ifExp (pt_cmpR op_isN (pv 1) pe_non (nomark _)) (pe_gi T.c_NO_LINE rfl) (pv 1)) pa_nil))))), ?_⟩
    simp_arith [spLeast]
    refine ⟨dx, g, t, a, R, W, fun H1 s1 => ?_⟩
    cases hb : a.best with
    | none =>
      simp_arith [Option.map_none, onv_none]
      refine ⟨by decide, fun l hl => ?_⟩
      refine k l _ (s1.free hl) (s1.upd (s1.free hl)) ?_
      rw [upd_same]
      unfold ansOf
      simp [Kv363.Abs.does, Kv363.Abs.tells, hb, Kv363.say, Kv363Neutral.row, Kv363Neutral.ints]
    | some b =>
      simp_arith [Option.map_some, onv_some]
      refine ⟨by decide, fun l hl => ?_⟩
      refine k l _ (s1.free hl) (s1.upd (s1.free hl)) ?_
      rw [upd_same]
      unfold ansOf
      simp [Kv363.Abs.does, Kv363.Abs.tells, hb, Kv363.say, Kv363Neutral.row, Kv363Neutral.ints]
theorem ok_line (T : Txt K mg A) : FnOk P w K mg base CX0 5 A.f_line A.d_line ["road"] (spLook A .line) := by
  refine T.F_line.ok sc_line (fun vs H Q E h => ?_) (fun cdv B outer s H vs Q E hr h => ?_)
  · obtain ⟨_, _, _, _, _, rfl, _⟩ := h
    rfl
  · obtain ⟨r, dx, g, t, a, rfl, R, W, k⟩ := h
    refine ⟨_, (pss_cons (ps_set (i := 1) sc_line.nd rfl (by first | exact Or.inl rfl | exact Or.inr rfl) (pe_call (ok_cheapest T) (hr.mono (by decide)) rfl T.m_cheapest T.F_cheapest.kp T.b_cheapest .nil pass0 (pa_cons (pv 0) pa_nil)))
      (pss_cons (ps_if (pt_cmpR op_isN (pv 1) pe_non (nomark _))
      (pss_one (ps_ret (pe_lst (pa_cons (pe_gi T.c_NO_LINE rfl) pa_nil))))
      pss_nil)
      (pss_one (ps_ret (pe_op op_cat (pe_lst (pa_cons (pe_callB (call_len_seq) (by rfl) T.n_len bo_len (pa_cons (pv 1) pa_nil)) pa_nil)) (pv 1)))))), ?_⟩
    simp_arith [spCheap]
    refine ⟨dx, g, t, a, R, W, ?_, ?_⟩
    · intro hn H1 s1
      have hb := cheapM_none W hn
      refine ⟨by decide, fun l hl => ?_⟩
      refine k l _ (s1.free hl) (s1.upd (s1.free hl)) ?_
      rw [upd_same]
      unfold ansOf
      simp [Kv363.Abs.does, Kv363.Abs.tells, hb, Kv363.say, Kv363Neutral.row, Kv363Neutral.ints]
    · intro row hrow l1 H1 hl1 s1 e1
      obtain ⟨b, hb, rfl⟩ := cheapM_some W hrow
      obtain ⟨bc, bl, bs⟩ := best_line W hb
      refine ⟨_, .inl (SqL.of e1), by decide, fun q hq => ?_⟩
      have nq : l1 ≠ q := ne_of_none e1 hq
      refine ⟨_, upd_same, _, by rw [upd_ne nq]; exact e1, ?_, fun l hl => ?_⟩
      · have : b.line.length ≤ 1000 := bs
        rw [List.length_map]
        have := small1000 (n := 1 + b.line.length)
        have hs : (1000 : Nat) + 1 ≤ sizeLine := by decide
        show 1 + b.line.length ≤ sizeLine
        omega
      have nl : l ≠ q := fun z => by rw [z, upd_same] at hl; cases hl
      have hl1 : H1 l = none := by rw [upd_ne nl] at hl; exact hl
      have hlq : H q = none := s1.free hq
      refine k l _ (s1.free hl1) ((s1.upd hlq).upd (s1.free hl1)) ?_
      rw [upd_same]
      unfold ansOf
      simp [Kv363.Abs.does, Kv363.list, hb, Kv363.say, Kv363Neutral.row, Kv363Neutral.ints, nv]
theorem ok_earth (T : Txt K mg A) : FnOk P w K mg base CX0 5 A.f_earth A.d_earth ["road"] (spLook A .earth) := by
  refine T.F_earth.ok sc_earth (fun vs H Q E h => ?_) (fun cdv B outer s H vs Q E hr h => ?_)
  · obtain ⟨_, _, _, _, _, rfl, _⟩ := h
    rfl
  · obtain ⟨r, dx, g, t, a, rfl, R, W, k⟩ := h
    refine ⟨_, (pss_cons (ps_set (i := 1) sc_earth.nd rfl (by first | exact Or.inl rfl | exact Or.inr rfl) (pe_call (ok_cheapest T) (hr.mono (by decide)) rfl T.m_cheapest T.F_cheapest.kp T.b_cheapest .nil pass0 (pa_cons (pv 0) pa_nil)))
      (pss_cons (ps_if (pt_cmpR op_isN (pv 1) pe_non (nomark _))
      (pss_one (ps_ret (pe_lst (pa_cons (pe_gi T.c_NO_LINE rfl) pa_nil))))
      pss_nil)
      (pss_one (ps_ret (pe_lst (pa_cons (pe_call (ok_cut_of T) (hr.mono (by decide)) rfl T.m_cut_of T.F_cut_of.kp T.b_cut_of .nil pass0 (pa_cons (pv 0) (pa_cons (pv 1) pa_nil))) (pa_cons (pe_call (ok_filled_of T) (hr.mono (by decide)) rfl T.m_filled_of T.F_filled_of.kp T.b_filled_of .nil pass0 (pa_cons (pv 0) (pa_cons (pv 1) pa_nil))) pa_nil))))))), ?_⟩
    simp_arith [spCheap]
    refine ⟨dx, g, t, a, R, W, ?_, ?_⟩
    · intro hn H1 s1
      have hb := cheapM_none W hn
      refine ⟨by decide, fun l hl => ?_⟩
      refine k l _ (s1.free hl) (s1.upd (s1.free hl)) ?_
      rw [upd_same]
      unfold ansOf
      simp [Kv363.Abs.does, Kv363.Abs.tells, hb, Kv363.say, Kv363Neutral.row, Kv363Neutral.ints]
    · intro row hrow l1 H1 hl1 s1 e1
      obtain ⟨b, hb, rfl⟩ := cheapM_some W hrow
      obtain ⟨bc, bl, bs⟩ := best_line W hb
      simp_arith [spRow]
      refine ⟨dx, g, t, a, R.same s1, b.line, SqL.of e1, bs, fun H2 s2 => ?_⟩
      refine ⟨dx, g, t, a, (R.same s1).same s2, b.line, SqL.of (s2 _ _ e1), bs, fun H3 s3 => ?_⟩
      refine ⟨by decide, fun l hl => ?_⟩
      have s4 := (s1.trans s2).trans s3
      refine k l _ (s4.free hl) (s4.upd (s4.free hl)) ?_
      rw [upd_same]
      unfold ansOf
      simp [Kv363.Abs.does, hb, Kv363.say, Kv363Neutral.row, Kv363Neutral.ints]
end
end LL

set_option Elab.async false
set_option linter.all false
set_option maxRecDepth 100000
set_option maxHeartbeats 4000000
open L2 in
local macro_rules | `(tactic| simp_arith [$ts,*]) => `(tactic| simp (config := { decide := false, zeta := true }) only [tSeq, tNext, tRet, tIfS, tAsg, tDrop, gName, tVar, tC, tOp, tUn, tChain, tTest, tB, tAnd, tOr, tNot, tAndV, tOrV, tNotV, tIf, rI0, rI, rU, rEq, rNe, tCB, tCons, tFor_eq, tLc_eq, iRng1, iRng2, iRng3, iList, iZip, iEnum, tFld, rIxL, rIxT, rSlL, tSl, tPart, tNoPart, tLst, gTup, gCons, gNil, gSub, rSetL, sFld, tMeth, tMake, tBM, tBM0, rAppend, rExtend, rInsert0, rCat, rAll, rAny, rSum, rMax, rMin, tAug, ipI, tNil, tCall, scal, start, List.map_cons, List.map_nil, List.length_cons, List.length_nil, List.replicate_succ, List.replicate_zero, Nat.reduceSub, Nat.reduceAdd, Nat.add_sub_cancel, Nat.sub_self, List.set, List.append_nil, List.cons_append, List.nil_append, List.append_eq,
  List.getElem?_cons_zero, List.getElem?_cons_succ, Option.some.injEq, V.int.injEq, V.bl.injEq, V.ref.injEq, List.cons.injEq, and_true, true_and, exists_eq_left, exists_eq_left', exists_and_left, exists_eq, exists_const, decide_eq_true_eq, Bool.not_eq_true', decide_eq_false_iff_not, reduceCtorEq, and_assoc, cxK, if_true, if_false, exists_eq', ite_not, $ts,*])
namespace LL
open PySem PySem.Spec PyProof.Rows L2
open Kv363 (Abs okFix Best Call)
theorem upd_at {H : Hp} {a b : Addr} {o : HO} : upd H a o b = if b = a then some o else H b := rfl
theorem ixN_nat {n i : Nat} (h : i < n) : ixN n (i : Int) = some i := by
  unfold ixN
  rw [if_pos (by omega), if_pos (by omega), Int.toNat_natCast]
theorem ixN_m1 {n : Nat} (h : 0 < n) : ixN n (-1) = some (n - 1) := by
  unfold ixN
  rw [if_neg (by omega), if_pos (by omega)]
  congr 1
  omega
theorem atI_m1 {xs : List V} {v : V} (h0 : 0 < xs.length) (h : xs[xs.length - 1]? = some v) : atI xs (-1) = some v := by
  unfold atI
  rw [ixN_m1 h0]
  exact h
theorem rf_len {g t : Addr} {k c f : Nat} : (rf g t k c f).length = 5 := rfl
theorem rf_no {g t : Addr} {k c f : Nat} {m : Str} (h : ¬ m = "ground" ∧ ¬ m = "told" ∧ ¬ m = "grade" ∧ ¬ m = "cut_price" ∧ ¬ m = "fill_price") : (rf g t k c f).lookup m = none := by
  obtain ⟨h1, h2, h3, h4, h5⟩ := h
  unfold rf
  simp only [List.lookup]
  rw [beq_eq_false_iff_ne.mpr h1, beq_eq_false_iff_ne.mpr h2, beq_eq_false_iff_ne.mpr h3, beq_eq_false_iff_ne.mpr h4, beq_eq_false_iff_ne.mpr h5]
theorem rf_pgrade {g t : Addr} {k c f y : Nat} : putF "grade" (V.int y) (rf g t k c f) = rf g t y c f := rfl
theorem rf_pcut {g t : Addr} {k c f y : Nat} : putF "cut_price" (V.int y) (rf g t k c f) = rf g t k y f := rfl
theorem rf_pfill {g t : Addr} {k c f y : Nat} : putF "fill_price" (V.int y) (rf g t k c f) = rf g t k c y := rfl
theorem rf_pground {g t g' : Addr} {k c f : Nat} : putF "ground" (V.ref g') (rf g t k c f) = rf g' t k c f := rfl
theorem rf_ptold {g t t' : Addr} {k c f : Nat} : putF "told" (V.ref t') (rf g t k c f) = rf g t' k c f := rfl
/-- all but the road stands -/
def Fr (H H' : Hp) (r g t : Addr) : Prop := ∀ b o, H b = some o → b ≠ r → b ≠ g → b ≠ t → H' b = some o
theorem RoadAt.rg {C : Addr} {H : Hp} {r dx g t : Addr} {a : Abs} (R : RoadAt C H r dx g t a) : r ≠ g := ne_of R.ins R.gr (by intro z; cases z)
theorem RoadAt.rt {C : Addr} {H : Hp} {r dx g t : Addr} {a : Abs} (R : RoadAt C H r dx g t a) : r ≠ t := ne_of R.ins R.tl (by intro z; cases z)
/-- a call with one number that changes the road -/
def spCh1 (A : Ad) (c : Nat → Call) : Sp := fun vs H Q _ => ∃ (r dx g t : Addr) (a : Abs) (x : Nat), vs = [.ref r, .int x] ∧ RoadAt A.C_Road H r dx g t a ∧ WF a ∧
  ∀ l H', H l = none → RoadAt A.C_Road H' r dx g t (a.does (c x)).1 → Fr H H' r g t → H' l = some (.lst ((ansOf a (c x)).map V.int)) → Q (.ref l) H'
def spCh2 (A : Ad) (c : Nat → Nat → Call) : Sp := fun vs H Q _ => ∃ (r dx g t : Addr) (a : Abs) (x y : Nat), vs = [.ref r, .int x, .int y] ∧ RoadAt A.C_Road H r dx g t a ∧ WF a ∧
  ∀ l H', H l = none → RoadAt A.C_Road H' r dx g t (a.does (c x y)).1 → Fr H H' r g t → H' l = some (.lst ((ansOf a (c x y)).map V.int)) → Q (.ref l) H'
theorem upd_free {H : Hp} {r l : Addr} {o : HO} (h : upd H r o l = none) : l ≠ r ∧ H l = none := by
  have n : l ≠ r := fun z => by rw [z, upd_same] at h; cases h
  rw [upd_ne n] at h
  exact ⟨n, h⟩
section
variable {P : Program} {w : World} {K : PySem.W.Frag} {mg : Str → Option Value} {base : Heap} {A : Ad}
theorem ok_Road_change_grade (T : Txt K mg A) : FnOk P w K mg base CX0 1 A.f_Road_change_grade A.d_Road_change_grade ["self", "grade"] (spCh1 A .grade) := by
  refine T.F_Road_change_grade.ok sc_Road_change_grade (fun vs H Q E h => ?_) (fun cdv B outer s H vs Q E hr h => ?_)
  · obtain ⟨_, _, _, _, _, _, rfl, _⟩ := h
    rfl
  · obtain ⟨r, dx, g, t, a, x, rfl, R, W, k⟩ := h
    have h1 := R.ins
    refine ⟨_, (pss_cons (ps_if (pt_cmpR op_gt (pv 1) (pe_gi T.c_STEEPEST rfl) (nomark _))
      (pss_one (ps_ret (pe_lst (pa_cons (pe_gi T.c_OUT_OF_RANGE rfl) pa_nil))))
      pss_nil)
      (pss_cons (ps_set (i := 2) sc_Road_change_grade.nd rfl (by first | exact Or.inl rfl | exact Or.inr rfl) (pe_fld (pv 0) rfl))
      (pss_cons (ps_fld (pv 0) (pv 1) rfl)
      (pss_one (ps_ret (pe_lst (pa_cons (pv 2) pa_nil))))))), ?_⟩
    simp_arith [h1, HO.ins.injEq, T.cl_Road, T.a_Road_grade, rf_grade, rf_len, rf_pgrade]
    by_cases hx : 10 < x
    · have e : a.does (.grade x) = (a, Kv363.say (-22)) := if_pos hx
      rw [if_pos (by omega)]
      refine ⟨by decide, fun l hl => ?_⟩
      refine k l _ hl ?_ (fun b o e _ _ _ => (Same.refl H).upd hl b o e) ?_
      · rw [e]
        exact R.same ((Same.refl H).upd hl)
      · unfold ansOf
        rw [e, upd_same]
        rfl
    · have e : a.does (.grade x) = (a.withK x, Kv363.say (a.grade : Nat)) := if_neg hx
      rw [if_neg (by omega)]
      refine ⟨by decide, by decide, fun l hl => ?_⟩
      obtain ⟨nl, hl⟩ := upd_free hl
      have nrl : r ≠ l := nl.symm
      have ngl : g ≠ l := ne_of_none R.gr hl
      have ntl : t ≠ l := ne_of_none R.tl hl
      refine k l _ hl ?_ (fun b o e b1 b2 b3 => ?_) ?_
      · rw [e]
        refine ⟨?_, ?_, ?_, R.ne⟩
        · rw [upd_ne nrl, upd_same]
          rfl
        · rw [upd_ne ngl, upd_ne R.rg.symm]
          exact R.gr
        · rw [upd_ne ntl, upd_ne R.rt.symm]
          exact R.tl
      · rw [upd_ne (ne_of_none e hl), upd_ne b1]
        exact e
      · unfold ansOf
        rw [e, upd_same]
        rfl
theorem ok_Road_change_prices (T : Txt K mg A) : FnOk P w K mg base CX0 2 A.f_Road_change_prices A.d_Road_change_prices ["self", "cut_price", "fill_price"] (spCh2 A .price) := by
  refine T.F_Road_change_prices.ok sc_Road_change_prices (fun vs H Q E h => ?_) (fun cdv B outer s H vs Q E hr h => ?_)
  · obtain ⟨_, _, _, _, _, _, _, rfl, _⟩ := h
    rfl
  · obtain ⟨r, dx, g, t, a, x, y, rfl, R, W, k⟩ := h
    have h1 := R.ins
    refine ⟨_, (pss_cons (ps_if (PW.pt (pw_or (pt_not (pt_val (pe_call (ok_is_price T) (hr.mono (by decide)) rfl T.m_is_price T.F_is_price.kp T.b_is_price .nil pass0 (pa_cons (pv 1) pa_nil)))) (pw_or1 (pt_not (pt_val (pe_call (ok_is_price T) (hr.mono (by decide)) rfl T.m_is_price T.F_is_price.kp T.b_is_price .nil pass0 (pa_cons (pv 2) pa_nil)))))))
      (pss_one (ps_ret (pe_lst (pa_cons (pe_gi T.c_OUT_OF_RANGE rfl) pa_nil))))
      pss_nil)
      (pss_cons (ps_set (i := 3) sc_Road_change_prices.nd rfl (by first | exact Or.inl rfl | exact Or.inr rfl) (pe_lst (pa_cons (pe_fld (pv 0) rfl) (pa_cons (pe_fld (pv 0) rfl) pa_nil))))
      (pss_cons (ps_fld (pv 0) (pv 1) rfl)
      (pss_cons (ps_fld (pv 0) (pv 2) rfl)
      (pss_one (ps_ret (pv 3))))))), ?_⟩
    simp_arith [spPrice]
    have ex : ∀ z : Nat, (decide ((1 : Int) ≤ (z : Int)) && decide ((z : Int) ≤ 10)) = decide (1 ≤ z ∧ z ≤ 10) := fun z => by
      rw [← Bool.decide_and]
      exact decide_eq_decide.mpr (by omega)
    rw [ex, ex]
    by_cases hx : x = 0 ∨ 10 < x ∨ y = 0 ∨ 10 < y
    · have e : a.does (.price x y) = (a, Kv363.say (-22)) := if_pos hx
      have fin : 1 ≤ sizeLine ∧ ∀ (p : Addr), H p = none → Q (V.ref p) (upd H p (HO.lst [V.int (-22)])) := by
        refine ⟨by decide, fun l hl => ?_⟩
        refine k l _ hl ?_ (fun b o e _ _ _ => (Same.refl H).upd hl b o e) ?_
        · rw [e]
          exact R.same ((Same.refl H).upd hl)
        · unfold ansOf
          rw [e, upd_same]
          rfl
      by_cases h1 : 1 ≤ x ∧ x ≤ 10
      · rw [if_neg (by simp [h1]), if_pos (by simp; omega)]
        exact fin
      · rw [if_pos (by simp; omega)]
        exact fin
    · have e : a.does (.price x y) = ({ a with cutp := x, fillp := y }, ⟨(a.cutp : Nat), [a.fillp]⟩) := if_neg hx
      rw [if_neg (by simp; omega), if_neg (by simp; omega)]
      simp_arith [h1, HO.ins.injEq, T.cl_Road, T.a_Road_cut_price, T.a_Road_fill_price, rf_cut, rf_fill]
      refine ⟨by decide, fun l hl => ?_⟩
      have nrl : r ≠ l := ne_of_none h1 hl
      have ngl : g ≠ l := ne_of_none R.gr hl
      have ntl : t ≠ l := ne_of_none R.tl hl
      simp_arith [upd_at, nrl, h1, HO.ins.injEq, T.cl_Road, T.a_Road_cut_price, T.a_Road_fill_price, rf_cut, rf_fill, rf_pcut, rf_pfill, rf_len]
      refine ⟨by decide, by decide, ?_⟩
      refine k l _ hl ?_ (fun b o e b1 b2 b3 => ?_) ?_
      · rw [e]
        refine ⟨?_, ?_, ?_, R.ne⟩
        · rw [upd_same]
        · rw [upd_ne R.rg.symm, upd_ne R.rg.symm, upd_ne ngl]
          exact R.gr
        · rw [upd_ne R.rt.symm, upd_ne R.rt.symm, upd_ne ntl]
          exact R.tl
      · rw [upd_ne b1, upd_ne b1, upd_ne (ne_of_none e hl)]
        exact e
      · unfold ansOf
        rw [e, upd_ne nrl.symm, upd_ne nrl.symm, upd_same]
        rfl
/-- a refusal: one number in a new list, the road as it was -/
theorem refused {C : Addr} {H : Hp} {r dx g t : Addr} {a : Abs} {c : Call} {n : Int} {Q : VK} (R : RoadAt C H r dx g t a) (e : a.does c = (a, Kv363.say n))
    (k : ∀ l H', H l = none → RoadAt C H' r dx g t (a.does c).1 → Fr H H' r g t → H' l = some (.lst ((ansOf a c).map V.int)) → Q (.ref l) H') : 1 ≤ sizeLine ∧ ∀ (p : Addr), H p = none → Q (V.ref p) (upd H p (HO.lst [V.int n])) := by
  refine ⟨by decide, fun l hl => ?_⟩
  refine k l _ hl ?_ (fun b o e _ _ _ => (Same.refl H).upd hl b o e) ?_
  · rw [e]
    exact R.same ((Same.refl H).upd hl)
  · unfold ansOf
    rw [e, upd_same]
    rfl
def spTest1 (A : Ad) (f : Abs → Nat → Bool) : Sp := fun vs H Q _ => ∃ (r dx g t : Addr) (a : Abs) (i : Nat), vs = [.ref r, .int i] ∧ RoadAt A.C_Road H r dx g t a ∧ 2 ≤ a.ground.length ∧ Q (.bl (f a i)) H
theorem ok_Road_has_station (T : Txt K mg A) : FnOk P w K mg base CX0 1 A.f_Road_has_station A.d_Road_has_station ["self", "station"] (spTest1 A fun a i => decide (i < a.n)) := by
  refine T.F_Road_has_station.ok sc_Road_has_station (fun vs H Q E h => ?_) (fun cdv B outer s H vs Q E hr h => ?_)
  · obtain ⟨_, _, _, _, _, _, rfl, _⟩ := h
    rfl
  · obtain ⟨r, dx, g, t, a, i, rfl, R, W, k⟩ := h
    have h1 := R.ins
    refine ⟨_, (pss_one (ps_ret (pe_cmpR op_lt (pv 1) (pe_callB (call_len_seq) (by rfl) T.n_len bo_len (pa_cons (pe_fld (pv 0) rfl) pa_nil)) (nomark _)))), ?_⟩
    simp_arith [h1, HO.ins.injEq, T.cl_Road, T.a_Road_ground, rf_ground]
    refine ⟨_, .inl (SqL.of R.gr), ?_⟩
    have e : decide ((i : Int) < ((a.ground.map nv).length : Nat)) = decide (i < a.n) := by
      rw [List.length_map]
      exact decide_eq_decide.mpr (by unfold Kv363.Abs.n; omega)
    rw [e]
    exact k
theorem ok_Road_is_end (T : Txt K mg A) : FnOk P w K mg base CX0 1 A.f_Road_is_end A.d_Road_is_end ["self", "station"] (spTest1 A fun a i => a.end_ i) := by
  refine T.F_Road_is_end.ok sc_Road_is_end (fun vs H Q E h => ?_) (fun cdv B outer s H vs Q E hr h => ?_)
  · obtain ⟨_, _, _, _, _, _, rfl, _⟩ := h
    rfl
  · obtain ⟨r, dx, g, t, a, i, rfl, R, W, k⟩ := h
    have h1 := R.ins
    refine ⟨_, (pss_one (ps_ret (pe_or (pe_cmpR op_eq (pv 1) pe_int (nomark _)) (pe_one (pe_cmpR op_eq (pv 1) (pe_op op_sub (pe_callB (call_len_seq) (by rfl) T.n_len bo_len (pa_cons (pe_fld (pv 0) rfl) pa_nil)) pe_int) (nomark _)))))), ?_⟩
    simp_arith [h1, HO.ins.injEq, T.cl_Road, T.a_Road_ground, rf_ground]
    by_cases h0 : i = 0
    · rw [if_pos (by omega)]
      have e : a.end_ i = true := by unfold Kv363.Abs.end_; simp [h0]
      rw [← e]
      exact k
    · rw [if_neg (by omega)]
      refine ⟨_, .inl (SqL.of R.gr), ?_⟩
      have e : decide ((i : Int) = ((a.ground.map nv).length : Nat) - 1) = a.end_ i := by
        rw [List.length_map]
        unfold Kv363.Abs.end_ Kv363.Abs.n
        rw [beq_eq_false_iff_ne.mpr h0, Bool.false_or, Bool.beq_eq_decide_eq]
        exact decide_eq_decide.mpr (by omega)
      rw [e]
      exact k
end
end LL

set_option Elab.async false
set_option linter.all false
set_option maxRecDepth 100000
set_option maxHeartbeats 4000000
open L2 in
local macro_rules | `(tactic| simp_arith [$ts,*]) => `(tactic| simp (config := { decide := false, zeta := true }) only [tSeq, tNext, tRet, tIfS, tAsg, tDrop, gName, tVar, tC, tOp, tUn, tChain, tTest, tB, tAnd, tOr, tNot, tAndV, tOrV, tNotV, tIf, rI0, rI, rU, rEq, rNe, tCB, tCons, tFor_eq, tLc_eq, iRng1, iRng2, iRng3, iList, iZip, iEnum, tFld, rIxL, rIxT, rSlL, tSl, tPart, tNoPart, tLst, gTup, gCons, gNil, gSub, rSetL, sFld, tMeth, tMake, tBM, tBM0, rAppend, rExtend, rInsert0, rCat, rAll, rAny, rSum, rMax, rMin, tAug, ipI, tNil, tCall, scal, start, List.map_cons, List.map_nil, List.length_cons, List.length_nil, List.replicate_succ, List.replicate_zero, Nat.reduceSub, Nat.reduceAdd, Nat.add_sub_cancel, Nat.sub_self, List.set, List.append_nil, List.cons_append, List.nil_append, List.append_eq,
  List.getElem?_cons_zero, List.getElem?_cons_succ, Option.some.injEq, V.int.injEq, V.bl.injEq, V.ref.injEq, List.cons.injEq, and_true, true_and, exists_eq_left, exists_eq_left', exists_and_left, exists_eq, exists_const, decide_eq_true_eq, Bool.not_eq_true', decide_eq_false_iff_not, reduceCtorEq, and_assoc, cxK, if_true, if_false, exists_eq', ite_not, $ts,*])
namespace LL
open PySem PySem.Spec PyProof.Rows L2
open Kv363 (Abs okFix Best Call)
section
variable {P : Program} {w : World} {K : PySem.W.Frag} {mg : Str → Option Value} {base : Heap} {A : Ad}
theorem ok_Road_change_ground (T : Txt K mg A) : FnOk P w K mg base CX0 2 A.f_Road_change_ground A.d_Road_change_ground ["self", "station", "height"] (spCh2 A .ground) := by
  refine T.F_Road_change_ground.ok sc_Road_change_ground (fun vs H Q E h => ?_) (fun cdv B outer s H vs Q E hr h => ?_)
  · obtain ⟨_, _, _, _, _, _, _, rfl, _⟩ := h
    rfl
  · obtain ⟨r, dx, g, t, a, i, x, rfl, R, W, k⟩ := h
    have h1 := R.ins
    have n1 : (rf g t a.grade a.cutp a.fillp).lookup ("has_station" : Str) = none := rf_no (by decide +kernel)
    refine ⟨_, (pss_cons (ps_if (pt_not (pt_val (pe_meth (pv 0) T.cl_Road T.x_Road_has_station (ok_Road_has_station T) (hr.mono (by decide)) T.b_Road_has_station .nil pass0 (pa_cons (pv 1) pa_nil))))
      (pss_one (ps_ret (pe_lst (pa_cons (pe_gi T.c_NO_STATION rfl) pa_nil))))
      pss_nil)
      (pss_cons (ps_if (pt_not (pt_val (pe_call (ok_is_height T) (hr.mono (by decide)) rfl T.m_is_height T.F_is_height.kp T.b_is_height .nil pass0 (pa_cons (pv 2) pa_nil))))
      (pss_one (ps_ret (pe_lst (pa_cons (pe_gi T.c_OUT_OF_RANGE rfl) pa_nil))))
      pss_nil)
      (pss_cons (ps_set (i := 3) sc_Road_change_ground.nd rfl (by first | exact Or.inl rfl | exact Or.inr rfl) (pe_ix ix_list (pe_fld (pv 0) rfl) (pv 1) (fun _ _ => rfl)))
      (pss_cons (ps_asg (pv 2) (pg_sub (pe_fld (pv 0) rfl) (pv 1) set_list))
      (pss_one (ps_ret (pe_lst (pa_cons (pv 3) pa_nil)))))))), ?_⟩
    simp_arith [h1, HO.ins.injEq, n1, spTest1, spH, int_heights]
    refine ⟨dx, g, t, a, i, rfl, R, W.two, ?_⟩
    by_cases hi : a.n ≤ i
    · rw [if_neg (by omega)]
      exact refused (c := .ground i x) (n := -2) R (by exact if_pos hi) k
    rw [if_pos (by omega)]
    by_cases hx : 40 < x
    · rw [if_neg (by omega)]
      exact refused (c := .ground i x) (n := -22) R (by exact (if_neg hi).trans (if_pos hx)) k
    rw [if_pos (by omega)]
    have hi' : i < a.ground.length := Nat.lt_of_not_le hi
    have hG := getD_nv (cs := a.ground) (k := i) hi'
    simp_arith [h1, HO.ins.injEq, T.cl_Road, T.a_Road_ground, rf_ground]
    refine ⟨_, SqL.of R.gr, _, atI_nat hG, _, R.gr, i, ixN_nat (by rw [List.length_map]; exact hi'), by decide, fun l hl => ?_⟩
    obtain ⟨nl, hl⟩ := upd_free hl
    have e : a.does (.ground i x) = ({ a with ground := a.ground.set i x }, Kv363.say (a.ground.getD i 0 : Nat)) := (if_neg hi).trans (if_neg hx)
    refine k l _ hl ?_ (fun b o e b1 b2 b3 => ?_) ?_
    · rw [e]
      refine ⟨?_, ?_, ?_, R.ne⟩
      · rw [upd_ne (ne_of_none h1 hl), upd_ne R.rg]
        exact h1
      · rw [upd_ne nl.symm, upd_same, List.map_set]
        rfl
      · rw [upd_ne (ne_of_none R.tl hl), upd_ne R.ne.symm]
        exact R.tl
    · rw [upd_ne (ne_of_none e hl), upd_ne b2]
      exact e
    · unfold ansOf
      rw [e, upd_same]
      rfl
/-- 0 where none is told, else one more -/
def more : Option Nat → Nat
  | none => 0
  | some y => y + 1
def spMore (A : Ad) : Sp := fun vs H Q _ => ∃ (r dx g t : Addr) (a : Abs) (i : Nat), vs = [.ref r, .int i] ∧ RoadAt A.C_Road H r dx g t a ∧ i < a.fix.length ∧ Q (.int (more (a.fix.getD i none) : Nat)) H
theorem ok_Road_one_more_than_told (T : Txt K mg A) : FnOk P w K mg base CX0 1 A.f_Road_one_more_than_told A.d_Road_one_more_than_told ["self", "station"] (spMore A) := by
  refine T.F_Road_one_more_than_told.ok sc_Road_one_more_than_told (fun vs H Q E h => ?_) (fun cdv B outer s H vs Q E hr h => ?_)
  · obtain ⟨_, _, _, _, _, _, rfl, _⟩ := h
    rfl
  · obtain ⟨r, dx, g, t, a, i, rfl, R, hi, k⟩ := h
    have h1 := R.ins
    have hT := getD_onv (cs := a.fix) (k := i) hi
    refine ⟨_, (pss_cons (ps_set (i := 2) sc_Road_one_more_than_told.nd rfl (by first | exact Or.inl rfl | exact Or.inr rfl) (pe_ix ix_list (pe_fld (pv 0) rfl) (pv 1) (fun _ _ => rfl)))
      (pss_one (ps_ret (pe_ifExp (pt_cmpR op_isN (pv 2) pe_non (nomark _)) pe_int (pe_op op_add (pv 2) pe_int))))), ?_⟩
    simp_arith [h1, HO.ins.injEq, T.cl_Road, T.a_Road_told, rf_told]
    refine ⟨_, SqL.of R.tl, _, atI_nat hT, ?_⟩
    cases q : a.fix.getD i none with
    | none =>
      rw [q] at k
      simp_arith [onv_none]
      exact k
    | some y =>
      rw [q] at k
      simp_arith [onv_some]
      exact k
theorem ok_Road_fix (T : Txt K mg A) : FnOk P w K mg base CX0 2 A.f_Road_fix A.d_Road_fix ["self", "station", "height"] (spCh2 A .fix) := by
  refine T.F_Road_fix.ok sc_Road_fix (fun vs H Q E h => ?_) (fun cdv B outer s H vs Q E hr h => ?_)
  · obtain ⟨_, _, _, _, _, _, _, rfl, _⟩ := h
    rfl
  · obtain ⟨r, dx, g, t, a, i, x, rfl, R, W, k⟩ := h
    have h1 := R.ins
    have n1 : (rf g t a.grade a.cutp a.fillp).lookup ("has_station" : Str) = none := rf_no (by decide +kernel)
    have n2 : (rf g t a.grade a.cutp a.fillp).lookup ("is_end" : Str) = none := rf_no (by decide +kernel)
    refine ⟨_, (pss_cons (ps_if (pt_not (pt_val (pe_meth (pv 0) T.cl_Road T.x_Road_has_station (ok_Road_has_station T) (hr.mono (by decide)) T.b_Road_has_station .nil pass0 (pa_cons (pv 1) pa_nil))))
      (pss_one (ps_ret (pe_lst (pa_cons (pe_gi T.c_NO_STATION rfl) pa_nil))))
      pss_nil)
      (pss_cons (ps_if (pt_val (pe_meth (pv 0) T.cl_Road T.x_Road_is_end (ok_Road_is_end T) (hr.mono (by decide)) T.b_Road_is_end .nil pass0 (pa_cons (pv 1) pa_nil)))
      (pss_one (ps_ret (pe_lst (pa_cons (pe_gi T.c_AN_END rfl) pa_nil))))
      pss_nil)
      (pss_cons (ps_if (pt_not (pt_val (pe_call (ok_is_height T) (hr.mono (by decide)) rfl T.m_is_height T.F_is_height.kp T.b_is_height .nil pass0 (pa_cons (pv 2) pa_nil))))
      (pss_one (ps_ret (pe_lst (pa_cons (pe_gi T.c_OUT_OF_RANGE rfl) pa_nil))))
      pss_nil)
      (pss_cons (ps_set (i := 3) sc_Road_fix.nd rfl (by first | exact Or.inl rfl | exact Or.inr rfl) (pe_meth (pv 0) T.cl_Road T.x_Road_one_more_than_told (ok_Road_one_more_than_told T) (hr.mono (by decide)) T.b_Road_one_more_than_told .nil pass0 (pa_cons (pv 1) pa_nil)))
      (pss_cons (ps_asg (pv 2) (pg_sub (pe_fld (pv 0) rfl) (pv 1) set_list))
      (pss_one (ps_ret (pe_lst (pa_cons (pv 3) pa_nil))))))))), ?_⟩
    simp_arith [h1, HO.ins.injEq, n1, n2, spTest1, spH, int_heights]
    refine ⟨dx, g, t, a, i, rfl, R, W.two, ?_⟩
    by_cases hi : a.n ≤ i
    · rw [if_neg (by omega)]
      exact refused (c := .fix i x) (n := -2) R (by exact if_pos hi) k
    rw [if_pos (by omega)]
    refine ⟨dx, g, t, a, i, rfl, R, W.two, ?_⟩
    by_cases he : a.end_ i = true
    · rw [if_pos he]
      exact refused (c := .fix i x) (n := -16) R (by exact (if_neg hi).trans (if_pos he)) k
    rw [if_neg he]
    by_cases hx : 40 < x
    · rw [if_neg (by omega)]
      exact refused (c := .fix i x) (n := -22) R (by exact (if_neg hi).trans ((if_neg he).trans (if_pos hx))) k
    rw [if_pos (by omega)]
    have hi' : i < a.ground.length := Nat.lt_of_not_le hi
    have hl' : i < a.fix.length := by rw [W.len]; exact hi'
    have hT := getD_onv (cs := a.fix) (k := i) hl'
    have e : a.does (.fix i x) = (a.setF i (some x), Kv363.say (match a.fix.getD i none with
      | none => 0
      | some y => y + 1)) := (if_neg hi).trans ((if_neg he).trans (if_neg hx))
    have n3 : (rf g t a.grade a.cutp a.fillp).lookup ("one_more_than_told" : Str) = none := rf_no (by decide +kernel)
    simp_arith [h1, HO.ins.injEq, T.cl_Road, T.a_Road_told, rf_told, n3, spMore]
    refine ⟨dx, g, t, a, i, rfl, R, hl', ?_⟩
    refine ⟨_, R.tl, i, ixN_nat (by rw [List.length_map]; exact hl'), ?_⟩
    have fin : ∀ v : Int, V.int v = V.int (match a.fix.getD i none with
      | none => 0
      | some y => y + 1) → 1 ≤ sizeLine ∧ ∀ p, (upd H t (.lst ((a.fix.map onv).set i (.int x)))) p = none → Q (.ref p) (upd (upd H t (.lst ((a.fix.map onv).set i (.int x)))) p (.lst [.int v])) := by
      intro v hv
      refine ⟨by decide, fun l hl => ?_⟩
      obtain ⟨nl, hl⟩ := upd_free hl
      refine k l _ hl ?_ (fun b o e b1 b2 b3 => ?_) ?_
      · rw [e]
        refine ⟨?_, ?_, ?_, R.ne⟩
        · rw [upd_ne (ne_of_none h1 hl), upd_ne R.rt]
          exact h1
        · rw [upd_ne (ne_of_none R.gr hl), upd_ne R.ne]
          exact R.gr
        · rw [upd_ne nl.symm, upd_same]
          show _ = some (HO.lst ((a.fix.set i (some x)).map onv))
          rw [List.map_set]
          rfl
      · rw [upd_ne (ne_of_none e hl), upd_ne b3]
        exact e
      · unfold ansOf
        rw [e, upd_same, hv]
        rfl
    exact fin _ (by cases a.fix.getD i none <;> rfl)
end
end LL

set_option Elab.async false
set_option linter.all false
set_option maxRecDepth 100000
set_option maxHeartbeats 4000000
open L2 in
local macro_rules | `(tactic| simp_arith [$ts,*]) => `(tactic| simp (config := { decide := false, zeta := true }) only [tSeq, tNext, tRet, tIfS, tAsg, tDrop, gName, tVar, tC, tOp, tUn, tChain, tTest, tB, tAnd, tOr, tNot, tAndV, tOrV, tNotV, tIf, rI0, rI, rU, rEq, rNe, tCB, tCons, tFor_eq, tLc_eq, iRng1, iRng2, iRng3, iList, iZip, iEnum, tFld, rIxL, rIxT, rSlL, tSl, tPart, tNoPart, tLst, gTup, gCons, gNil, gSub, rSetL, sFld, tMeth, tMake, tBM, tBM0, rAppend, rExtend, rInsert0, rCat, rAll, rAny, rSum, rMax, rMin, tAug, ipI, tNil, tCall, scal, start, List.map_cons, List.map_nil, List.length_cons, List.length_nil, List.replicate_succ, List.replicate_zero, Nat.reduceSub, Nat.reduceAdd, Nat.add_sub_cancel, Nat.sub_self, List.set, List.append_nil, List.cons_append, List.nil_append, List.append_eq,
  List.getElem?_cons_zero, List.getElem?_cons_succ, Option.some.injEq, V.int.injEq, V.bl.injEq, V.ref.injEq, List.cons.injEq, and_true, true_and, exists_eq_left, exists_eq_left', exists_and_left, exists_eq, exists_const, decide_eq_true_eq, Bool.not_eq_true', decide_eq_false_iff_not, reduceCtorEq, and_assoc, cxK, if_true, if_false, exists_eq', ite_not, $ts,*])
namespace LL
open PySem PySem.Spec PyProof.Rows L2
open Kv363 (Abs okFix Best Call)
section
variable {P : Program} {w : World} {K : PySem.W.Frag} {mg : Str → Option Value} {base : Heap} {A : Ad}
theorem ok_Road_free (T : Txt K mg A) : FnOk P w K mg base CX0 2 A.f_Road_free A.d_Road_free ["self", "station"] (spCh1 A .free) := by
  refine T.F_Road_free.ok sc_Road_free (fun vs H Q E h => ?_) (fun cdv B outer s H vs Q E hr h => ?_)
  · obtain ⟨_, _, _, _, _, _, rfl, _⟩ := h
    rfl
  · obtain ⟨r, dx, g, t, a, i, rfl, R, W, k⟩ := h
    have h1 := R.ins
    have n1 : (rf g t a.grade a.cutp a.fillp).lookup ("has_station" : Str) = none := rf_no (by decide +kernel)
    have n2 : (rf g t a.grade a.cutp a.fillp).lookup ("is_end" : Str) = none := rf_no (by decide +kernel)
    refine ⟨_, (pss_cons (ps_if (pt_not (pt_val (pe_meth (pv 0) T.cl_Road T.x_Road_has_station (ok_Road_has_station T) (hr.mono (by decide)) T.b_Road_has_station .nil pass0 (pa_cons (pv 1) pa_nil))))
      (pss_one (ps_ret (pe_lst (pa_cons (pe_gi T.c_NO_STATION rfl) pa_nil))))
      pss_nil)
      (pss_cons (ps_if (pt_val (pe_meth (pv 0) T.cl_Road T.x_Road_is_end (ok_Road_is_end T) (hr.mono (by decide)) T.b_Road_is_end .nil pass0 (pa_cons (pv 1) pa_nil)))
      (pss_one (ps_ret (pe_lst (pa_cons (pe_gi T.c_AN_END rfl) pa_nil))))
      pss_nil)
      (pss_cons (ps_set (i := 2) sc_Road_free.nd rfl (by first | exact Or.inl rfl | exact Or.inr rfl) (pe_ix ix_list (pe_fld (pv 0) rfl) (pv 1) (fun _ _ => rfl)))
      (pss_cons (ps_if (pt_cmpR op_isN (pv 2) pe_non (nomark _))
      (pss_one (ps_ret (pe_lst (pa_cons (pe_gi T.c_NONE_TOLD rfl) pa_nil))))
      pss_nil)
      (pss_cons (ps_asg pe_non (pg_sub (pe_fld (pv 0) rfl) (pv 1) set_list))
      (pss_one (ps_ret (pe_lst (pa_cons (pv 2) pa_nil))))))))), ?_⟩
    simp_arith [h1, HO.ins.injEq, n1, n2, spTest1]
    refine ⟨dx, g, t, a, i, rfl, R, W.two, ?_⟩
    by_cases hi : a.n ≤ i
    · rw [if_neg (by omega)]
      exact refused (c := .free i) (n := -2) R (by exact if_pos hi) k
    rw [if_pos (by omega)]
    refine ⟨dx, g, t, a, i, rfl, R, W.two, ?_⟩
    by_cases he : a.end_ i = true
    · rw [if_pos he]
      exact refused (c := .free i) (n := -16) R (by exact (if_neg hi).trans (if_pos he)) k
    rw [if_neg he]
    have hi' : i < a.ground.length := Nat.lt_of_not_le hi
    have hl' : i < a.fix.length := by rw [W.len]; exact hi'
    have hT := getD_onv (cs := a.fix) (k := i) hl'
    have e : a.does (.free i) = (match a.fix.getD i none with
      | none => (a, Kv363.say (-6))
      | some y => (a.setF i none, Kv363.say (y : Nat))) := (if_neg hi).trans (if_neg he)
    simp_arith [h1, HO.ins.injEq, T.cl_Road, T.a_Road_told, rf_told]
    refine ⟨_, SqL.of R.tl, _, atI_nat hT, ?_⟩
    cases q : a.fix.getD i none with
    | none =>
      rw [q] at e
      simp_arith [onv_none]
      exact refused (c := .free i) (n := -6) R e k
    | some y =>
      rw [q] at e
      simp_arith [onv_some]
      refine ⟨_, R.tl, i, ixN_nat (by rw [List.length_map]; exact hl'), by decide, fun l hl => ?_⟩
      obtain ⟨nl, hl⟩ := upd_free hl
      refine k l _ hl ?_ (fun b o e b1 b2 b3 => ?_) ?_
      · rw [e]
        refine ⟨?_, ?_, ?_, R.ne⟩
        · rw [upd_ne (ne_of_none h1 hl), upd_ne R.rt]
          exact h1
        · rw [upd_ne (ne_of_none R.gr hl), upd_ne R.ne]
          exact R.gr
        · rw [upd_ne nl.symm, upd_same]
          show _ = some (HO.lst ((a.fix.set i none).map onv))
          rw [List.map_set]
          rfl
      · rw [upd_ne (ne_of_none e hl), upd_ne b3]
        exact e
      · unfold ansOf
        rw [e, upd_same]
        rfl
theorem ok_Road_tell_ends (T : Txt K mg A) : FnOk P w K mg base CX0 2 A.f_Road_tell_ends A.d_Road_tell_ends ["self", "first", "last"] (spCh2 A .ends) := by
  refine T.F_Road_tell_ends.ok sc_Road_tell_ends (fun vs H Q E h => ?_) (fun cdv B outer s H vs Q E hr h => ?_)
  · obtain ⟨_, _, _, _, _, _, _, rfl, _⟩ := h
    rfl
  · obtain ⟨r, dx, g, t, a, x, y, rfl, R, W, k⟩ := h
    have h1 := R.ins
    have h2 := W.two
    have hl' : 0 < a.fix.length := by rw [W.len]; omega
    obtain ⟨f0, e0⟩ := Option.isSome_iff_exists.mp W.first
    obtain ⟨f1, e1⟩ := Option.isSome_iff_exists.mp W.last
    have hT0 := getD_onv (cs := a.fix) (k := 0) hl'
    have hT1 := getD_onv (cs := a.fix) (k := a.ground.length - 1) (by rw [W.len]; omega)
    rw [e0, onv_some] at hT0
    rw [e1, onv_some] at hT1
    refine ⟨_, (pss_cons (ps_if (PW.pt (pw_or (pt_not (pt_val (pe_call (ok_is_height T) (hr.mono (by decide)) rfl T.m_is_height T.F_is_height.kp T.b_is_height .nil pass0 (pa_cons (pv 1) pa_nil)))) (pw_or1 (pt_not (pt_val (pe_call (ok_is_height T) (hr.mono (by decide)) rfl T.m_is_height T.F_is_height.kp T.b_is_height .nil pass0 (pa_cons (pv 2) pa_nil)))))))
      (pss_one (ps_ret (pe_lst (pa_cons (pe_gi T.c_OUT_OF_RANGE rfl) pa_nil))))
      pss_nil)
      (pss_cons (ps_set (i := 3) sc_Road_tell_ends.nd rfl (by first | exact Or.inl rfl | exact Or.inr rfl) (pe_lst (pa_cons (pe_ix ix_list (pe_fld (pv 0) rfl) pe_int (fun _ _ => rfl)) (pa_cons (pe_ix ix_list (pe_fld (pv 0) rfl) (pe_un un_neg pe_int) (fun _ _ => rfl)) pa_nil))))
      (pss_cons (ps_asg (pv 1) (pg_sub (pe_fld (pv 0) rfl) pe_int set_list))
      (pss_cons (ps_asg (pv 2) (pg_sub (pe_fld (pv 0) rfl) (pe_un un_neg pe_int) set_list))
      (pss_one (ps_ret (pv 3))))))), ?_⟩
    simp_arith [spH, int_heights]
    by_cases hx : 40 < x ∨ 40 < y
    · have fin := refused (c := .ends x y) (n := -22) R (by exact if_pos hx) k
      by_cases hx0 : x ≤ 40
      · rw [if_pos hx0, if_neg (by omega)]
        exact fin
      · rw [if_neg hx0]
        exact fin
    · rw [if_pos (by omega), if_pos (by omega)]
      have e : a.does (.ends x y) = ((a.setF 0 (some x)).setF (a.n - 1) (some y), ⟨((a.fix.getD 0 none).getD 0 : Nat), [(a.fix.getD (a.n - 1) none).getD 0]⟩) := if_neg hx
      simp_arith [h1, HO.ins.injEq, T.cl_Road, T.a_Road_told, rf_told]
      refine ⟨_, SqL.of R.tl, _, atI_nat hT0, _, SqL.of R.tl, _, atI_m1 (by rw [List.length_map]; exact hl') (by rw [List.length_map, W.len]; exact hT1), by decide, fun l hl => ?_⟩
      have nrl : r ≠ l := ne_of_none h1 hl
      have ngl : g ≠ l := ne_of_none R.gr hl
      have ntl : t ≠ l := ne_of_none R.tl hl
      simp_arith [upd_at, nrl, ntl, R.rt, h1, HO.ins.injEq, T.cl_Road, T.a_Road_told, rf_told]
      refine ⟨_, R.tl, 0, ixN_nat (by rw [List.length_map]; exact hl'), ?_⟩
      refine ⟨_, rfl, _, ixN_m1 (by rw [List.length_set, List.length_map]; exact hl'), ?_⟩
      refine k l _ hl ?_ (fun b o e b1 b2 b3 => ?_) ?_
      · rw [e]
        refine ⟨?_, ?_, ?_, R.ne⟩
        · rw [upd_ne R.rt, upd_ne R.rt, upd_ne nrl]
          exact h1
        · rw [upd_ne R.ne, upd_ne R.ne, upd_ne ngl]
          exact R.gr
        · rw [upd_same, List.length_set, List.length_map, W.len]
          show _ = some (HO.lst (((a.fix.set 0 (some x)).set (a.ground.length - 1) (some y)).map onv))
          rw [List.map_set, List.map_set]
          rfl
      · rw [upd_ne b3, upd_ne b3, upd_ne (ne_of_none e hl)]
        exact e
      · unfold ansOf
        rw [e, upd_ne ntl.symm, upd_ne ntl.symm, upd_same, e0]
        show _ = some (HO.lst [V.int (f0 : Nat), V.int (((a.fix.getD (a.ground.length - 1) none).getD 0 : Nat) : Int)])
        rw [e1]
        rfl
theorem ok_Road_begun (T : Txt K mg A) : FnOk P w K mg base CX0 1 A.f_Road_begun A.d_Road_begun ["self"] (fun vs H Q _ => ∃ (r dx g t : Addr) (a : Abs), vs = [.ref r] ∧ RoadAt A.C_Road H r dx g t a ∧ Q (.bl (decide (0 < a.ground.length))) H) := by
  refine T.F_Road_begun.ok sc_Road_begun (fun vs H Q E h => ?_) (fun cdv B outer s H vs Q E hr h => ?_)
  · obtain ⟨_, _, _, _, _, rfl, _⟩ := h
    rfl
  · obtain ⟨r, dx, g, t, a, rfl, R, k⟩ := h
    have h1 := R.ins
    refine ⟨_, (pss_one (ps_ret (pe_cmpR op_gt (pe_callB (call_len_seq) (by rfl) T.n_len bo_len (pa_cons (pe_fld (pv 0) rfl) pa_nil)) pe_int (nomark _)))), ?_⟩
    simp_arith [h1, HO.ins.injEq, T.cl_Road, T.a_Road_ground, rf_ground]
    refine ⟨_, .inl (SqL.of R.gr), ?_⟩
    have e : decide ((0 : Int) < ((a.ground.map nv).length : Nat)) = decide (0 < a.ground.length) := by
      rw [List.length_map]
      exact decide_eq_decide.mpr (by omega)
    rw [e]
    exact k
/-- the road not begun -/
def blank : Abs := ⟨[], [], 1, 1, 1⟩
def spInit (A : Ad) : Sp := fun vs H Q _ => ∃ (r dx : Addr), vs = [.ref r] ∧ H r = some (.ins A.C_Road dx []) ∧ ∀ (g t : Addr) H', H g = none → H t = none → RoadAt A.C_Road H' r dx g t blank → (∀ b o, H b = some o → b ≠ r → H' b = some o) → Q .non H'
theorem put1 {g : Addr} : putF "ground" (V.ref g) [] = [(("ground" : Str), V.ref g)] := rfl
theorem put2 {g t : Addr} : putF "told" (V.ref t) [(("ground" : Str), V.ref g)] = [(("ground" : Str), V.ref g), ("told", V.ref t)] := rfl
theorem put3 {g t : Addr} : putF "grade" (V.int 1) [(("ground" : Str), V.ref g), ("told", V.ref t)] = [(("ground" : Str), V.ref g), ("told", V.ref t), ("grade", V.int 1)] := rfl
theorem put4 {g t : Addr} : putF "cut_price" (V.int 1) [(("ground" : Str), V.ref g), ("told", V.ref t), ("grade", V.int 1)] = [(("ground" : Str), V.ref g), ("told", V.ref t), ("grade", V.int 1), ("cut_price", V.int 1)] := rfl
theorem put5 {g t : Addr} : putF "fill_price" (V.int 1) [(("ground" : Str), V.ref g), ("told", V.ref t), ("grade", V.int 1), ("cut_price", V.int 1)] = rf g t 1 1 1 := rfl
theorem ok_Road_init (T : Txt K mg A) : FnOk P w K mg base CX0 1 A.f_Road_init A.d_Road_init ["self"] (spInit A) := by
  refine T.F_Road_init.ok sc_Road_init (fun vs H Q E h => ?_) (fun cdv B outer s H vs Q E hr h => ?_)
  · obtain ⟨_, _, rfl, _⟩ := h
    rfl
  · obtain ⟨r, dx, rfl, h1, k⟩ := h
    refine ⟨_, (pss_cons (ps_fld (pv 0) (pe_lst pa_nil) rfl)
      (pss_cons (ps_fld (pv 0) (pe_lst pa_nil) rfl)
      (pss_cons (ps_fld (pv 0) pe_int rfl)
      (pss_cons (ps_fld (pv 0) pe_int rfl)
      (pss_one (ps_fld (pv 0) pe_int rfl)))))), ?_⟩
    simp_arith []
    refine ⟨by decide, fun g hg => ?_⟩
    have nrg : r ≠ g := ne_of_none h1 hg
    simp_arith [upd_at, nrg, h1, HO.ins.injEq, T.cl_Road, T.a_Road_ground, put1]
    refine ⟨by decide, by decide, fun t ht => ?_⟩
    have ntr : t ≠ r := fun z => by rw [if_pos z] at ht; cases ht
    rw [if_neg ntr] at ht
    have ntg : t ≠ g := fun z => by rw [if_pos z] at ht; cases ht
    rw [if_neg ntg] at ht
    simp_arith [ntr.symm, HO.ins.injEq, T.cl_Road, T.a_Road_told, T.a_Road_grade, T.a_Road_cut_price, T.a_Road_fill_price, put2, put3, put4, put5]
    refine ⟨by decide, by decide, by decide, by decide, ?_⟩
    refine k g t _ hg ht ?_ (fun b o e b1 => ?_)
    · refine ⟨?_, ?_, ?_, ntg.symm⟩
      · rw [upd_same]
        rfl
      · rw [upd_ne nrg.symm, upd_ne nrg.symm, upd_ne nrg.symm, upd_ne nrg.symm, upd_ne ntg.symm, upd_ne nrg.symm, upd_same]
        rfl
      · rw [upd_ne ntr, upd_ne ntr, upd_ne ntr, upd_ne ntr, upd_same]
        rfl
    · rw [upd_ne b1, upd_ne b1, upd_ne b1, upd_ne b1, upd_ne (ne_of_none e ht), upd_ne b1, upd_ne (ne_of_none e hg)]
      exact e
end
end LL

set_option Elab.async false
set_option linter.all false
set_option maxRecDepth 100000
set_option maxHeartbeats 4000000
open L2 in
local macro_rules | `(tactic| simp_arith [$ts,*]) => `(tactic| simp (config := { decide := false, zeta := true }) only [tSeq, tNext, tRet, tIfS, tAsg, tDrop, gName, tVar, tC, tOp, tUn, tChain, tTest, tB, tAnd, tOr, tNot, tAndV, tOrV, tNotV, tIf, rI0, rI, rU, rEq, rNe, tCB, tCons, tFor_eq, tLc_eq, iRng1, iRng2, iRng3, iList, iZip, iEnum, tFld, rIxL, rIxT, rSlL, tSl, tPart, tNoPart, tLst, gTup, gCons, gNil, gSub, rSetL, sFld, tMeth, tMake, tBM, tBM0, rAppend, rExtend, rInsert0, rCat, rAll, rAny, rSum, rMax, rMin, tAug, ipI, tNil, tCall, scal, start, List.map_cons, List.map_nil, List.length_cons, List.length_nil, List.replicate_succ, List.replicate_zero, Nat.reduceSub, Nat.reduceAdd, Nat.add_sub_cancel, Nat.sub_self, List.set, List.append_nil, List.cons_append, List.nil_append, List.append_eq,
  List.getElem?_cons_zero, List.getElem?_cons_succ, Option.some.injEq, V.int.injEq, V.bl.injEq, V.ref.injEq, List.cons.injEq, and_true, true_and, exists_eq_left, exists_eq_left', exists_and_left, exists_eq, exists_const, decide_eq_true_eq, Bool.not_eq_true', decide_eq_false_iff_not, reduceCtorEq, and_assoc, cxK, if_true, if_false, exists_eq', ite_not, $ts,*])
namespace LL
open PySem PySem.Spec PyProof.Rows L2
open Kv363 (Abs okFix Best Call)
theorem begun_fix {ns : List Nat} (h : 2 ≤ ns.length) : (Kv363.begun ns).fix = ((ns.map fun _ => (none : Option Nat)).set 0 (some (ns.getD 0 0))).set (ns.length - 1) (some (ns.getD (ns.length - 1) 0)) := by
  apply List.ext_getElem?
  intro i
  show (ns.zipIdx.map fun x => if x.2 = 0 ∨ x.2 + 1 = ns.length then some x.1 else none)[i]? = _
  rw [List.getElem?_map, List.getElem?_zipIdx, List.getElem?_set, List.getElem?_set, List.length_set, List.length_map, List.getElem?_map]
  by_cases hi : i < ns.length
  · rw [List.getElem?_eq_getElem hi, List.getD_eq_getElem?_getD, List.getD_eq_getElem?_getD]
    by_cases h1 : ns.length - 1 = i
    · subst h1
      rw [if_pos rfl, if_pos hi, List.getElem?_eq_getElem hi]
      simp
      omega
    · rw [if_neg h1]
      by_cases h0 : 0 = i
      · subst h0
        rw [if_pos rfl, if_pos hi, List.getElem?_eq_getElem hi]
        simp
      · rw [if_neg h0]
        simp
        omega
  · rw [List.getElem?_eq_none (by omega), if_neg (by omega), if_neg (by omega)]
    rfl
theorem if_free {q r : Addr} {o : HO} {X : Option HO} (h : (if q = r then some o else X) = none) : q ≠ r ∧ X = none := by
  by_cases z : q = r
  · rw [if_pos z] at h; cases h
  · rw [if_neg z] at h; exact ⟨z, h⟩
theorem rf_pgrade1 {g t : Addr} {k c f : Nat} : putF "grade" (V.int 1) (rf g t k c f) = rf g t 1 c f := rfl
theorem rf_pcut1 {g t : Addr} {k c f : Nat} : putF "cut_price" (V.int 1) (rf g t k c f) = rf g t k 1 f := rfl
theorem rf_pfill1 {g t : Addr} {k c f : Nat} : putF "fill_price" (V.int 1) (rf g t k c f) = rf g t k c 1 := rfl
def spBegin (K : PySem.W.Frag) (A : Ad) : Sp := fun vs H Q _ => ∃ (r dx g t hs : Addr) (a : Abs) (ns : List Nat), vs = [.ref r, .ref hs] ∧ RoadAt A.C_Road H r dx g t a ∧ H hs = some (.lst (ns.map nv)) ∧
  (Kv363.okGround ns = false → ∀ l H', H l = none → Same H H' → H' l = some (.lst [.int (-22)]) → Q (.ref l) H') ∧
  (Kv363.okGround ns = true → ∀ l g' t' H', H l = none → H g' = none → H t' = none → RoadAt A.C_Road H' r dx g' t' (Kv363.begun ns) → (∀ b o, H b = some o → b ≠ r → H' b = some o) → H' l = some (.lst [.int (ns.length : Nat)]) → Q (.ref l) H')
section
variable {P : Program} {w : World} {K : PySem.W.Frag} {mg : Str → Option Value} {base : Heap} {A : Ad}
theorem ok_Road_begin (T : Txt K mg A) : FnOk P w K mg base CX0 3 A.f_Road_begin A.d_Road_begin ["self", "heights"] (spBegin K A) := by
  refine T.F_Road_begin.ok sc_Road_begin (fun vs H Q E h => ?_) (fun cdv B outer s H vs Q E hr h => ?_)
  · obtain ⟨_, _, _, _, _, _, _, rfl, _⟩ := h
    rfl
  · obtain ⟨r, dx, g, t, hs, a, ns, rfl, R, hS, k1, k2⟩ := h
    have h1 := R.ins
    refine ⟨_, (pss_cons (ps_if (PW.pt (pw_or (pt_not (pt_chain op_le op_le (pe_gi T.c_FEWEST_STATIONS rfl) (pe_callB (call_len_seq) (by rfl) T.n_len bo_len (pa_cons (pv 1) pa_nil)) (pe_gi T.c_MOST_STATIONS rfl))) (pw_or1 (pt_not (pt_val (pe_call (ok_are_heights T) (hr.mono (by decide)) rfl T.m_are_heights T.F_are_heights.kp T.b_are_heights .nil pass0 (pa_cons (pv 1) pa_nil)))))))
      (pss_one (ps_ret (pe_lst (pa_cons (pe_gi T.c_OUT_OF_RANGE rfl) pa_nil))))
      pss_nil)
      (pss_cons (ps_fld (pv 0) (pe_callTy (call_list_of) (by rfl) T.n_list bo_list (pa_cons (pv 1) pa_nil)) rfl)
      (pss_cons (ps_fld (pv 0) (pe_lc (own := [("height", 2)]) rfl sc_Road_begin.nd (pi_list (pv 1)) (blkOk_by (N := ["self", "heights", "height"]) (sc := defScope s_Road_begin) (by decide +kernel)) (fun _ _ _ _ _ => (pg_name (i := 2) sc_Road_begin.nd rfl (by first | exact Or.inl rfl | exact Or.inr rfl))) (fun _ _ _ _ _ => pts_nil) (fun _ _ _ _ _ => pe_non)) rfl)
      (pss_cons (ps_asg (pe_ix ix_list (pv 1) pe_int (fun _ _ => rfl)) (pg_sub (pe_fld (pv 0) rfl) pe_int set_list))
      (pss_cons (ps_asg (pe_ix ix_list (pv 1) (pe_un un_neg pe_int) (fun _ _ => rfl)) (pg_sub (pe_fld (pv 0) rfl) (pe_un un_neg pe_int) set_list))
      (pss_cons (ps_fld (pv 0) pe_int rfl)
      (pss_cons (ps_fld (pv 0) pe_int rfl)
      (pss_cons (ps_fld (pv 0) pe_int rfl)
      (pss_one (ps_ret (pe_lst (pa_cons (pe_callB (call_len_seq) (by rfl) T.n_len bo_len (pa_cons (pv 1) pa_nil)) pa_nil)))))))))))), ?_⟩
    simp_arith [spAre]
    refine ⟨_, .inl (SqL.of hS), ?_⟩
    have refuse : Kv363.okGround ns = false → ∀ H1, Same H H1 → 1 ≤ sizeLine ∧ ∀ (p : Addr), H1 p = none → Q (V.ref p) (upd H1 p (HO.lst [V.int (-22)])) := fun hb H1 s1 =>
      ⟨by decide, fun l hl => k1 hb l _ (s1.free hl) (s1.upd (s1.free hl)) upd_same⟩
    rw [List.length_map]
    rcases Nat.lt_or_ge ns.length 2 with c2 | c2
    · rw [if_neg (by omega)]
      exact refuse (by unfold Kv363.okGround; rw [decide_eq_false (by omega)]; rfl) H (Same.refl H)
    rw [if_pos (by omega)]
    rcases Nat.lt_or_ge 12 ns.length with c12 | c12
    · rw [if_neg (by omega)]
      exact refuse (by unfold Kv363.okGround; rw [decide_eq_false (show ¬ ns.length ≤ 12 by omega), Bool.and_false]; rfl) H (Same.refl H)
    rw [if_pos (by omega)]
    refine ⟨ns, SqL.of hS, show ns.length ≤ 1000 by omega, fun H1 s1 => ?_⟩
    cases ca : (ns.all fun n => decide (n ≤ 40)) with
    | false =>
      rw [if_pos rfl]
      refine refuse ?_ H1 s1
      unfold Kv363.okGround
      have : (ns.all fun x => decide (x ≤ Kv363.TOP)) = false := ca
      rw [this, Bool.and_false]
    | true =>
      rw [if_neg (by simp)]
      have hok : Kv363.okGround ns = true := by
        unfold Kv363.okGround
        rw [decide_eq_true c2, decide_eq_true c12]
        exact ca
      have k := k2 hok
      have hS1 := s1 _ _ hS
      have hr1 := s1 _ _ h1
      refine ⟨_, .inl (SqL.of hS1), fun l hl => ?_⟩
      have nrl : r ≠ l := ne_of_none hr1 hl
      have nhl : hs ≠ l := ne_of_none hS1 hl
      have nhr : hs ≠ r := ne_of hS h1 (by intro z; cases z)
      simp_arith [upd_at, nrl, hr1, HO.ins.injEq, T.cl_Road, T.a_Road_ground, rf_pground, rf_len]
      generalize hH2 : upd (upd H1 l (.lst (ns.map nv))) r (.ins A.C_Road dx (rf l t a.grade a.cutp a.fillp)) = H2
      have b1 : H2 r = some (.ins A.C_Road dx (rf l t a.grade a.cutp a.fillp)) := by rw [← hH2, upd_same]
      have b2 : H2 l = some (.lst (ns.map nv)) := by rw [← hH2, upd_ne nrl.symm, upd_same]
      have b3 : H2 hs = some (.lst (ns.map nv)) := by rw [← hH2, upd_ne nhr, upd_ne nhl]; exact hS1
      have b4 : ∀ b o, H b = some o → b ≠ r → H2 b = some o := fun b o e z => by
        rw [← hH2, upd_ne z, upd_ne (ne_of_none (s1 _ _ e) hl)]
        exact s1 _ _ e
      refine ⟨by decide, ⟨_, SqL.of b3⟩, ?_⟩
      refine lcK_list (ns.map fun _ => V.non) (SqL.of b3) (by simp) (by rw [List.length_map]; exact Nat.le_of_lt (small1000 (by omega))) ?_ ?_
      · intro i x y H' R' hx hy s3 kk
        obtain ⟨n, hn, rfl⟩ := map_at hx
        obtain ⟨n', hn', rfl⟩ := map_at hy
        simp_arith [wipe]
        exact kk _ (Same.refl _)
      · intro D H3 hD s3 e3
        have d1 := s3 _ _ b1
        have d2 := s3 _ _ b2
        have d3 := s3 _ _ b3
        have nrD : r ≠ D := ne_of_none b1 hD
        have nlD : l ≠ D := ne_of_none b2 hD
        have nhD : hs ≠ D := ne_of_none b3 hD
        simp_arith [d1, HO.ins.injEq, T.cl_Road, T.a_Road_told, rf_ptold, rf_len]
        have hN0 := getD_nv (cs := ns) (k := 0) (by omega)
        have hN1 := getD_nv (cs := ns) (k := ns.length - 1) (by omega)
        refine ⟨by decide, _, SqL.of (by rw [upd_ne nhr]; exact d3), _, atI_nat hN0, ?_⟩
        simp_arith [rf_told, nrD, nrD.symm, e3, HO.lst.injEq, List.length_map]
        refine ⟨_, ixN_nat (i := 0) (by omega), _, SqL.of (by rw [upd_ne nhD, upd_ne nhr]; exact d3), _, atI_m1 (by rw [List.length_map]; omega) (by rw [List.length_map]; exact hN1), ?_⟩
        simp_arith [upd_at, rf_told, nrD, nrD.symm, e3, HO.lst.injEq, HO.ins.injEq, T.cl_Road, T.a_Road_told, List.length_map, List.length_set]
        refine ⟨_, ixN_m1 (by omega), ?_⟩
        simp_arith [upd_at, rf_told, nrD, nrD.symm, e3, HO.lst.injEq, HO.ins.injEq, T.cl_Road, T.a_Road_grade, T.a_Road_cut_price, T.a_Road_fill_price, List.length_map, List.length_set, rf_pgrade1, rf_pcut1, rf_pfill1, rf_len]
        refine ⟨by decide, by decide, by decide, _, .inl (SqL.of (by rw [upd_ne nhr, upd_ne nhr, upd_ne nhr, upd_ne nhD, upd_ne nhD, upd_ne nhr]; exact d3)), by decide, fun q hq => ?_⟩
        obtain ⟨nqr, hq⟩ := if_free hq
        obtain ⟨_, hq⟩ := if_free hq
        obtain ⟨_, hq⟩ := if_free hq
        obtain ⟨nqD, hq⟩ := if_free hq
        obtain ⟨_, hq⟩ := if_free hq
        obtain ⟨_, hq⟩ := if_free hq
        have nql : q ≠ l := fun z => by rw [z, d2] at hq; cases hq
        have free2 : ∀ z, H3 z = none → z ≠ r → H z = none := fun z hz zr => by
          cases e : H z with
          | none => rfl
          | some o => rw [s3 _ _ (b4 z o e zr)] at hz; cases hz
        have hDn : H D = none := by
          cases e : H D with
          | none => rfl
          | some o => rw [b4 D o e nrD.symm] at hD; cases hD
        refine k q l D _ (free2 q hq nqr) (s1.free hl) hDn ?_ (fun b o e z => ?_) ?_
        · refine ⟨?_, ?_, ?_, nlD⟩
          · rw [upd_ne nqr.symm, upd_same]
            rfl
          · rw [upd_ne nql.symm, upd_ne nrl.symm, upd_ne nrl.symm, upd_ne nrl.symm, upd_ne nlD, upd_ne nlD, upd_ne nrl.symm, d2]
            rfl
          · rw [upd_ne nqD.symm, upd_ne nrD.symm, upd_ne nrD.symm, upd_ne nrD.symm, upd_same, begun_fix c2, List.map_set, List.map_set, List.map_map]
            rfl
        · have hb3 := s3 _ _ (b4 b o e z)
          rw [upd_ne (ne_of_none hb3 hq), upd_ne z, upd_ne z, upd_ne z, upd_ne (ne_of_none e hDn), upd_ne (ne_of_none e hDn), upd_ne z]
          exact hb3
        · rw [upd_same, List.length_map]
end
end LL

set_option Elab.async false
set_option linter.all false
set_option maxRecDepth 100000
set_option maxHeartbeats 4000000
open L2 in
local macro_rules | `(tactic| simp_arith [$ts,*]) => `(tactic| simp (config := { decide := false, zeta := true }) only [tSeq, tNext, tRet, tIfS, tAsg, tDrop, gName, tVar, tC, tOp, tUn, tChain, tTest, tB, tAnd, tOr, tNot, tAndV, tOrV, tNotV, tIf, rI0, rI, rU, rEq, rNe, tCB, tCons, tFor_eq, tLc_eq, iRng1, iRng2, iRng3, iList, iZip, iEnum, tFld, rIxL, rIxT, rSlL, tSl, tPart, tNoPart, tLst, gTup, gCons, gNil, gSub, rSetL, sFld, tMeth, tMake, tBM, tBM0, rAppend, rExtend, rInsert0, rCat, rAll, rAny, rSum, rMax, rMin, tAug, ipI, tNil, tCall, scal, start, List.map_cons, List.map_nil, List.length_cons, List.length_nil, List.replicate_succ, List.replicate_zero, Nat.reduceSub, Nat.reduceAdd, Nat.add_sub_cancel, Nat.sub_self, List.set, List.append_nil, List.cons_append, List.nil_append, List.append_eq,
  List.getElem?_cons_zero, List.getElem?_cons_succ, Option.some.injEq, V.int.injEq, V.bl.injEq, V.ref.injEq, List.cons.injEq, and_true, true_and, exists_eq_left, exists_eq_left', exists_and_left, exists_eq, exists_const, decide_eq_true_eq, Bool.not_eq_true', decide_eq_false_iff_not, reduceCtorEq, and_assoc, cxK, if_true, if_false, exists_eq', ite_not, $ts,*])
namespace LL
open PySem PySem.Spec PyProof.Rows L2
open Kv363 (Abs okFix Best Call)
def isRow (p : Nat) : Bool := p == 0 || p == 11
/-- how many numbers a call without a row takes -/
def howMany (p : Nat) : Nat := ([0, 2, 1, 2, 2, 2, 1, 0, 0, 0, 0, 0, 0, 0, 1, 1, 2, 1, 0, 0, 1, 0, 0] : List Nat).getD p 0
def spTakes : Sp := fun vs H Q _ => ∃ p : Nat, vs = [.int p] ∧ Q (.bl (isRow p)) H
def spFirst (K : PySem.W.Frag) : Sp := fun vs H Q _ => ∃ (c : Addr) (cs : List Nat) (i p : Nat), vs = [.ref c, .int i] ∧ SqL K H c (cs.map nv) ∧ cs[i]? = some p ∧ Q (.int ((if isRow p then i + 2 else i + 1 : Nat) : Int)) H
def spEnd (K : PySem.W.Frag) : Sp := fun vs H Q _ => ∃ (c : Addr) (cs : List Nat) (i p e : Nat), vs = [.ref c, .int i] ∧ SqL K H c (cs.map nv) ∧ cs[i]? = some p ∧ (if isRow p then ∃ m, cs[i + 1]? = some m ∧ e = i + 2 + m else p < 23 ∧ e = i + 1 + howMany p) ∧ Q (.int (e : Nat)) H
theorem how_at {p : Nat} (h : p < 23) : (([0, 2, 1, 2, 2, 2, 1, 0, 0, 0, 0, 0, 0, 0, 1, 1, 2, 1, 0, 0, 1, 0, 0] : List Int).map V.int)[p]? = some (V.int (howMany p : Nat)) := by
  unfold howMany
  match p, h with
  | 0, _ => rfl
  | 1, _ => rfl
  | 2, _ => rfl
  | 3, _ => rfl
  | 4, _ => rfl
  | 5, _ => rfl
  | 6, _ => rfl
  | 7, _ => rfl
  | 8, _ => rfl
  | 9, _ => rfl
  | 10, _ => rfl
  | 11, _ => rfl
  | 12, _ => rfl
  | 13, _ => rfl
  | 14, _ => rfl
  | 15, _ => rfl
  | 16, _ => rfl
  | 17, _ => rfl
  | 18, _ => rfl
  | 19, _ => rfl
  | 20, _ => rfl
  | 21, _ => rfl
  | 22, _ => rfl
  | n + 23, h => exact absurd h (by omega)
theorem nv_at {cs : List Nat} {i p : Nat} (h : cs[i]? = some p) : (cs.map nv)[i]? = some (V.int p) := by
  rw [List.getElem?_map, h]
  rfl
section
variable {P : Program} {w : World} {K : PySem.W.Frag} {mg : Str → Option Value} {base : Heap} {A : Ad}
theorem ok_takes_row (T : Txt K mg A) : FnOk P w K mg base CX0 1 A.f_takes_row A.d_takes_row ["call"] spTakes := by
  refine T.F_takes_row.ok sc_takes_row (fun vs H Q E h => ?_) (fun cdv B outer s H vs Q E hr h => ?_)
  · obtain ⟨_, rfl, _⟩ := h
    rfl
  · obtain ⟨p, rfl, k⟩ := h
    refine ⟨_, (pss_one (ps_ret (pe_or (pe_cmpR op_eq (pv 0) (pe_gi T.c_BEGIN rfl) (nomark _)) (pe_one (pe_cmpR op_eq (pv 0) (pe_gi T.c_TRIED rfl) (nomark _)))))), ?_⟩
    simp_arith []
    by_cases h0 : p = 0
    · rw [if_pos (by omega)]
      have e : isRow p = true := by rw [h0]; rfl
      rw [← e]
      exact k
    · rw [if_neg (by omega)]
      have e : decide ((p : Int) = 11) = isRow p := by
        unfold isRow
        rw [beq_eq_false_iff_ne.mpr h0, Bool.false_or, Bool.beq_eq_decide_eq]
        exact decide_eq_decide.mpr (by omega)
      rw [e]
      exact k
theorem ok_first_argument (T : Txt K mg A) : FnOk P w K mg base CX0 2 A.f_first_argument A.d_first_argument ["calls", "start"] (spFirst K) := by
  refine T.F_first_argument.ok sc_first_argument (fun vs H Q E h => ?_) (fun cdv B outer s H vs Q E hr h => ?_)
  · obtain ⟨_, _, _, _, rfl, _⟩ := h
    rfl
  · obtain ⟨c, cs, i, p, rfl, hS, hp, k⟩ := h
    refine ⟨_, (pss_one (ps_ret (pe_ifExp (pt_val (pe_call (ok_takes_row T) (hr.mono (by decide)) rfl T.m_takes_row T.F_takes_row.kp T.b_takes_row .nil pass0 (pa_cons (pe_ix ix_list (pv 0) (pv 1) (fun _ _ => rfl)) pa_nil))) (pe_op op_add (pv 1) pe_int) (pe_op op_add (pv 1) pe_int)))), ?_⟩
    simp_arith [spTakes]
    refine ⟨_, hS, _, atI_nat (nv_at hp), p, rfl, ?_⟩
    cases e : isRow p with
    | true =>
      rw [e] at k
      simp_arith []
      exact k
    | false =>
      rw [e] at k
      simp_arith [Bool.false_eq_true]
      exact k
theorem ok_call_end (T : Txt K mg A) : FnOk P w K mg base CX0 2 A.f_call_end A.d_call_end ["calls", "start"] (spEnd K) := by
  refine T.F_call_end.ok sc_call_end (fun vs H Q E h => ?_) (fun cdv B outer s H vs Q E hr h => ?_)
  · obtain ⟨_, _, _, _, _, rfl, _⟩ := h
    rfl
  · obtain ⟨c, cs, i, p, en, rfl, hS, hp, he, k⟩ := h
    refine ⟨_, (pss_cons (ps_if (pt_val (pe_call (ok_takes_row T) (hr.mono (by decide)) rfl T.m_takes_row T.F_takes_row.kp T.b_takes_row .nil pass0 (pa_cons (pe_ix ix_list (pv 0) (pv 1) (fun _ _ => rfl)) pa_nil)))
      (pss_one (ps_ret (pe_op op_add (pe_op op_add (pv 1) pe_int) (pe_ix ix_list (pv 0) (pe_op op_add (pv 1) pe_int) (fun _ _ => rfl)))))
      pss_nil)
      (pss_one (ps_ret (pe_op op_add (pe_op op_add (pv 1) pe_int) (pe_ix ix_tup (pe_gt T.c_HOW_MANY_NUMBERS rfl) (pe_ix ix_list (pv 0) (pv 1) (fun _ _ => rfl)) (fun _ _ => rfl)))))), ?_⟩
    simp_arith [spTakes]
    refine ⟨_, hS, _, atI_nat (nv_at hp), p, rfl, ?_⟩
    cases e : isRow p with
    | true =>
      rw [e, if_pos rfl] at he
      obtain ⟨m, hm, rfl⟩ := he
      simp_arith []
      refine ⟨_, hS, _, atI_nat (j := i + 1) (nv_at hm), _, rfl, ?_⟩
      exact k
    | false =>
      rw [e, if_neg (by simp)] at he
      obtain ⟨h23, rfl⟩ := he
      simp_arith [Bool.false_eq_true]
      refine ⟨_, hS, _, atI_nat (nv_at hp), ?_⟩
      simp_arith []
      refine ⟨_, T.t_HOW_MANY_NUMBERS H, _, atI_nat (how_at h23), ?_⟩
      simp_arith []
      exact k
end
end LL

set_option Elab.async false
set_option linter.all false
set_option maxRecDepth 100000
set_option maxHeartbeats 4000000
open L2 in
local macro_rules | `(tactic| simp_arith [$ts,*]) => `(tactic| simp (config := { decide := false, zeta := true }) only [tSeq, tNext, tRet, tIfS, tAsg, tDrop, gName, tVar, tC, tOp, tUn, tChain, tTest, tB, tAnd, tOr, tNot, tAndV, tOrV, tNotV, tIf, rI0, rI, rU, rEq, rNe, tCB, tCons, tFor_eq, tLc_eq, iRng1, iRng2, iRng3, iList, iZip, iEnum, tFld, rIxL, rIxT, rSlL, tSl, tPart, tNoPart, tLst, gTup, gCons, gNil, gSub, rSetL, sFld, tMeth, tMake, tBM, tBM0, rAppend, rExtend, rInsert0, rCat, rAll, rAny, rSum, rMax, rMin, tAug, ipI, tNil, tCall, scal, start, List.map_cons, List.map_nil, List.length_cons, List.length_nil, List.replicate_succ, List.replicate_zero, Nat.reduceSub, Nat.reduceAdd, Nat.add_sub_cancel, Nat.sub_self, List.set, List.append_nil, List.cons_append, List.nil_append, List.append_eq,
  List.getElem?_cons_zero, List.getElem?_cons_succ, Option.some.injEq, V.int.injEq, V.bl.injEq, V.ref.injEq, List.cons.injEq, and_true, true_and, exists_eq_left, exists_eq_left', exists_and_left, exists_eq, exists_const, decide_eq_true_eq, Bool.not_eq_true', decide_eq_false_iff_not, reduceCtorEq, and_assoc, cxK, if_true, if_false, exists_eq', ite_not, $ts,*])
namespace LL
open PySem PySem.Spec PyProof.Rows L2
open Kv363 (Abs okFix Best Call)
def spTry (A : Ad) : Sp := fun vs H Q _ => ∃ (r dx g t rw : Addr) (a : Abs) (ns : List Nat), vs = [.ref r, .ref rw] ∧ RoadAt A.C_Road H r dx g t a ∧ WF a ∧ H rw = some (.lst (ns.map nv)) ∧ ∀ l H', H l = none → Same H H' → H' l = some (.lst ((ansOf a (.try_ ns)).map V.int)) → Q (.ref l) H'
theorem any_top (ns : List Nat) : (ns.any fun h => decide (Kv363.TOP < h)) = !(ns.all fun n => decide (n ≤ 40)) := by
  induction ns with
  | nil => rfl
  | cons x l ih =>
    rw [List.any_cons, List.all_cons, ih, Bool.not_and]
    congr 1
    show decide (40 < x) = !decide (x ≤ 40)
    by_cases h : x ≤ 40
    · rw [decide_eq_true h, decide_eq_false (by omega)]; rfl
    · rw [decide_eq_false h, decide_eq_true (by omega)]; rfl
section
variable {P : Program} {w : World} {K : PySem.W.Frag} {mg : Str → Option Value} {base : Heap} {A : Ad}
theorem ok_tried (T : Txt K mg A) : FnOk P w K mg base CX0 3 A.f_tried A.d_tried ["road", "row"] (spTry A) := by
  refine T.F_tried.ok sc_tried (fun vs H Q E h => ?_) (fun cdv B outer s H vs Q E hr h => ?_)
  · obtain ⟨_, _, _, _, _, _, _, rfl, _⟩ := h
    rfl
  · obtain ⟨r, dx, g, t, rw, a, ns, rfl, R, W, hS, k⟩ := h
    have h1 := R.ins
    have h12 := W.top
    refine ⟨_, (pss_cons (ps_if (PW.pt (pw_or (pt_cmpR op_ne (pe_callB (call_len_seq) (by rfl) T.n_len bo_len (pa_cons (pv 1) pa_nil)) (pe_callB (call_len_seq) (by rfl) T.n_len bo_len (pa_cons (pe_fld (pv 0) rfl) pa_nil)) (nomark _)) (pw_or1 (pt_not (pt_val (pe_call (ok_are_heights T) (hr.mono (by decide)) rfl T.m_are_heights T.F_are_heights.kp T.b_are_heights .nil pass0 (pa_cons (pv 1) pa_nil)))))))
      (pss_one (ps_ret (pe_lst (pa_cons (pe_gi T.c_OUT_OF_RANGE rfl) pa_nil))))
      pss_nil)
      (pss_cons (ps_if (pt_not (pt_val (pe_call (ok_is_line T) (hr.mono (by decide)) rfl T.m_is_line T.F_is_line.kp T.b_is_line .nil pass0 (pa_cons (pv 0) (pa_cons (pv 1) pa_nil)))))
      (pss_one (ps_ret (pe_lst (pa_cons (pe_gi T.c_NO_LINE rfl) pa_nil))))
      pss_nil)
      (pss_one (ps_ret (pe_lst (pa_cons (pe_call (ok_cost_of T) (hr.mono (by decide)) rfl T.m_cost_of T.F_cost_of.kp T.b_cost_of .nil pass0 (pa_cons (pv 0) (pa_cons (pv 1) pa_nil))) (pa_cons (pe_call (ok_cut_of T) (hr.mono (by decide)) rfl T.m_cut_of T.F_cut_of.kp T.b_cut_of .nil pass0 (pa_cons (pv 0) (pa_cons (pv 1) pa_nil))) (pa_cons (pe_call (ok_filled_of T) (hr.mono (by decide)) rfl T.m_filled_of T.F_filled_of.kp T.b_filled_of .nil pass0 (pa_cons (pv 0) (pa_cons (pv 1) pa_nil))) pa_nil)))))))), ?_⟩
    simp_arith [h1, HO.ins.injEq, T.cl_Road, T.a_Road_ground, rf_ground, spAre, spRow]
    refine ⟨_, .inl (SqL.of hS), _, .inl (SqL.of R.gr), ?_⟩
    rw [List.length_map, List.length_map]
    have refuse : ∀ n : Int, (ansOf a (.try_ ns)) = [n] → ∀ H1, Same H H1 → 1 ≤ sizeLine ∧ ∀ p, H1 p = none → Q (.ref p) (upd H1 p (.lst [.int n])) := fun n e H1 s1 =>
      ⟨by decide, fun l hl => k l _ (s1.free hl) (s1.upd (s1.free hl)) (by rw [upd_same, e]; rfl)⟩
    by_cases hl : ns.length = a.ground.length
    · rw [if_pos (by omega)]
      have sh : short ns := show ns.length ≤ 1000 by omega
      refine ⟨ns, SqL.of hS, sh, fun H1 s1 => ?_⟩
      cases hA : (ns.all fun n => decide (n ≤ 40)) with
      | false =>
        simp_arith []
        refine refuse (-22) ?_ H1 s1
        unfold ansOf
        have : a.does (.try_ ns) = (a, Kv363.say (-22)) := if_pos (.inr (by rw [any_top, hA]; rfl))
        rw [this]
        rfl
      | true =>
        simp_arith [Bool.true_eq_false]
        have n1 : ¬ (ns.length ≠ a.n ∨ (ns.any fun h => decide (Kv363.TOP < h)) = true) := by
          rw [any_top, hA]
          intro z
          rcases z with z | z
          · exact z hl
          · cases z
        have e : a.okLine ns = (keepsTold a ns && keepsGrade a ns) := by
          unfold Kv363.Abs.okLine
          rw [decide_eq_true (show ns.length = a.n from hl)]
          have : (ns.all fun h => decide (h ≤ Kv363.TOP)) = true := hA
          rw [this]
          rfl
        have d : a.does (.try_ ns) = (if a.okLine ns = false then (a, Kv363.say (-33)) else (a, ⟨(a.cost ns : Nat), [a.cut ns, a.fill ns]⟩)) := if_neg n1
        refine ⟨dx, g, t, a, R.same s1, ns, SqL.of (s1 _ _ hS), sh, fun H2 s2 => ?_⟩
        rw [e] at d
        cases hK : (keepsTold a ns && keepsGrade a ns) with
        | false =>
          simp_arith []
          refine refuse (-33) ?_ H2 (s1.trans s2)
          unfold ansOf
          rw [d, hK]
          rfl
        | true =>
          simp_arith [Bool.true_eq_false]
          have s12 := s1.trans s2
          refine ⟨dx, g, t, a, R.same s12, ns, SqL.of (s12 _ _ hS), sh, W.c2, W.f2, fun H3 s3 => ?_⟩
          have s13 := s12.trans s3
          refine ⟨dx, g, t, a, R.same s13, ns, SqL.of (s13 _ _ hS), sh, fun H4 s4 => ?_⟩
          have s14 := s13.trans s4
          refine ⟨dx, g, t, a, R.same s14, ns, SqL.of (s14 _ _ hS), sh, fun H5 s5 => ?_⟩
          have s15 := s14.trans s5
          refine ⟨by decide, fun l hl => k l _ (s15.free hl) (s15.upd (s15.free hl)) ?_⟩
          rw [upd_same]
          unfold ansOf
          rw [d, hK]
          rfl
    · rw [if_neg (by omega)]
      refine refuse (-22) ?_ H (Same.refl H)
      unfold ansOf
      have : a.does (.try_ ns) = (a, Kv363.say (-22)) := if_pos (.inl hl)
      rw [this]
      rfl
end
end LL

set_option Elab.async false
set_option linter.all false
set_option maxRecDepth 100000
set_option maxHeartbeats 4000000
namespace LL
open Kv363 (Abs Call)
def ofN (cs : List Nat) : List Int := cs.map fun n : Nat => (n : Int)
/-- a call by its number and its numbers -/
def two_ (ns : List Nat) (f : Nat → Nat → Call) : Option Call := match ns with
  | [x, y] => some (f x y)
  | _ => none
def one_ (ns : List Nat) (f : Nat → Call) : Option Call := match ns with
  | [x] => some (f x)
  | _ => none
def nil_ (ns : List Nat) (c : Call) : Option Call := match ns with
  | [] => some c
  | _ => none
theorem two_some {ns : List Nat} {f : Nat → Nat → Call} {c : Call} (h : two_ ns f = some c) : ∃ x y, ns = [x, y] ∧ c = f x y := by
  match ns, h with
  | [x, y], h => cases h; exact ⟨x, y, rfl, rfl⟩
theorem one_some {ns : List Nat} {f : Nat → Call} {c : Call} (h : one_ ns f = some c) : ∃ x, ns = [x] ∧ c = f x := by
  match ns, h with
  | [x], h => cases h; exact ⟨x, rfl, rfl⟩
theorem nil_some {ns : List Nat} {d c : Call} (h : nil_ ns d = some c) : ns = [] ∧ c = d := by
  match ns, h with
  | [], h => cases h; exact ⟨rfl, rfl⟩
/-- a call, by its number -/
def callP (p : Nat) (ns : List Nat) : Option Call := match p with
  | 0 => some (.begin_ ns)
  | 1 => two_ ns .ends
  | 2 => one_ ns .grade
  | 3 => two_ ns .price
  | 4 => two_ ns .ground
  | 5 => two_ ns .fix
  | 6 => one_ ns .free
  | 7 => nil_ ns .can
  | 8 => nil_ ns .cost
  | 9 => nil_ ns .line
  | 10 => nil_ ns .earth
  | 11 => some (.try_ ns)
  | 12 => nil_ ns .why
  | 13 => nil_ ns .leastgrade
  | 14 => one_ ns .ifgrade
  | 15 => one_ ns .between
  | 16 => two_ ns .through
  | 17 => one_ ns .worth
  | 18 => nil_ ns .steep
  | 19 => nil_ ns .flat
  | 20 => one_ ns .station
  | 21 => nil_ ns .profile
  | 22 => nil_ ns .state
  | _ => none
theorem shape_row {p : Nat} (h : isRow p = true) : PyKv363.shape (p : Int) = some (0, 1) := by
  unfold isRow at h
  rcases (Bool.or_eq_true _ _).mp h with h | h
  · rw [eq_of_beq h]; rfl
  · rw [eq_of_beq h]; rfl
theorem shape_other {p : Nat} (h : isRow p = false) : PyKv363.shape (p : Int) = if p < 23 then some (howMany p, 0) else none := by
  match p, h with
  | 0, h => cases h
  | 1, _ => rfl
  | 2, _ => rfl
  | 3, _ => rfl
  | 4, _ => rfl
  | 5, _ => rfl
  | 6, _ => rfl
  | 7, _ => rfl
  | 8, _ => rfl
  | 9, _ => rfl
  | 10, _ => rfl
  | 11, h => cases h
  | 12, _ => rfl
  | 13, _ => rfl
  | 14, _ => rfl
  | 15, _ => rfl
  | 16, _ => rfl
  | 17, _ => rfl
  | 18, _ => rfl
  | 19, _ => rfl
  | 20, _ => rfl
  | 21, _ => rfl
  | 22, _ => rfl
  | n + 23, _ =>
    unfold PyKv363.shape
    rw [if_neg (by omega)]
    repeat rw [if_neg (by omega)]
theorem toN_ofN (cs : List Nat) : Kv363Neutral.nats (ofN cs) = cs := by
  unfold Kv363Neutral.nats ofN
  rw [List.map_map]
  have : (Int.toNat ∘ fun n : Nat => (n : Int)) = id := by funext n; rfl
  rw [this, List.map_id]
/-- a call without a row, read off its numbers -/
theorem callOf_flat {p : Nat} {ns : List Nat} (h : isRow p = false) (hp : p < 23) (hn : ns.length = howMany p) : Kv363Neutral.callOf (PyKv363.whole [(p : Int) :: ofN ns]) = callP p ns ∧ (callP p ns).isSome = true := by
  have h0 : ∀ n, n = 0 → ns.length = n → ns = [] := fun n e z => List.eq_nil_of_length_eq_zero (z.trans e)
  have h1 : ∀ n, n = 1 → ns.length = n → ∃ x, ns = [x] := fun n e z => by
    match ns, z.trans e with
    | [x], _ => exact ⟨x, rfl⟩
  have h2 : ∀ n, n = 2 → ns.length = n → ∃ x y, ns = [x, y] := fun n e z => by
    match ns, z.trans e with
    | [x, y], _ => exact ⟨x, y, rfl⟩
  match p, h, hp, hn with
  | 0, h, _, _ => cases h
  | 1, _, _, hn => obtain ⟨x, y, rfl⟩ := h2 _ rfl hn; exact ⟨rfl, rfl⟩
  | 2, _, _, hn => obtain ⟨x, rfl⟩ := h1 _ rfl hn; exact ⟨rfl, rfl⟩
  | 3, _, _, hn => obtain ⟨x, y, rfl⟩ := h2 _ rfl hn; exact ⟨rfl, rfl⟩
  | 4, _, _, hn => obtain ⟨x, y, rfl⟩ := h2 _ rfl hn; exact ⟨rfl, rfl⟩
  | 5, _, _, hn => obtain ⟨x, y, rfl⟩ := h2 _ rfl hn; exact ⟨rfl, rfl⟩
  | 6, _, _, hn => obtain ⟨x, rfl⟩ := h1 _ rfl hn; exact ⟨rfl, rfl⟩
  | 7, _, _, hn => obtain rfl := h0 _ rfl hn; exact ⟨rfl, rfl⟩
  | 8, _, _, hn => obtain rfl := h0 _ rfl hn; exact ⟨rfl, rfl⟩
  | 9, _, _, hn => obtain rfl := h0 _ rfl hn; exact ⟨rfl, rfl⟩
  | 10, _, _, hn => obtain rfl := h0 _ rfl hn; exact ⟨rfl, rfl⟩
  | 11, h, _, _ => cases h
  | 12, _, _, hn => obtain rfl := h0 _ rfl hn; exact ⟨rfl, rfl⟩
  | 13, _, _, hn => obtain rfl := h0 _ rfl hn; exact ⟨rfl, rfl⟩
  | 14, _, _, hn => obtain ⟨x, rfl⟩ := h1 _ rfl hn; exact ⟨rfl, rfl⟩
  | 15, _, _, hn => obtain ⟨x, rfl⟩ := h1 _ rfl hn; exact ⟨rfl, rfl⟩
  | 16, _, _, hn => obtain ⟨x, y, rfl⟩ := h2 _ rfl hn; exact ⟨rfl, rfl⟩
  | 17, _, _, hn => obtain ⟨x, rfl⟩ := h1 _ rfl hn; exact ⟨rfl, rfl⟩
  | 18, _, _, hn => obtain rfl := h0 _ rfl hn; exact ⟨rfl, rfl⟩
  | 19, _, _, hn => obtain rfl := h0 _ rfl hn; exact ⟨rfl, rfl⟩
  | 20, _, _, hn => obtain ⟨x, rfl⟩ := h1 _ rfl hn; exact ⟨rfl, rfl⟩
  | 21, _, _, hn => obtain rfl := h0 _ rfl hn; exact ⟨rfl, rfl⟩
  | 22, _, _, hn => obtain rfl := h0 _ rfl hn; exact ⟨rfl, rfl⟩
  | n + 23, _, hp, _ => exact absurd hp (by omega)
theorem callOf_row {p : Nat} {ns : List Nat} (h : isRow p = true) : Kv363Neutral.callOf (PyKv363.whole [[(p : Int)], ofN ns]) = callP p ns ∧ (callP p ns).isSome = true := by
  unfold isRow at h
  rcases (Bool.or_eq_true _ _).mp h with h | h
  · rw [eq_of_beq h]
    refine ⟨?_, rfl⟩
    show some (Call.begin_ (Kv363Neutral.nats (ofN ns))) = some (Call.begin_ ns)
    rw [toN_ofN]
  · rw [eq_of_beq h]
    refine ⟨?_, rfl⟩
    show some (Call.try_ (Kv363Neutral.nats (ofN ns))) = some (Call.try_ ns)
    rw [toN_ofN]
/-- one call, as the program reads it -/
structure Reads1 (cs : List Nat) (c : List (List Int)) (p e : Nat) (ns : List Nat) : Prop where
  first : cs[0]? = some p
  how : if isRow p then ∃ m, cs[1]? = some m ∧ e = 2 + m else p < 23 ∧ e = 1 + howMany p
  part : ns = (cs.take e).drop (if isRow p then 2 else 1)
  le : e ≤ cs.length
  pos : 1 ≤ e
  call : Kv363Neutral.callOf (PyKv363.whole c) = callP p ns
  some : (callP p ns).isSome = true
theorem read1 {cs : List Nat} {c : List (List Int)} {t : List Int} (h : PyFlat.call PyKv363.shape (ofN cs) = some (c, t)) : ∃ p e ns, Reads1 cs c p e ns ∧ t = ofN (cs.drop e) := by
  match cs, h with
  | [], h => cases h
  | p :: r, h =>
    have h : (match PyKv363.shape (p : Int) with
      | none => none
      | some (n, k) => if (ofN r).length < n then none else match PyFlat.rows k ((ofN r).drop n) with
        | none => none
        | some (xs, t) => some (((p : Int) :: (ofN r).take n) :: xs, t)) = some (c, t) := h
    cases hr : isRow p with
    | true =>
      rw [shape_row hr] at h
      dsimp only at h
      rw [if_neg (by omega)] at h
      match r, h with
      | [], h => cases h
      | m :: r2, h =>
        have h : (match (match (if 0 ≤ (m : Int) ∧ (m : Int).toNat ≤ (ofN r2).length then some ((ofN r2).take (m : Int).toNat, (ofN r2).drop (m : Int).toNat) else none) with
            | none => none
            | some (x, s) => some ([x], s)) with
          | none => none
          | some (xs, t) => some ([(p : Int)] :: xs, t)) = some (c, t) := h
        by_cases hm : 0 ≤ (m : Int) ∧ (m : Int).toNat ≤ (ofN r2).length
        · rw [if_pos hm] at h
          have h := Option.some.inj h
          have hc : [[(p : Int)], (ofN r2).take m] = c := congrArg Prod.fst h
          have ht : (ofN r2).drop m = t := congrArg Prod.snd h
          have hlen : m ≤ r2.length := by
            have := hm.2
            unfold ofN at this
            rw [List.length_map] at this
            exact this
          have e1 : (ofN r2).take m = ofN (r2.take m) := by unfold ofN; rw [List.map_take]
          have e2 : (ofN r2).drop m = ofN (r2.drop m) := by unfold ofN; rw [List.map_drop]
          have co := callOf_row (ns := r2.take m) hr
          refine ⟨p, 2 + m, r2.take m, ⟨rfl, ?_, ?_, ?_, by omega, ?_, co.2⟩, ?_⟩
          · rw [hr, if_pos rfl]
            exact ⟨m, rfl, rfl⟩
          · rw [hr, if_pos rfl, Nat.add_comm 2 m]
            rfl
          · simp only [List.length_cons]
            omega
          · rw [← hc, e1]
            exact co.1
          · rw [← ht, e2, Nat.add_comm 2 m]
            rfl
        · rw [if_neg hm] at h
          cases h
    | false =>
      rw [shape_other hr] at h
      by_cases hp : p < 23
      · rw [if_pos hp] at h
        dsimp only at h
        by_cases hl : (ofN r).length < howMany p
        · rw [if_pos hl] at h
          cases h
        · rw [if_neg hl] at h
          have h := Option.some.inj h
          have hc : [(p : Int) :: (ofN r).take (howMany p)] = c := congrArg Prod.fst h
          have ht : (ofN r).drop (howMany p) = t := congrArg Prod.snd h
          have hlen : howMany p ≤ r.length := by
            unfold ofN at hl
            rw [List.length_map] at hl
            omega
          have e1 : (ofN r).take (howMany p) = ofN (r.take (howMany p)) := by unfold ofN; rw [List.map_take]
          have e2 : (ofN r).drop (howMany p) = ofN (r.drop (howMany p)) := by unfold ofN; rw [List.map_drop]
          have co := callOf_flat (ns := r.take (howMany p)) hr hp (by rw [List.length_take]; omega)
          refine ⟨p, 1 + howMany p, r.take (howMany p), ⟨rfl, ?_, ?_, ?_, by omega, ?_, co.2⟩, ?_⟩
          · rw [hr, if_neg (by simp)]
            exact ⟨hp, rfl⟩
          · rw [hr, if_neg (by simp), Nat.add_comm 1 (howMany p)]
            rfl
          · simp only [List.length_cons]
            omega
          · rw [← hc, e1]
            exact co.1
          · rw [← ht, e2, Nat.add_comm 1 (howMany p)]
            rfl
      · rw [if_neg hp] at h
        cases h
end LL

set_option Elab.async false
set_option linter.all false
set_option maxRecDepth 100000
set_option maxHeartbeats 4000000
open L2 in
local macro_rules | `(tactic| simp_arith [$ts,*]) => `(tactic| simp (config := { decide := false, zeta := true }) only [tSeq, tNext, tRet, tIfS, tAsg, tDrop, gName, tVar, tC, tOp, tUn, tChain, tTest, tB, tAnd, tOr, tNot, tAndV, tOrV, tNotV, tIf, rI0, rI, rU, rEq, rNe, tCB, tCons, tFor_eq, tLc_eq, iRng1, iRng2, iRng3, iList, iZip, iEnum, tFld, rIxL, rIxT, rSlL, tSl, tPart, tNoPart, tLst, gTup, gCons, gNil, gSub, rSetL, sFld, tMeth, tMake, tBM, tBM0, rAppend, rExtend, rInsert0, rCat, rAll, rAny, rSum, rMax, rMin, tAug, ipI, tNil, tCall, scal, start, List.map_cons, List.map_nil, List.length_cons, List.length_nil, List.replicate_succ, List.replicate_zero, Nat.reduceSub, Nat.reduceAdd, Nat.add_sub_cancel, Nat.sub_self, List.set, List.append_nil, List.cons_append, List.nil_append, List.append_eq,
  List.getElem?_cons_zero, List.getElem?_cons_succ, Option.some.injEq, V.int.injEq, V.bl.injEq, V.ref.injEq, List.cons.injEq, and_true, true_and, exists_eq_left, exists_eq_left', exists_and_left, exists_eq, exists_const, decide_eq_true_eq, Bool.not_eq_true', decide_eq_false_iff_not, reduceCtorEq, and_assoc, cxK, if_true, if_false, exists_eq', ite_not, $ts,*])
namespace LL
open PySem PySem.Spec PyProof.Rows L2
open Kv363 (Abs okFix Best Call State)
/-- the road at r is in the state s -/
def StAt (A : Ad) (H : Hp) (r dx g t : Addr) : State → Prop
  | none => RoadAt A.C_Road H r dx g t blank
  | some a => RoadAt A.C_Road H r dx g t a ∧ WF a
theorem StAt.road {A : Ad} {H : Hp} {r dx g t : Addr} {s : State} (h : StAt A H r dx g t s) : ∃ a, RoadAt A.C_Road H r dx g t a := by
  cases s with
  | none => exact ⟨_, h⟩
  | some a => exact ⟨a, h.1⟩
theorem StAt.keep {A : Ad} {H H' : Hp} {r dx g t : Addr} {s : State} (h : StAt A H r dx g t s) (k : ∀ b o, H b = some o → b = r ∨ b = g ∨ b = t → H' b = some o) : StAt A H' r dx g t s := by
  have q : ∀ {a : Abs}, RoadAt A.C_Road H r dx g t a → RoadAt A.C_Road H' r dx g t a := fun R => ⟨k _ _ R.ins (.inl rfl), k _ _ R.gr (.inr (.inl rfl)), k _ _ R.tl (.inr (.inr rfl)), R.ne⟩
  cases s with
  | none => exact q h
  | some a => exact ⟨q h.1, h.2⟩
def spCall (A : Ad) : Sp := fun vs H Q _ => ∃ (r dx g t gv : Addr) (s : State) (p : Nat) (ns : List Nat) (c : Call), vs = [.ref r, .int p, .ref gv] ∧ StAt A H r dx g t s ∧ H gv = some (.lst (ns.map nv)) ∧ callP p ns = some c ∧
  ∀ l H' g' t', H l = none → StAt A H' r dx g' t' (Kv363.act s c).1 → (g' = g ∨ H g' = none) → (t' = t ∨ H t' = none) → Fr H H' r g t → H' l = some (.lst ((Kv363Neutral.row (Kv363.act s c).2).map V.int)) → Q (.ref l) H'
def spAns (K : PySem.W.Frag) : Sp := fun vs H Q _ => ∃ (c : Addr) (cs : List Nat) (raw : List (List (List Int))), vs = [.ref c] ∧ SqL K H c (cs.map nv) ∧ PyFlat.calls PyKv363.shape cs.length (ofN cs) = some raw ∧ (PyKv363.answers (ofN cs)).length ≤ 10000000 ∧
  ∀ (H' : Hp) (p : Addr), H' p = some (.lst ((PyKv363.answers (ofN cs)).map V.int)) → Q (.ref p) H'
def mu (n : Nat) (σ : List (Option V)) : Nat := match σ[3]? with
  | some (some (V.int i)) => n - i.toNat
  | _ => 0
theorem rows_calls {f : Nat} {cs : List Nat} {raw : List (List (List Int))} (h : PyFlat.calls PyKv363.shape f (ofN cs) = some raw) (hn : 0 < cs.length) : ∃ f' c t raw', PyFlat.call PyKv363.shape (ofN cs) = some (c, t) ∧ PyFlat.calls PyKv363.shape f' t = some raw' ∧ raw = c :: raw' := by
  match cs, hn with
  | p :: r, _ =>
    cases f with
    | zero => cases h
    | succ f =>
      have h : (match PyFlat.call PyKv363.shape (ofN (p :: r)) with
        | none => none
        | some (c, t) => match PyFlat.calls PyKv363.shape f t with
          | none => none
          | some cs => some (c :: cs)) = some raw := h
      cases q : PyFlat.call PyKv363.shape (ofN (p :: r)) with
      | none => rw [q] at h; cases h
      | some x =>
        rw [q] at h
        obtain ⟨c, t⟩ := x
        dsimp only at h
        cases q2 : PyFlat.calls PyKv363.shape f t with
        | none => rw [q2] at h; cases h
        | some raw' =>
          rw [q2] at h
          exact ⟨f, c, t, raw', rfl, q2, (Option.some.inj h).symm⟩
theorem cutV_mid (xs : List V) {a b : Nat} (hab : a ≤ b) (hb : b ≤ xs.length) : cutV xs (some (a : Int)) (some (b : Int)) = (xs.take b).drop a := by
  have e1 : HT.sIx xs.length 0 (some (a : Int)) = a := by
    rw [HT.sIx_nat]
    omega
  have e2 : HT.sIx xs.length xs.length (some (b : Int)) = b := by
    rw [HT.sIx_nat]
    omega
  unfold cutV
  rw [e1, e2, List.drop_take]
theorem part_at {cs : List Nat} {i e j : Nat} : ((cs.drop i).take e).drop j = (cs.take (i + e)).drop (i + j) := by
  rw [← List.drop_drop]
  congr 1
  rw [List.take_drop]
theorem ofN_drop {cs : List Nat} {i e : Nat} : ofN ((cs.drop i).drop e) = ofN (cs.drop (i + e)) := by rw [List.drop_drop]
theorem told_cons (x : List Int) (l : List (List Int)) : PyFlat.told (x :: l) = (x.length : Int) :: x ++ PyFlat.told l := rfl
section
variable {P : Program} {w : World} {K : PySem.W.Frag} {mg : Str → Option Value} {base : Heap} {A : Ad}
theorem ok_answers (T : Txt K mg A) (G : FnOk P w K mg base CX0 9 A.f_answer_call A.d_answer_call ["road", "call", "given"] (spCall A)) : FnOk P w K mg base CX0 10 A.f_answers A.d_answers ["calls"] (spAns K) := by
  refine T.F_answers.ok sc_answers (fun vs H Q E h => ?_) (fun cdv B outer s H vs Q E hr h => ?_)
  · obtain ⟨_, _, _, rfl, _⟩ := h
    rfl
  · obtain ⟨c, cs, raw, rfl, hS, hraw, hlen, k⟩ := h
    refine ⟨_, (pss_cons (ps_set (i := 1) sc_answers.nd rfl (by first | exact Or.inl rfl | exact Or.inr rfl) (pe_make0 T.k_Road (ok_Road_init T) (hr.mono (by decide)) rfl T.m_Road T.b_Road_init .nil pass0))
      (pss_cons (ps_set (i := 2) sc_answers.nd rfl (by first | exact Or.inl rfl | exact Or.inr rfl) (pe_lst pa_nil))
      (pss_cons (ps_set (i := 3) sc_answers.nd rfl (by first | exact Or.inl rfl | exact Or.inr rfl) pe_int)
      (pss_cons (ps_while PassesOwn.never (pt_cmpR op_lt (pv 3) (pe_callB (call_len_seq) (by rfl) T.n_len bo_len (pa_cons (pv 0) pa_nil)) (nomark _))
      (pss_cons (ps_set (i := 4) sc_answers.nd rfl (by first | exact Or.inl rfl | exact Or.inr rfl) (pe_call (ok_first_argument T) (hr.mono (by decide)) rfl T.m_first_argument T.F_first_argument.kp T.b_first_argument .nil pass0 (pa_cons (pv 0) (pa_cons (pv 3) pa_nil))))
      (pss_cons (ps_set (i := 5) sc_answers.nd rfl (by first | exact Or.inl rfl | exact Or.inr rfl) (pe_call (ok_call_end T) (hr.mono (by decide)) rfl T.m_call_end T.F_call_end.kp T.b_call_end .nil pass0 (pa_cons (pv 0) (pa_cons (pv 3) pa_nil))))
      (pss_cons (ps_set (i := 6) sc_answers.nd rfl (by first | exact Or.inl rfl | exact Or.inr rfl) (pe_call G (hr.mono (by decide)) rfl T.m_answer_call T.F_answer_call.kp T.b_answer_call .nil pass0 (pa_cons (pv 1) (pa_cons (pe_ix ix_list (pv 0) (pv 3) (fun _ _ => rfl)) (pa_cons (pe_slice sl_list (pv 0) (po_some (pv 4)) (po_some (pv 5))) pa_nil)))))
      (pss_cons (ps_expr (pe_bm PySem.F.plainAttrs_list PySem.F.slot_list_append PySem.F.type_list_append mt_append (pv 2) (pa_cons (pe_callB (call_len_seq) (by rfl) T.n_len bo_len (pa_cons (pv 6) pa_nil)) pa_nil)))
      (pss_cons (ps_expr (pe_bm PySem.F.plainAttrs_list PySem.F.slot_list_extend PySem.F.type_list_extend mt_extend (pv 2) (pa_cons (pv 6) pa_nil)))
      (pss_one (ps_set (i := 3) sc_answers.nd rfl (by first | exact Or.inl rfl | exact Or.inr rfl) (pv 5)))))))))
      (pss_one (ps_ret (pv 2))))))), ?_⟩
    simp_arith [spInit]
    intro r dx hr0 hdx nrd
    refine ⟨dx, upd_same, fun g t H1 hg ht R f1 => ?_⟩
    have s1 : Same H H1 := fun b o e => f1 b o (by rw [upd_ne (ne_of_none e hr0), upd_ne (ne_of_none e hdx)]; exact e) (ne_of_none e hr0)
    refine ⟨by decide, fun sd hsd => ?_⟩
    have h1 := R.ins
    have ng : ∀ z, upd (upd H dx (HO.own r)) r (HO.ins A.C_Road dx []) z = none → H z = none := fun z hz => (upd_free (upd_free hz).2).2
    have sr : sd ≠ r := fun z => by rw [z, h1] at hsd; cases hsd
    have sg : sd ≠ g := fun z => by rw [z, R.gr] at hsd; cases hsd
    have st : sd ≠ t := fun z => by rw [z, R.tl] at hsd; cases hsd
    have hsd0 : H sd = none := s1.free hsd
    have a0 : PyKv363.answers (ofN cs) = [] ++ PyFlat.told (PyFlat.played Kv363Neutral.step none (raw.map PyKv363.whole)) := by
      unfold PyKv363.answers PyKv363.calls
      have : (ofN cs).length = cs.length := by unfold ofN; rw [List.length_map]
      rw [this, hraw]
      rfl
    refine while_by (fun σ H' => ∃ (i : Nat) (g t : Addr) (st : State) (sdl : List Int) (raw : List (List (List Int))) (f : Nat) (v4 v5 v6 : Option V), σ = [some (.ref c), some (.ref r), some (.ref sd), some (.int i), v4, v5, v6] ∧ i ≤ cs.length ∧ Same H H' ∧ StAt A H' r dx g t st ∧ H g = none ∧ H t = none ∧ sd ≠ g ∧ sd ≠ t ∧
        H' sd = some (.lst (sdl.map V.int)) ∧ PyFlat.calls PyKv363.shape f (ofN (cs.drop i)) = some raw ∧ PyKv363.answers (ofN cs) = sdl ++ PyFlat.told (PyFlat.played Kv363Neutral.step st (raw.map PyKv363.whole))) (fun σ _ => mu cs.length σ)
      ⟨0, g, t, none, [], raw, cs.length, none, none, none, rfl, Nat.zero_le _, s1.upd hsd0, ?_, ng g hg, ng t ht, sg, st, upd_same, hraw, a0⟩ ?_ ?_
    · refine StAt.keep (s := none) R fun b o e hb => ?_
      rw [upd_ne (ne_of_none e hsd)]
      exact e
    · rintro σ H' ⟨i, g, t, st, sdl, raw, f, v4, v5, v6, rfl, hi, s2, S, hg, ht, sg, st', e2, hr2, ha⟩
      simp_arith []
      refine ⟨_, .inl (s2.seq hS), ?_⟩
      rw [List.length_map]
      rcases Nat.lt_or_ge i cs.length with hlt | hge
      · rw [if_pos (by omega)]
        obtain ⟨f', c1, tt, raw', hc1, hr3, rfl⟩ := rows_calls hr2 (by rw [List.length_drop]; omega)
        obtain ⟨p, e, ns, Rd1, rfl⟩ := read1 hc1
        rw [ofN_drop] at hr3
        have hp : cs[i]? = some p := by
          have := Rd1.first
          rw [List.getElem?_drop] at this
          exact this
        have hle : i + e ≤ cs.length := by
          have := Rd1.le
          rw [List.length_drop] at this
          omega
        simp_arith [spFirst, spEnd]
        have hS2 := s2.seq hS
        have hend : (if isRow p = true then ∃ m, cs[i + 1]? = some m ∧ i + e = i + 2 + m else p < 23 ∧ i + e = i + 1 + howMany p) := by
          have := Rd1.how
          cases q : isRow p with
          | true =>
            rw [q, if_pos rfl] at this
            rw [if_pos rfl]
            obtain ⟨m, hm, he⟩ := this
            rw [List.getElem?_drop] at hm
            exact ⟨m, hm, by omega⟩
          | false =>
            rw [q, if_neg (by simp)] at this
            rw [if_neg (by simp)]
            exact ⟨this.1, by omega⟩
        have hfirst : (if isRow p = true then i + 2 else i + 1) ≤ i + e := by
          have := Rd1.how
          cases q : isRow p with
          | true =>
            rw [q, if_pos rfl] at this
            rw [if_pos rfl]
            obtain ⟨m, _, he⟩ := this
            omega
          | false =>
            rw [q, if_neg (by simp)] at this
            rw [if_neg (by simp)]
            omega
        have hns : (cs.take (i + e)).drop (if isRow p = true then i + 2 else i + 1) = ns := by
          rw [Rd1.part, part_at]
          cases isRow p <;> rfl
        refine ⟨cs, i, rfl, hS2, p, hp, cs, i, rfl, hS2, p, hp, i + e, hend, _, hS2, _, atI_nat (nv_at hp), _, hS2, fun q hq => ?_⟩
        rw [cutV_mid _ hfirst (by rw [List.length_map]; exact hle), ← List.map_take, ← List.map_drop, hns]
        obtain ⟨cl, hcl⟩ := Option.isSome_iff_exists.mp Rd1.some
        have sq : sd ≠ q := ne_of_none e2 hq
        have S3 : StAt A (upd H' q (.lst (ns.map nv))) r dx g t st := S.keep fun b o e _ => by rw [upd_ne (ne_of_none e hq)]; exact e
        refine ⟨r, dx, g, t, q, st, p, ns, cl, rfl, S3, upd_same, hcl, fun l H5 g' t' hl S5 hg' ht' F5 e5 => ?_⟩
        have e2q : upd H' q (.lst (ns.map nv)) sd = some (.lst (sdl.map V.int)) := by rw [upd_ne sq]; exact e2
        have e25 := F5 _ _ e2q sr sg st'
        have nls : l ≠ sd := fun z => by rw [z, e2q] at hl; cases hl
        have hst : Kv363Neutral.step st (PyKv363.whole c1) = ((Kv363.act st cl).1, Kv363Neutral.row (Kv363.act st cl).2) := by
          unfold Kv363Neutral.step
          rw [Rd1.call, hcl]
        have ha2 : PyKv363.answers (ofN cs) = (sdl ++ [((Kv363Neutral.row (Kv363.act st cl).2).length : Int)] ++ Kv363Neutral.row (Kv363.act st cl).2) ++ PyFlat.told (PyFlat.played Kv363Neutral.step (Kv363.act st cl).1 (raw'.map PyKv363.whole)) := by
          rw [ha]
          show sdl ++ PyFlat.told ((Kv363Neutral.step st (PyKv363.whole c1)).2 :: PyFlat.played Kv363Neutral.step (Kv363Neutral.step st (PyKv363.whole c1)).1 (raw'.map PyKv363.whole)) = _
          rw [hst, told_cons]
          simp [List.append_assoc]
        generalize Kv363Neutral.row (Kv363.act st cl).2 = x at e5 ha2
        have hlen2 : sdl.length + 1 + x.length ≤ 10000000 := by
          have := hlen
          rw [ha2] at this
          simp at this
          omega
        have big : (10000000 : Nat) < sizeLine := by decide
        have gfree : ∀ z z0, (z = z0 ∨ upd H' q (.lst (ns.map nv)) z = none) → H z0 = none → sd ≠ z0 → H z = none ∧ sd ≠ z := fun z z0 h h0 hs => by
          rcases h with rfl | h
          · exact ⟨h0, hs⟩
          · exact ⟨s2.free (upd_free h).2, fun w => by rw [← w, e2q] at h; cases h⟩
        obtain ⟨hg0, sg2⟩ := gfree g' g hg' hg sg
        obtain ⟨ht0, st2⟩ := gfree t' t ht' ht st'
        simp_arith []
        refine ⟨.inl ⟨rfl, _, SqL.of e25⟩, _, .inl (SqL.of e5), _, e25, by rw [List.length_map]; omega, .inl ⟨rfl, _, SqL.of upd_same⟩, _, upd_same, _, by rw [upd_ne nls]; exact e5, ?_, ⟨i + e, rfl, hle, ?_, g', t', (Kv363.act st cl).1, ?_, hg0, ht0, sg2, st2, sdl ++ [(x.length : Int)] ++ x, ?_, raw', f', hr3, ha2⟩, ?_⟩
        · rw [List.length_append, List.length_map, List.length_map, List.length_singleton]
          omega
        · intro b o hb
          have nb : b ≠ sd := ne_of_none hb hsd0
          rw [upd_ne nb, upd_ne nb]
          refine F5 b o ?_ (ne_of_none hb hr0) (ne_of_none hb hg) (ne_of_none hb ht)
          rw [upd_ne (ne_of_none (s2 _ _ hb) hq)]
          exact s2 _ _ hb
        · refine S5.keep fun b o hb hor => ?_
          have nb : b ≠ sd := by
            rcases hor with rfl | rfl | rfl
            · exact sr.symm
            · exact sg2.symm
            · exact st2.symm
          rw [upd_ne nb, upd_ne nb]
          exact hb
        · rw [upd_same, List.map_append, List.map_append, List.length_map]
          rfl
        · show cs.length - ((i + e : Nat) : Int).toNat < cs.length - ((i : Nat) : Int).toNat
          have := Rd1.pos
          omega
      · rw [if_neg (by omega)]
        have hnil : cs.drop i = [] := List.drop_eq_nil_of_le hge
        rw [hnil] at hr2
        have hraw0 : raw = [] := by
          cases f <;> exact (Option.some.inj hr2).symm
        rw [hraw0] at ha
        have ha : PyKv363.answers (ofN cs) = sdl := by rw [ha]; exact List.append_nil _
        refine k H' sd ?_
        rw [ha]
        exact e2
    · intro σ H' Q1 Q2 hq h
      obtain ⟨x, hx, y, hy, p, hp, z, hz, i, j, e1, e2, b, hb, q⟩ := h
      exact ⟨x, hx, y, hy, p, hp, z, hz, i, j, e1, e2, b, hb, hq _ _ q⟩
end
end LL

set_option Elab.async false
set_option linter.all false
set_option maxRecDepth 100000
set_option maxHeartbeats 4000000
open L2 in
local macro_rules | `(tactic| simp_arith [$ts,*]) => `(tactic| simp (config := { decide := false, zeta := true }) only [tSeq, tNext, tRet, tIfS, tAsg, tDrop, gName, tVar, tC, tOp, tUn, tChain, tTest, tB, tAnd, tOr, tNot, tAndV, tOrV, tNotV, tIf, rI0, rI, rU, rEq, rNe, tCB, tCons, tFor_eq, tLc_eq, iRng1, iRng2, iRng3, iList, iZip, iEnum, tFld, rIxL, rIxT, rSlL, tSl, tPart, tNoPart, tLst, gTup, gCons, gNil, gSub, rSetL, sFld, tMeth, tMake, tBM, tBM0, rAppend, rExtend, rInsert0, rCat, rAll, rAny, rSum, rMax, rMin, tAug, ipI, tNil, tCall, scal, start, List.map_cons, List.map_nil, List.length_cons, List.length_nil, List.replicate_succ, List.replicate_zero, Nat.reduceSub, Nat.reduceAdd, Nat.add_sub_cancel, Nat.sub_self, List.set, List.append_nil, List.cons_append, List.nil_append, List.append_eq,
  List.getElem?_cons_zero, List.getElem?_cons_succ, Option.some.injEq, V.int.injEq, V.bl.injEq, V.ref.injEq, List.cons.injEq, and_true, true_and, exists_eq_left, exists_eq_left', exists_and_left, exists_eq, exists_const, decide_eq_true_eq, Bool.not_eq_true', decide_eq_false_iff_not, reduceCtorEq, and_assoc, cxK, if_true, if_false, exists_eq', ite_not, $ts,*])
namespace LL
open PySem PySem.Spec PyProof.Rows L2
open Kv363 (Abs okFix Best Call State)
theorem getD_set {α : Type} {l : List α} {i j : Nat} {x d : α} (h : i < l.length) : (l.set i x).getD j d = if i = j then x else l.getD j d := by
  rw [List.getD_eq_getElem?_getD, List.getD_eq_getElem?_getD, List.getElem?_set]
  by_cases e : i = j
  · subst e
    rw [if_pos rfl, if_pos h, if_pos rfl]
    rfl
  · rw [if_neg e, if_neg e]
theorem WF.setF {a : Abs} (W : WF a) {i : Nat} {o : Option Nat} (hi : i < a.ground.length) (ho : ∀ x, o = some x → x ≤ 40) (he : o.isSome = true ∨ (i ≠ 0 ∧ i ≠ a.ground.length - 1)) : WF (a.setF i o) := by
  have hl : i < a.fix.length := by rw [W.len]; exact hi
  refine ⟨by show (a.fix.set i o).length = _; rw [List.length_set]; exact W.len, W.two, W.top, W.gr, ?_, ?_, ?_, W.k, W.c1, W.c2, W.f1, W.f2⟩
  · intro x hx
    have hx : some x ∈ a.fix.set i o := hx
    rcases List.mem_or_eq_of_mem_set hx with h | h
    · exact W.fx x h
    · exact ho x h.symm
  · show ((a.fix.set i o).getD 0 none).isSome = true
    rw [getD_set hl]
    split
    · rcases he with he | he
      · exact he
      · omega
    · exact W.first
  · show ((a.fix.set i o).getD (a.ground.length - 1) none).isSome = true
    rw [getD_set hl]
    split
    · rcases he with he | he
      · exact he
      · omega
    · exact W.last
theorem WF.begun {g : List Nat} (h : Kv363.okGround g = true) : WF (Kv363.begun g) := by
  unfold Kv363.okGround at h
  rw [Bool.and_eq_true, Bool.and_eq_true] at h
  obtain ⟨⟨h1, h2⟩, h3⟩ := h
  have h1 := of_decide_eq_true h1
  have h2 := of_decide_eq_true h2
  have hg : ∀ x ∈ g, x ≤ 40 := fun x hx => of_decide_eq_true (List.all_eq_true.mp h3 x hx)
  have hlen : (Kv363.begun g).fix.length = g.length := by
    show (g.zipIdx.map _).length = _
    simp
  have gd : ∀ i, g.getD i 0 ≤ 40 := fun i => by
    rw [List.getD_eq_getElem?_getD]
    cases e : g[i]? with
    | none => simp
    | some x => exact hg x (List.mem_of_getElem? e)
  refine ⟨hlen, h1, h2, hg, ?_, ?_, ?_, by show (1 : Nat) ≤ 40; decide, by show (1 : Nat) ≤ 1; decide, by show (1 : Nat) ≤ 10; decide, by show (1 : Nat) ≤ 1; decide, by show (1 : Nat) ≤ 10; decide⟩
  · intro x hx
    rw [begun_fix h1] at hx
    rcases List.mem_or_eq_of_mem_set hx with h | h
    · rcases List.mem_or_eq_of_mem_set h with h | h
      · obtain ⟨_, _, h⟩ := List.mem_map.mp h
        cases h
      · cases h
        exact gd 0
    · cases h
      exact gd _
  · rw [begun_fix h1, getD_set (by rw [List.length_set, List.length_map]; omega), getD_set (by rw [List.length_map]; omega)]
    split
    · rfl
    · rfl
  · show ((Kv363.begun g).fix.getD (g.length - 1) none).isSome = true
    rw [begun_fix h1, getD_set (by rw [List.length_set, List.length_map]; omega), if_pos rfl]
    rfl
theorem WF.grade {a : Abs} (W : WF a) {k : Nat} (h : k ≤ 40) : WF (a.withK k) := ⟨W.len, W.two, W.top, W.gr, W.fx, W.first, W.last, h, W.c1, W.c2, W.f1, W.f2⟩
theorem end_not {a : Abs} {i : Nat} (h : ¬ a.end_ i = true) : i ≠ 0 ∧ i ≠ a.ground.length - 1 ∨ a.ground.length = 0 := by
  unfold Kv363.Abs.end_ Kv363.Abs.n at h
  simp at h
  omega
/-- every call leaves a road well formed -/
theorem WF.does {a : Abs} (W : WF a) (c : Call) : WF (a.does c).1 := by
  have h2 := W.two
  have hl := W.len
  cases c with
  | begin_ g =>
    show WF (if Kv363.okGround g = false then (a, Kv363.say (-22)) else (Kv363.begun g, Kv363.say (g.length : Nat))).1
    split
    · exact W
    · rename_i h
      exact WF.begun (by simpa using h)
  | ends s e =>
    show WF (if Kv363.TOP < s ∨ Kv363.TOP < e then (a, Kv363.say (-22)) else ((a.setF 0 (some s)).setF (a.n - 1) (some e), _)).1
    split
    · exact W
    · rename_i h
      have h : ¬ (40 < s ∨ 40 < e) := h
      exact WF.setF (WF.setF W (by omega) (fun x q => by cases q; omega) (.inl rfl)) (by show a.ground.length - 1 < a.ground.length; omega) (fun x q => by cases q; omega) (.inl rfl)
  | grade k =>
    show WF (if 10 < k then (a, Kv363.say (-22)) else (a.withK k, _)).1
    split
    · exact W
    · exact W.grade (by omega)
  | price c f =>
    show WF (if c = 0 ∨ 10 < c ∨ f = 0 ∨ 10 < f then (a, Kv363.say (-22)) else ({ a with cutp := c, fillp := f }, _)).1
    split
    · exact W
    · exact ⟨W.len, W.two, W.top, W.gr, W.fx, W.first, W.last, W.k, by show 1 ≤ c; omega, by show c ≤ 10; omega, by show 1 ≤ f; omega, by show f ≤ 10; omega⟩
  | ground i x =>
    show WF (if a.n ≤ i then (a, Kv363.say (-2)) else if Kv363.TOP < x then (a, Kv363.say (-22)) else ({ a with ground := a.ground.set i x }, _)).1
    split
    · exact W
    · split
      · exact W
      · rename_i h
        have h : ¬ 40 < x := h
        refine ⟨by show a.fix.length = (a.ground.set i x).length; rw [List.length_set]; exact W.len, by show 2 ≤ (a.ground.set i x).length; rw [List.length_set]; exact W.two, by show (a.ground.set i x).length ≤ 12; rw [List.length_set]; exact W.top, ?_, W.fx, W.first, ?_, W.k, W.c1, W.c2, W.f1, W.f2⟩
        · intro y hy
          rcases List.mem_or_eq_of_mem_set hy with q | q
          · exact W.gr y q
          · omega
        · show (a.fix.getD ((a.ground.set i x).length - 1) none).isSome = true
          rw [List.length_set]
          exact W.last
  | fix i x =>
    show WF (if a.n ≤ i then (a, Kv363.say (-2)) else if a.end_ i = true then (a, Kv363.say (-16)) else if Kv363.TOP < x then (a, Kv363.say (-22)) else (a.setF i (some x), _)).1
    split
    · exact W
    · rename_i hi
      split
      · exact W
      · split
        · exact W
        · rename_i h
          have h : ¬ 40 < x := h
          have hi : ¬ a.ground.length ≤ i := hi
          exact WF.setF W (by omega) (fun y q => by cases q; omega) (.inl rfl)
  | free i =>
    show WF (if a.n ≤ i then (a, Kv363.say (-2)) else if a.end_ i = true then (a, Kv363.say (-16)) else match a.fix.getD i none with
      | none => (a, Kv363.say (-6))
      | some y => (a.setF i none, Kv363.say (y : Nat))).1
    split
    · exact W
    · rename_i hi
      have hi : ¬ a.ground.length ≤ i := hi
      split
      · exact W
      · rename_i he
        split
        · exact W
        · exact WF.setF W (by omega) (fun y q => by cases q) (.inr (by have := end_not he; omega))
  | can => exact W
  | cost => exact W
  | line =>
    show WF (match a.best with | none => (a, Kv363.say (-33)) | some b => (a, Kv363.list b.line)).1
    split <;> exact W
  | earth =>
    show WF (match a.best with | none => (a, Kv363.say (-33)) | some b => (a, ⟨(a.cut b.line : Nat), [a.fill b.line]⟩)).1
    split <;> exact W
  | try_ l =>
    unfold Kv363.Abs.does
    dsimp only
    split
    · exact W
    · split <;> exact W
  | why =>
    unfold Kv363.Abs.does
    dsimp only
    split <;> exact W
  | leastgrade => exact W
  | ifgrade k =>
    unfold Kv363.Abs.does
    dsimp only
    split <;> exact W
  | between i =>
    unfold Kv363.Abs.does
    dsimp only
    split
    · exact W
    · split <;> exact W
  | through i x =>
    unfold Kv363.Abs.does
    dsimp only
    split
    · exact W
    · split
      · exact W
      · split <;> exact W
  | worth i =>
    unfold Kv363.Abs.does
    dsimp only
    split
    · exact W
    · split
      · exact W
      · split
        · exact W
        · split <;> exact W
  | steep =>
    unfold Kv363.Abs.does
    dsimp only
    split <;> exact W
  | flat =>
    unfold Kv363.Abs.does
    dsimp only
    split <;> exact W
  | station i =>
    unfold Kv363.Abs.does
    dsimp only
    split <;> exact W
  | profile => exact W
  | state => exact W
end LL

set_option Elab.async false
set_option linter.all false
set_option maxRecDepth 100000
set_option maxHeartbeats 4000000
open L2 in
local macro_rules | `(tactic| simp_arith [$ts,*]) => `(tactic| simp (config := { decide := false, zeta := true }) only [tSeq, tNext, tRet, tIfS, tAsg, tDrop, gName, tVar, tC, tOp, tUn, tChain, tTest, tB, tAnd, tOr, tNot, tAndV, tOrV, tNotV, tIf, rI0, rI, rU, rEq, rNe, tCB, tCons, tFor_eq, tLc_eq, iRng1, iRng2, iRng3, iList, iZip, iEnum, tFld, rIxL, rIxT, rSlL, tSl, tPart, tNoPart, tLst, gTup, gCons, gNil, gSub, rSetL, sFld, tMeth, tMake, tBM, tBM0, rAppend, rExtend, rInsert0, rCat, rAll, rAny, rSum, rMax, rMin, tAug, ipI, tNil, tCall, scal, start, List.map_cons, List.map_nil, List.length_cons, List.length_nil, List.replicate_succ, List.replicate_zero, Nat.reduceSub, Nat.reduceAdd, Nat.add_sub_cancel, Nat.sub_self, List.set, List.append_nil, List.cons_append, List.nil_append, List.append_eq,
  List.getElem?_cons_zero, List.getElem?_cons_succ, Option.some.injEq, V.int.injEq, V.bl.injEq, V.ref.injEq, List.cons.injEq, and_true, true_and, exists_eq_left, exists_eq_left', exists_and_left, exists_eq, exists_const, decide_eq_true_eq, Bool.not_eq_true', decide_eq_false_iff_not, reduceCtorEq, and_assoc, cxK, if_true, if_false, exists_eq', ite_not, $ts,*])
namespace LL
open PySem PySem.Spec PyProof.Rows L2
open Kv363 (Abs okFix Best Call State)
def spChg (A : Ad) : Sp := fun vs H Q _ => ∃ (r dx g t gv : Addr) (a : Abs) (p : Nat) (ns : List Nat) (c : Call), vs = [.ref r, .int p, .ref gv] ∧ RoadAt A.C_Road H r dx g t a ∧ WF a ∧ H gv = some (.lst (ns.map nv)) ∧ callP p ns = some c ∧ 1 ≤ p ∧ p ≤ 6 ∧
  ∀ l H', H l = none → RoadAt A.C_Road H' r dx g t (a.does c).1 → Fr H H' r g t → H' l = some (.lst ((ansOf a c).map V.int)) → Q (.ref l) H'
def spLk (A : Ad) : Sp := fun vs H Q _ => ∃ (r dx g t gv : Addr) (a : Abs) (p : Nat) (ns : List Nat) (c : Call), vs = [.ref r, .int p, .ref gv] ∧ RoadAt A.C_Road H r dx g t a ∧ WF a ∧ H gv = some (.lst (ns.map nv)) ∧ callP p ns = some c ∧ 7 ≤ p ∧
  ∀ l H', H l = none → Same H H' → H' l = some (.lst ((ansOf a c).map V.int)) → Q (.ref l) H'
theorem callP_2 {p : Nat} {ns : List Nat} {c : Call} (h : callP p ns = some c) (hp : howMany p = 2) : ∃ x y, ns = [x, y] := by
  match p, h, hp with
  | 0, _, hp => exact absurd hp (by decide)
  | 1, h, _ => obtain ⟨x, y, e, _⟩ := two_some h; exact ⟨x, y, e⟩
  | 2, _, hp => exact absurd hp (by decide)
  | 3, h, _ => obtain ⟨x, y, e, _⟩ := two_some h; exact ⟨x, y, e⟩
  | 4, h, _ => obtain ⟨x, y, e, _⟩ := two_some h; exact ⟨x, y, e⟩
  | 5, h, _ => obtain ⟨x, y, e, _⟩ := two_some h; exact ⟨x, y, e⟩
  | 6, _, hp => exact absurd hp (by decide)
  | 7, _, hp => exact absurd hp (by decide)
  | 8, _, hp => exact absurd hp (by decide)
  | 9, _, hp => exact absurd hp (by decide)
  | 10, _, hp => exact absurd hp (by decide)
  | 11, _, hp => exact absurd hp (by decide)
  | 12, _, hp => exact absurd hp (by decide)
  | 13, _, hp => exact absurd hp (by decide)
  | 14, _, hp => exact absurd hp (by decide)
  | 15, _, hp => exact absurd hp (by decide)
  | 16, h, _ => obtain ⟨x, y, e, _⟩ := two_some h; exact ⟨x, y, e⟩
  | 17, _, hp => exact absurd hp (by decide)
  | 18, _, hp => exact absurd hp (by decide)
  | 19, _, hp => exact absurd hp (by decide)
  | 20, _, hp => exact absurd hp (by decide)
  | 21, _, hp => exact absurd hp (by decide)
  | 22, _, hp => exact absurd hp (by decide)
  | n + 23, h, _ => cases h
theorem callP_1 {p : Nat} {ns : List Nat} {c : Call} (h : callP p ns = some c) (hp : howMany p = 1) : ∃ x, ns = [x] := by
  match p, h, hp with
  | 0, _, hp => exact absurd hp (by decide)
  | 1, _, hp => exact absurd hp (by decide)
  | 2, h, _ => obtain ⟨x, e, _⟩ := one_some h; exact ⟨x, e⟩
  | 3, _, hp => exact absurd hp (by decide)
  | 4, _, hp => exact absurd hp (by decide)
  | 5, _, hp => exact absurd hp (by decide)
  | 6, h, _ => obtain ⟨x, e, _⟩ := one_some h; exact ⟨x, e⟩
  | 7, _, hp => exact absurd hp (by decide)
  | 8, _, hp => exact absurd hp (by decide)
  | 9, _, hp => exact absurd hp (by decide)
  | 10, _, hp => exact absurd hp (by decide)
  | 11, _, hp => exact absurd hp (by decide)
  | 12, _, hp => exact absurd hp (by decide)
  | 13, _, hp => exact absurd hp (by decide)
  | 14, h, _ => obtain ⟨x, e, _⟩ := one_some h; exact ⟨x, e⟩
  | 15, h, _ => obtain ⟨x, e, _⟩ := one_some h; exact ⟨x, e⟩
  | 16, _, hp => exact absurd hp (by decide)
  | 17, h, _ => obtain ⟨x, e, _⟩ := one_some h; exact ⟨x, e⟩
  | 18, _, hp => exact absurd hp (by decide)
  | 19, _, hp => exact absurd hp (by decide)
  | 20, h, _ => obtain ⟨x, e, _⟩ := one_some h; exact ⟨x, e⟩
  | 21, _, hp => exact absurd hp (by decide)
  | 22, _, hp => exact absurd hp (by decide)
  | n + 23, h, _ => cases h
/-- the looks with no argument -/
def bareC (p : Nat) : Option Call := match p with
  | 7 => some .can
  | 8 => some .cost
  | 9 => some .line
  | 10 => some .earth
  | 12 => some .why
  | 13 => some .leastgrade
  | 18 => some .steep
  | 19 => some .flat
  | 21 => some .profile
  | 22 => some .state
  | _ => none
theorem bareC_cases {p : Nat} {c : Call} (h : bareC p = some c) : (p = 7 ∧ c = .can) ∨ (p = 8 ∧ c = .cost) ∨ (p = 9 ∧ c = .line) ∨ (p = 10 ∧ c = .earth) ∨ (p = 12 ∧ c = .why) ∨ (p = 13 ∧ c = .leastgrade) ∨ (p = 18 ∧ c = .steep) ∨ (p = 19 ∧ c = .flat) ∨ (p = 21 ∧ c = .profile) ∨ (p = 22 ∧ c = .state) := by
  unfold bareC at h
  split at h <;> first | (cases h; simp) | cases h
theorem look_cases {p : Nat} {ns : List Nat} {c : Call} (h : callP p ns = some c) (hp : 7 ≤ p) : (p = 11 ∧ c = .try_ ns) ∨ (∃ x, ns = [x] ∧ ((p = 14 ∧ c = .ifgrade x) ∨ (p = 15 ∧ c = .between x) ∨ (p = 17 ∧ c = .worth x) ∨ (p = 20 ∧ c = .station x))) ∨ (∃ x y, ns = [x, y] ∧ p = 16 ∧ c = .through x y) ∨ bareC p = some c := by
  match p, h, hp with
  | 0, _, hp => exact absurd hp (by decide)
  | 1, _, hp => exact absurd hp (by decide)
  | 2, _, hp => exact absurd hp (by decide)
  | 3, _, hp => exact absurd hp (by decide)
  | 4, _, hp => exact absurd hp (by decide)
  | 5, _, hp => exact absurd hp (by decide)
  | 6, _, hp => exact absurd hp (by decide)
  | 7, h, _ => obtain ⟨rfl, rfl⟩ := nil_some h; exact .inr (.inr (.inr rfl))
  | 8, h, _ => obtain ⟨rfl, rfl⟩ := nil_some h; exact .inr (.inr (.inr rfl))
  | 9, h, _ => obtain ⟨rfl, rfl⟩ := nil_some h; exact .inr (.inr (.inr rfl))
  | 10, h, _ => obtain ⟨rfl, rfl⟩ := nil_some h; exact .inr (.inr (.inr rfl))
  | 11, h, _ => cases h; exact .inl ⟨rfl, rfl⟩
  | 12, h, _ => obtain ⟨rfl, rfl⟩ := nil_some h; exact .inr (.inr (.inr rfl))
  | 13, h, _ => obtain ⟨rfl, rfl⟩ := nil_some h; exact .inr (.inr (.inr rfl))
  | 14, h, _ => obtain ⟨x, rfl, rfl⟩ := one_some h; exact .inr (.inl ⟨x, rfl, .inl ⟨rfl, rfl⟩⟩)
  | 15, h, _ => obtain ⟨x, rfl, rfl⟩ := one_some h; exact .inr (.inl ⟨x, rfl, .inr (.inl ⟨rfl, rfl⟩)⟩)
  | 16, h, _ => obtain ⟨x, y, rfl, rfl⟩ := two_some h; exact .inr (.inr (.inl ⟨x, y, rfl, rfl, rfl⟩))
  | 17, h, _ => obtain ⟨x, rfl, rfl⟩ := one_some h; exact .inr (.inl ⟨x, rfl, .inr (.inr (.inl ⟨rfl, rfl⟩))⟩)
  | 18, h, _ => obtain ⟨rfl, rfl⟩ := nil_some h; exact .inr (.inr (.inr rfl))
  | 19, h, _ => obtain ⟨rfl, rfl⟩ := nil_some h; exact .inr (.inr (.inr rfl))
  | 20, h, _ => obtain ⟨x, rfl, rfl⟩ := one_some h; exact .inr (.inl ⟨x, rfl, .inr (.inr (.inr ⟨rfl, rfl⟩))⟩)
  | 21, h, _ => obtain ⟨rfl, rfl⟩ := nil_some h; exact .inr (.inr (.inr rfl))
  | 22, h, _ => obtain ⟨rfl, rfl⟩ := nil_some h; exact .inr (.inr (.inr rfl))
  | n + 23, h, _ => cases h
section
variable {P : Program} {w : World} {K : PySem.W.Frag} {mg : Str → Option Value} {base : Heap} {A : Ad}
theorem ok_answer_change (T : Txt K mg A) : FnOk P w K mg base CX0 3 A.f_answer_change A.d_answer_change ["road", "call", "given"] (spChg A) := by
  refine T.F_answer_change.ok sc_answer_change (fun vs H Q E h => ?_) (fun cdv B outer s H vs Q E hr h => ?_)
  · obtain ⟨_, _, _, _, _, _, _, _, _, rfl, _⟩ := h
    rfl
  · obtain ⟨r, dx, g, t, gv, a, p, ns, c, rfl, R, W, hS, hc, hp1, hp6, k⟩ := h
    have h1 := R.ins
    have nm : ∀ m : Str, (¬ m = "ground" ∧ ¬ m = "told" ∧ ¬ m = "grade" ∧ ¬ m = "cut_price" ∧ ¬ m = "fill_price") → (rf g t a.grade a.cutp a.fillp).lookup m = none := fun m h => rf_no h
    have n1 := nm "tell_ends" (by decide +kernel)
    have n2 := nm "change_grade" (by decide +kernel)
    have n3 := nm "change_prices" (by decide +kernel)
    have n4 := nm "change_ground" (by decide +kernel)
    have n5 := nm "fix" (by decide +kernel)
    have n6 := nm "free" (by decide +kernel)
    refine ⟨_, (pss_cons (ps_if (pt_cmpR op_eq (pv 1) (pe_gi T.c_ENDS rfl) (nomark _))
      (pss_one (ps_ret (pe_meth (pv 0) T.cl_Road T.x_Road_tell_ends (ok_Road_tell_ends T) (hr.mono (by decide)) T.b_Road_tell_ends .nil pass0 (pa_cons (pe_ix ix_list (pv 2) pe_int (fun _ _ => rfl)) (pa_cons (pe_ix ix_list (pv 2) pe_int (fun _ _ => rfl)) pa_nil)))))
      pss_nil)
      (pss_cons (ps_if (pt_cmpR op_eq (pv 1) (pe_gi T.c_GRADE rfl) (nomark _))
      (pss_one (ps_ret (pe_meth (pv 0) T.cl_Road T.x_Road_change_grade (ok_Road_change_grade T) (hr.mono (by decide)) T.b_Road_change_grade .nil pass0 (pa_cons (pe_ix ix_list (pv 2) pe_int (fun _ _ => rfl)) pa_nil))))
      pss_nil)
      (pss_cons (ps_if (pt_cmpR op_eq (pv 1) (pe_gi T.c_PRICE rfl) (nomark _))
      (pss_one (ps_ret (pe_meth (pv 0) T.cl_Road T.x_Road_change_prices (ok_Road_change_prices T) (hr.mono (by decide)) T.b_Road_change_prices .nil pass0 (pa_cons (pe_ix ix_list (pv 2) pe_int (fun _ _ => rfl)) (pa_cons (pe_ix ix_list (pv 2) pe_int (fun _ _ => rfl)) pa_nil)))))
      pss_nil)
      (pss_cons (ps_if (pt_cmpR op_eq (pv 1) (pe_gi T.c_GROUND rfl) (nomark _))
      (pss_one (ps_ret (pe_meth (pv 0) T.cl_Road T.x_Road_change_ground (ok_Road_change_ground T) (hr.mono (by decide)) T.b_Road_change_ground .nil pass0 (pa_cons (pe_ix ix_list (pv 2) pe_int (fun _ _ => rfl)) (pa_cons (pe_ix ix_list (pv 2) pe_int (fun _ _ => rfl)) pa_nil)))))
      pss_nil)
      (pss_cons (ps_if (pt_cmpR op_eq (pv 1) (pe_gi T.c_FIX rfl) (nomark _))
      (pss_one (ps_ret (pe_meth (pv 0) T.cl_Road T.x_Road_fix (ok_Road_fix T) (hr.mono (by decide)) T.b_Road_fix .nil pass0 (pa_cons (pe_ix ix_list (pv 2) pe_int (fun _ _ => rfl)) (pa_cons (pe_ix ix_list (pv 2) pe_int (fun _ _ => rfl)) pa_nil)))))
      pss_nil)
      (pss_one (ps_ret (pe_meth (pv 0) T.cl_Road T.x_Road_free (ok_Road_free T) (hr.mono (by decide)) T.b_Road_free .nil pass0 (pa_cons (pe_ix ix_list (pv 2) pe_int (fun _ _ => rfl)) pa_nil))))))))), ?_⟩
    simp_arith [h1, HO.ins.injEq, n1, n2, n3, n4, n5, n6]
    have two : ∀ {x y : Nat}, ns = [x, y] → (ns.map nv)[0]? = some (V.int x) ∧ (ns.map nv)[1]? = some (V.int y) := fun e => by rw [e]; exact ⟨rfl, rfl⟩
    have one : ∀ {x : Nat}, ns = [x] → (ns.map nv)[0]? = some (V.int x) := fun e => by rw [e]; rfl
    rcases (by omega : p = 1 ∨ p = 2 ∨ p = 3 ∨ p = 4 ∨ p = 5 ∨ p = 6) with rfl | rfl | rfl | rfl | rfl | rfl
    · obtain ⟨x, y, rfl⟩ := callP_2 hc rfl
      cases hc
      rw [if_pos (by omega)]
      refine ⟨_, SqL.of hS, _, atI_nat (j := 0) (two rfl).1, _, SqL.of hS, _, atI_nat (j := 1) (two rfl).2, ?_⟩
      exact ⟨r, dx, g, t, a, x, y, rfl, R, W, k⟩
    · obtain ⟨x, rfl⟩ := callP_1 hc rfl
      cases hc
      rw [if_neg (by omega), if_pos (by omega)]
      refine ⟨_, SqL.of hS, _, atI_nat (j := 0) (one rfl), ?_⟩
      exact ⟨r, dx, g, t, a, x, rfl, R, W, k⟩
    · obtain ⟨x, y, rfl⟩ := callP_2 hc rfl
      cases hc
      rw [if_neg (by omega), if_neg (by omega), if_pos (by omega)]
      refine ⟨_, SqL.of hS, _, atI_nat (j := 0) (two rfl).1, _, SqL.of hS, _, atI_nat (j := 1) (two rfl).2, ?_⟩
      exact ⟨r, dx, g, t, a, x, y, rfl, R, W, k⟩
    · obtain ⟨x, y, rfl⟩ := callP_2 hc rfl
      cases hc
      rw [if_neg (by omega), if_neg (by omega), if_neg (by omega), if_pos (by omega)]
      refine ⟨_, SqL.of hS, _, atI_nat (j := 0) (two rfl).1, _, SqL.of hS, _, atI_nat (j := 1) (two rfl).2, ?_⟩
      exact ⟨r, dx, g, t, a, x, y, rfl, R, W, k⟩
    · obtain ⟨x, y, rfl⟩ := callP_2 hc rfl
      cases hc
      rw [if_neg (by omega), if_neg (by omega), if_neg (by omega), if_neg (by omega), if_pos (by omega)]
      refine ⟨_, SqL.of hS, _, atI_nat (j := 0) (two rfl).1, _, SqL.of hS, _, atI_nat (j := 1) (two rfl).2, ?_⟩
      exact ⟨r, dx, g, t, a, x, y, rfl, R, W, k⟩
    · obtain ⟨x, rfl⟩ := callP_1 hc rfl
      cases hc
      rw [if_neg (by omega), if_neg (by omega), if_neg (by omega), if_neg (by omega), if_neg (by omega)]
      refine ⟨_, SqL.of hS, _, atI_nat (j := 0) (one rfl), ?_⟩
      exact ⟨r, dx, g, t, a, x, rfl, R, W, k⟩
theorem look_same {a : Abs} {p : Nat} {ns : List Nat} {c : Call} (h : callP p ns = some c) (hp : 7 ≤ p) : (a.does c).1 = a := by
  rcases look_cases h hp with ⟨_, rfl⟩ | ⟨x, _, ⟨_, rfl⟩ | ⟨_, rfl⟩ | ⟨_, rfl⟩ | ⟨_, rfl⟩⟩ | ⟨x, y, _, _, rfl⟩ | hb
  rotate_right
  · rcases bareC_cases hb with ⟨_, rfl⟩ | ⟨_, rfl⟩ | ⟨_, rfl⟩ | ⟨_, rfl⟩ | ⟨_, rfl⟩ | ⟨_, rfl⟩ | ⟨_, rfl⟩ | ⟨_, rfl⟩ | ⟨_, rfl⟩ | ⟨_, rfl⟩
    all_goals
      unfold Kv363.Abs.does
      dsimp only
      repeat' split
      all_goals rfl
  all_goals
    unfold Kv363.Abs.does
    dsimp only
    repeat' split
    all_goals rfl
/-- no other call begins -/
theorem callP_begin {p : Nat} {ns g : List Nat} (h : callP p ns = some (.begin_ g)) : p = 0 := by
  match p, h with
  | 0, _ => rfl
  | 1, h => obtain ⟨_, _, _, e⟩ := two_some h; cases e
  | 2, h => obtain ⟨_, _, e⟩ := one_some h; cases e
  | 3, h => obtain ⟨_, _, _, e⟩ := two_some h; cases e
  | 4, h => obtain ⟨_, _, _, e⟩ := two_some h; cases e
  | 5, h => obtain ⟨_, _, _, e⟩ := two_some h; cases e
  | 6, h => obtain ⟨_, _, e⟩ := one_some h; cases e
  | 7, h => obtain ⟨_, e⟩ := nil_some h; cases e
  | 8, h => obtain ⟨_, e⟩ := nil_some h; cases e
  | 9, h => obtain ⟨_, e⟩ := nil_some h; cases e
  | 10, h => obtain ⟨_, e⟩ := nil_some h; cases e
  | 11, h => cases h
  | 12, h => obtain ⟨_, e⟩ := nil_some h; cases e
  | 13, h => obtain ⟨_, e⟩ := nil_some h; cases e
  | 14, h => obtain ⟨_, _, e⟩ := one_some h; cases e
  | 15, h => obtain ⟨_, _, e⟩ := one_some h; cases e
  | 16, h => obtain ⟨_, _, _, e⟩ := two_some h; cases e
  | 17, h => obtain ⟨_, _, e⟩ := one_some h; cases e
  | 18, h => obtain ⟨_, e⟩ := nil_some h; cases e
  | 19, h => obtain ⟨_, e⟩ := nil_some h; cases e
  | 20, h => obtain ⟨_, _, e⟩ := one_some h; cases e
  | 21, h => obtain ⟨_, e⟩ := nil_some h; cases e
  | 22, h => obtain ⟨_, e⟩ := nil_some h; cases e
  | n + 23, h => cases h
theorem callP_0 {ns : List Nat} {c : Call} (h : callP 0 ns = some c) : c = .begin_ ns := by
  cases h
  rfl
theorem ok_answer_call (T : Txt K mg A) (G : FnOk P w K mg base CX0 8 A.f_answer_look A.d_answer_look ["road", "call", "given"] (spLk A)) : FnOk P w K mg base CX0 9 A.f_answer_call A.d_answer_call ["road", "call", "given"] (spCall A) := by
  refine T.F_answer_call.ok sc_answer_call (fun vs H Q E h => ?_) (fun cdv B outer s H vs Q E hr h => ?_)
  · obtain ⟨_, _, _, _, _, _, _, _, _, rfl, _⟩ := h
    rfl
  · obtain ⟨r, dx, g, t, gv, st, p, ns, c, rfl, S, hS, hc, k⟩ := h
    obtain ⟨b, R⟩ := S.road
    have h1 := R.ins
    have n1 : (rf g t b.grade b.cutp b.fillp).lookup ("begin" : Str) = none := rf_no (by decide +kernel)
    have n2 : (rf g t b.grade b.cutp b.fillp).lookup ("begun" : Str) = none := rf_no (by decide +kernel)
    refine ⟨_, (pss_cons (ps_if (pt_cmpR op_eq (pv 1) (pe_gi T.c_BEGIN rfl) (nomark _))
      (pss_one (ps_ret (pe_meth (pv 0) T.cl_Road T.x_Road_begin (ok_Road_begin T) (hr.mono (by decide)) T.b_Road_begin .nil pass0 (pa_cons (pv 2) pa_nil))))
      pss_nil)
      (pss_cons (ps_if (pt_not (pt_val (pe_meth0 (pv 0) T.cl_Road T.x_Road_begun (ok_Road_begun T) (hr.mono (by decide)) T.b_Road_begun .nil pass0)))
      (pss_one (ps_ret (pe_lst (pa_cons (pe_gi T.c_NOT_BEGUN rfl) pa_nil))))
      pss_nil)
      (pss_cons (ps_if (pt_cmpR op_le (pv 1) (pe_gi T.c_FREE rfl) (nomark _))
      (pss_one (ps_ret (pe_call (ok_answer_change T) (hr.mono (by decide)) rfl T.m_answer_change T.F_answer_change.kp T.b_answer_change .nil pass0 (pa_cons (pv 0) (pa_cons (pv 1) (pa_cons (pv 2) pa_nil))))))
      pss_nil)
      (pss_one (ps_ret (pe_call G (hr.mono (by decide)) rfl T.m_answer_look T.F_answer_look.kp T.b_answer_look .nil pass0 (pa_cons (pv 0) (pa_cons (pv 1) (pa_cons (pv 2) pa_nil))))))))), ?_⟩
    simp_arith [h1, HO.ins.injEq, n1, n2]
    by_cases hp0 : p = 0
    · subst hp0
      have := callP_0 hc
      subst this
      rw [if_pos (by omega)]
      refine ⟨r, dx, g, t, gv, b, ns, rfl, R, hS, ?_, ?_⟩
      · intro ho l H' hl s1 e1
        have ea : Kv363.act st (.begin_ ns) = (st, Kv363.say (-22)) := by
          cases st with
          | none =>
            show (if ((Kv363.begun [0, 0]).does (.begin_ ns)).2.ret < 0 then (none, ((Kv363.begun [0, 0]).does (.begin_ ns)).2) else _) = _
            have : (Kv363.begun [0, 0]).does (.begin_ ns) = (Kv363.begun [0, 0], Kv363.say (-22)) := if_pos ho
            rw [this]
            rfl
          | some a =>
            show (some (a.does (.begin_ ns)).1, (a.does (.begin_ ns)).2) = _
            have : a.does (.begin_ ns) = (a, Kv363.say (-22)) := if_pos ho
            rw [this]
        rw [ea] at k
        exact k l H' g t hl (S.keep fun b o e _ => s1 b o e) (.inl rfl) (.inl rfl) (fun b o e _ _ _ => s1 b o e) e1
      · intro ho l g' t' H' hl hg' ht' R' f' e'
        have no : ¬ Kv363.okGround ns = false := by rw [ho]; simp
        have ea : Kv363.act st (.begin_ ns) = (some (Kv363.begun ns), Kv363.say (ns.length : Nat)) := by
          cases st with
          | none =>
            show (if ((Kv363.begun [0, 0]).does (.begin_ ns)).2.ret < 0 then (none, ((Kv363.begun [0, 0]).does (.begin_ ns)).2) else (some ((Kv363.begun [0, 0]).does (.begin_ ns)).1, ((Kv363.begun [0, 0]).does (.begin_ ns)).2)) = _
            have : (Kv363.begun [0, 0]).does (.begin_ ns) = (Kv363.begun ns, Kv363.say (ns.length : Nat)) := if_neg no
            rw [this, if_neg]
            show ¬ ((ns.length : Nat) : Int) < 0
            omega
          | some a =>
            show (some (a.does (.begin_ ns)).1, (a.does (.begin_ ns)).2) = _
            have : a.does (.begin_ ns) = (Kv363.begun ns, Kv363.say (ns.length : Nat)) := if_neg no
            rw [this]
        rw [ea] at k
        exact k l H' g' t' hl ⟨R', WF.begun ho⟩ (.inr hg') (.inr ht') (fun b o e b1 _ _ => f' b o e b1) e'
    · rw [if_neg (by omega)]
      refine ⟨dx, g, t, b, R, ?_⟩
      cases st with
      | none =>
        have S : RoadAt A.C_Road H r dx g t blank := S
        have hb : b.ground = [] := by
          have e := S.gr.symm.trans R.gr
          cases hz : b.ground with
          | nil => rfl
          | cons x l => rw [hz] at e; cases e
        have ea : Kv363.act none c = (none, Kv363.say (-11)) := by
          cases c with
          | begin_ g0 =>
            exact absurd (callP_begin hc) hp0
          | _ => rfl
        rw [ea] at k
        rw [hb]
        simp_arith [List.length_nil, Nat.lt_irrefl]
        refine ⟨by decide, fun l hl => ?_⟩
        have s1 : Same H (upd H l (.lst [.int (-11)])) := (Same.refl H).upd hl
        exact k l _ g t hl (S.same s1) (.inl rfl) (.inl rfl) (fun b o e _ _ _ => s1 b o e) (by rw [upd_same]; rfl)
      | some a =>
        obtain ⟨Ra, W⟩ := S
        have hlen : b.ground.length = a.ground.length := by
          have e := Ra.gr.symm.trans R.gr
          have e : a.ground.map nv = b.ground.map nv := HO.lst.inj (Option.some.inj e)
          have := congrArg List.length e
          rw [List.length_map, List.length_map] at this
          exact this.symm
        have h2 := W.two
        have ea : Kv363.act (some a) c = (some (a.does c).1, (a.does c).2) := rfl
        rw [ea] at k
        rw [if_pos (by omega)]
        by_cases hp6 : p ≤ 6
        · rw [if_pos (by omega)]
          exact ⟨r, dx, g, t, gv, a, p, ns, c, rfl, Ra, W, hS, hc, by omega, hp6, fun l H' hl R' F e => k l H' g t hl ⟨R', W.does c⟩ (.inl rfl) (.inl rfl) F e⟩
        · rw [if_neg (by omega)]
          refine ⟨r, dx, g, t, gv, a, p, ns, c, rfl, Ra, W, hS, hc, by omega, fun l H' hl s1 e => k l H' g t hl ⟨?_, W.does c⟩ (.inl rfl) (.inl rfl) (fun b o e _ _ _ => s1 b o e) e⟩
          show RoadAt A.C_Road H' r dx g t (a.does c).1
          rw [look_same hc (by omega)]
          exact Ra.same s1
end
end LL

set_option Elab.async false
set_option linter.all false
set_option maxRecDepth 100000
set_option maxHeartbeats 4000000
open L2 in
local macro_rules | `(tactic| simp_arith [$ts,*]) => `(tactic| simp (config := { decide := false, zeta := true }) only [tSeq, tNext, tRet, tIfS, tAsg, tDrop, gName, tVar, tC, tOp, tUn, tChain, tTest, tB, tAnd, tOr, tNot, tAndV, tOrV, tNotV, tIf, rI0, rI, rU, rEq, rNe, tCB, tCons, tFor_eq, tLc_eq, iRng1, iRng2, iRng3, iList, iZip, iEnum, tFld, rIxL, rIxT, rSlL, tSl, tPart, tNoPart, tLst, gTup, gCons, gNil, gSub, rSetL, sFld, tMeth, tMake, tBM, tBM0, rAppend, rExtend, rInsert0, rCat, rAll, rAny, rSum, rMax, rMin, tAug, ipI, tNil, tCall, scal, start, List.map_cons, List.map_nil, List.length_cons, List.length_nil, List.replicate_succ, List.replicate_zero, Nat.reduceSub, Nat.reduceAdd, Nat.add_sub_cancel, Nat.sub_self, List.set, List.append_nil, List.cons_append, List.nil_append, List.append_eq,
  List.getElem?_cons_zero, List.getElem?_cons_succ, Option.some.injEq, V.int.injEq, V.bl.injEq, V.ref.injEq, List.cons.injEq, and_true, true_and, exists_eq_left, exists_eq_left', exists_and_left, exists_eq, exists_const, decide_eq_true_eq, Bool.not_eq_true', decide_eq_false_iff_not, reduceCtorEq, and_assoc, cxK, if_true, if_false, exists_eq', ite_not, $ts,*])
namespace L2
open PySem PySem.Spec PyProof.Rows
theorem fm_snoc {f : Nat → Option V} (i : Nat) : (List.range (i + 1)).filterMap f = (List.range i).filterMap f ++ (f i).toList := by
  rw [List.range_succ, List.filterMap_append]
  cases h : f i <;> simp [h]
theorem fm_len {f : Nat → Option V} (i : Nat) : ((List.range i).filterMap f).length ≤ i := by
  have := List.length_filterMap_le f (List.range i)
  rw [List.length_range] at this
  exact this
section
variable {K : PySem.W.Frag} {g : TG} {tt : TT} {te : TE} {vs : List Nat} {σ : St} {H : Hp} {Q : VK}
/-- [e for x in range(lo, lo + n) if t] -/
theorem lcK_rangeF {lo : Int} {n : Nat} (f : Nat → Option V) (hsz : n ≤ sizeLine)
    (hs : ∀ (i : Nat) (H' : Hp) (R : VK) (N : Hp → Prop), i < n → Same H H' → (∀ y H4, f i = some y → Same H' H4 → R y H4) → (∀ H3, f i = none → Same H' H3 → N H3) →
      g (.int (lo + i)) (wipe σ vs) H' fun σ2 H2 => wipe σ2 vs = wipe σ vs ∧ tt σ2 H2 fun b H3 => if b = true then te σ2 H3 R else N H3)
    (k : ∀ D H', H D = none → Same H H' → H' D = some (.lst ((List.range n).filterMap f)) → Q (.ref D) H') : LcK (Itr lo n) g tt te vs σ H Q := by
  intro D hD
  refine ⟨fun i m H' => m = n - i ∧ i ≤ n ∧ Same H H' ∧ H' D = some (.lst ((List.range i).filterMap f)), ⟨_, rfl, Nat.zero_le _, (Same.refl H).upd hD, upd_same⟩, ?_⟩
  rintro i m H' ⟨rfl, hi, s1, e1⟩
  by_cases hlt : i < n
  · refine .inr ⟨hlt, fun H'' => Same H H'' ∧ H'' D = some (.lst ((List.range (i + 1)).filterMap f)), fun H'' p' => ⟨n - (i + 1), by omega, rfl, hlt, p'⟩, ?_⟩
    rintro v H2 ⟨rfl, rfl⟩
    refine hs i H2 _ _ hlt s1 ?_ ?_
    · intro y H4 hy s4
      refine ⟨_, s4 _ _ e1, ?_, (s1.trans s4).upd hD, ?_⟩
      · have := fm_len (f := f) i
        omega
      · rw [upd_same, fm_snoc, hy]
        rfl
    · intro H3 hn s3
      refine ⟨s1.trans s3, ?_⟩
      rw [fm_snoc, hn, Option.toList_none, List.append_nil]
      exact s3 _ _ e1
  · have e : i = n := by omega
    subst e
    exact .inl ⟨Nat.le_refl _, k D H' hD s1 e1⟩
/-- [e for i, x in enumerate(list) if t] -/
theorem lcK_enumF {a : Addr} {xs : List V} (f : Nat → Option V) (hx : SqL K H a xs) (hsz : xs.length ≤ sizeLine)
    (hs : ∀ (i : Nat) (x : V) (T : Addr) (H' : Hp) (R : VK) (N : Hp → Prop), xs[i]? = some x → Same H H' → H' T = some (.tup [.int (i : Nat), x]) → (∀ y H4, f i = some y → Same H' H4 → R y H4) → (∀ H3, f i = none → Same H' H3 → N H3) →
      g (.ref T) (wipe σ vs) H' fun σ2 H2 => wipe σ2 vs = wipe σ vs ∧ tt σ2 H2 fun b H3 => if b = true then te σ2 H3 R else N H3)
    (k : ∀ D H', H D = none → Same H H' → H' D = some (.lst ((List.range xs.length).filterMap f)) → Q (.ref D) H') : LcK (Ite K a) g tt te vs σ H Q := by
  intro D hD
  refine ⟨fun i m H' => m = xs.length - i ∧ i ≤ xs.length ∧ Same H H' ∧ H' D = some (.lst ((List.range i).filterMap f)), ⟨_, rfl, Nat.zero_le _, (Same.refl H).upd hD, upd_same⟩, ?_⟩
  rintro i m H' ⟨rfl, hi, s1, e1⟩
  by_cases hlt : i < xs.length
  · refine .inr ⟨⟨xs, xs[i]'hlt, s1.seq hx, List.getElem?_eq_getElem _⟩, fun H'' => Same H H'' ∧ H'' D = some (.lst ((List.range (i + 1)).filterMap f)), fun H'' p' => ⟨xs.length - (i + 1), by omega, rfl, hlt, p'⟩, ?_⟩
    rintro v H2 ⟨T, x, rfl, hT, rfl, h3⟩
    have nTD : D ≠ T := ne_of_none e1 hT
    have s2 : Same H (upd H' T (.tup [.int (i : Nat), x])) := fun b u e => by
      rw [upd_ne (ne_of_none (s1 _ _ e) hT)]
      exact s1 _ _ e
    have e2 : (upd H' T (.tup [.int (i : Nat), x])) D = some (.lst ((List.range i).filterMap f)) := by rw [upd_ne nTD]; exact e1
    refine hs i x T _ _ _ (h3 xs (s1.seq hx)) s2 upd_same ?_ ?_
    · intro y H4 hy s4
      refine ⟨_, s4 _ _ e2, ?_, (s2.trans s4).upd hD, ?_⟩
      · have := fm_len (f := f) i
        omega
      · rw [upd_same, fm_snoc, hy]
        rfl
    · intro H3 hn s3
      refine ⟨s2.trans s3, ?_⟩
      rw [fm_snoc, hn, Option.toList_none, List.append_nil]
      exact s3 _ _ e2
  · have e : i = xs.length := by omega
    subst e
    exact .inl ⟨⟨xs, s1.seq hx, Nat.le_refl _⟩, k D H' hD s1 e1⟩
end
end L2
namespace LL
open PySem PySem.Spec PyProof.Rows L2
open Kv363 (Abs okFix Best Call gap)
section
variable {P : Program} {w : World} {K : PySem.W.Frag} {mg : Str → Option Value} {base : Heap} {A : Ad}
def spToldS (A : Ad) : Sp := fun vs H Q _ => ∃ (r dx g t : Addr) (a : Abs), vs = [.ref r] ∧ RoadAt A.C_Road H r dx g t a ∧ WF a ∧ ∀ l H', H l = none → Same H H' → H' l = some (.lst ((toldS a).map nv)) → Q (.ref l) H'
theorem toldS_map (a : Abs) : (toldS a).map nv = (List.range a.fix.length).filterMap fun i => (a.fix.getD i none).map fun _ => nv i := by
  rw [toldS_eq, List.map_filterMap]
  congr 1
  funext i
  cases a.fix.getD i none <;> rfl
theorem ok_Road_told_stations (T : Txt K mg A) : FnOk P w K mg base CX0 1 A.f_Road_told_stations A.d_Road_told_stations ["self"] (spToldS A) := by
  refine T.F_Road_told_stations.ok sc_Road_told_stations (fun vs H Q E h => ?_) (fun cdv B outer s H vs Q E hr h => ?_)
  · obtain ⟨_, _, _, _, _, rfl, _⟩ := h
    rfl
  · obtain ⟨r, dx, g, t, a, rfl, R, W, k⟩ := h
    have h1 := R.ins
    refine ⟨_, (pss_one (ps_ret (pe_lc (own := [("station", 1), ("height", 2)]) rfl sc_Road_told_stations.nd (pi_enum rfl T.n_enumerate (pa_cons (pe_fld (pv 0) rfl) pa_nil)) (blkOk_by (N := ["self", "station", "height"]) (sc := defScope s_Road_told_stations) (by decide +kernel)) (fun _ _ _ _ _ => (pg_tupK (K := K) (n := 2) rfl rfl (pgs_cons (pg_name (i := 1) sc_Road_told_stations.nd rfl (by first | exact Or.inl rfl | exact Or.inr rfl)) (pgs_cons (pg_name (i := 2) sc_Road_told_stations.nd rfl (by first | exact Or.inl rfl | exact Or.inr rfl)) pgs_nil)))) (fun _ _ _ _ _ => pts_one (pt_cmpR op_notN (pv 2) pe_non (nomark _))) (fun _ _ _ _ _ => (pv 1))))), ?_⟩
    simp_arith [h1, HO.ins.injEq, T.cl_Road, T.a_Road_told, rf_told]
    refine ⟨_, SqL.of R.tl, ?_⟩
    refine lcK_enumF (xs := a.fix.map onv) (fun i => (a.fix.getD i none).map fun _ => nv i) (SqL.of R.tl) ?_ ?_ ?_
    · rw [List.length_map, W.len]
      have := W.top
      exact Nat.le_trans this (by decide)
    · intro i x T' H' R' N hx s1 e1 hR hN
      have hi : i < a.fix.length := by
        have := (List.getElem?_eq_some_iff.mp hx).1
        rwa [List.length_map] at this
      have hx' : x = onv (a.fix.getD i none) := by
        rw [getD_onv hi] at hx
        exact (Option.some.inj hx).symm
      subst hx'
      simp_arith [wipe, e1]
      refine ⟨_, SqT.of e1, rfl, _, _, rfl, _, _, rfl, rfl, ?_⟩
      cases q : a.fix.getD i none with
      | none =>
        rw [if_pos (by rfl)]
        exact hN H' (by rw [q]; rfl) (Same.refl _)
      | some y =>
        rw [if_neg (by intro z; cases z)]
        exact hR _ H' (by rw [q]; rfl) (Same.refl _)
    · rw [List.length_map, ← toldS_map]
      exact k
end
end LL

set_option Elab.async false
set_option linter.all false
set_option maxRecDepth 100000
set_option maxHeartbeats 4000000
open L2 in
local macro_rules | `(tactic| simp_arith [$ts,*]) => `(tactic| simp (config := { decide := false, zeta := true }) only [tSeq, tNext, tRet, tIfS, tAsg, tDrop, gName, tVar, tC, tOp, tUn, tChain, tTest, tB, tAnd, tOr, tNot, tAndV, tOrV, tNotV, tIf, rI0, rI, rU, rEq, rNe, tCB, tCons, tFor_eq, tLc_eq, iRng1, iRng2, iRng3, iList, iZip, iEnum, tFld, rIxL, rIxT, rSlL, tSl, tPart, tNoPart, tLst, gTup, gCons, gNil, gSub, rSetL, sFld, tMeth, tMake, tBM, tBM0, rAppend, rExtend, rInsert0, rCat, rAll, rAny, rSum, rMax, rMin, tAug, ipI, tNil, tCall, scal, start, List.map_cons, List.map_nil, List.length_cons, List.length_nil, List.replicate_succ, List.replicate_zero, Nat.reduceSub, Nat.reduceAdd, Nat.add_sub_cancel, Nat.sub_self, List.set, List.append_nil, List.cons_append, List.nil_append, List.append_eq,
  List.getElem?_cons_zero, List.getElem?_cons_succ, Option.some.injEq, V.int.injEq, V.bl.injEq, V.ref.injEq, List.cons.injEq, and_true, true_and, exists_eq_left, exists_eq_left', exists_and_left, exists_eq, exists_const, decide_eq_true_eq, Bool.not_eq_true', decide_eq_false_iff_not, reduceCtorEq, and_assoc, cxK, if_true, if_false, exists_eq', ite_not, $ts,*])
namespace LL
open PySem PySem.Spec PyProof.Rows L2
open Kv363 (Abs okFix Best Call gap)
def spLook1 (A : Ad) (c : Nat → Call) : Sp := fun vs H Q _ => ∃ (r dx g t : Addr) (a : Abs) (x : Nat), vs = [.ref r, .int x] ∧ RoadAt A.C_Road H r dx g t a ∧ WF a ∧ ∀ l H', H l = none → Same H H' → H' l = some (.lst ((ansOf a (c x)).map V.int)) → Q (.ref l) H'
def spLook2 (A : Ad) (c : Nat → Nat → Call) : Sp := fun vs H Q _ => ∃ (r dx g t : Addr) (a : Abs) (x y : Nat), vs = [.ref r, .int x, .int y] ∧ RoadAt A.C_Road H r dx g t a ∧ WF a ∧ ∀ l H', H l = none → Same H H' → H' l = some (.lst ((ansOf a (c x y)).map V.int)) → Q (.ref l) H'
/-- a new list with the answer -/
theorem newL {H H1 : Hp} {xs : List Int} {Q : VK} (k : ∀ l H', H l = none → Same H H' → H' l = some (.lst (xs.map V.int)) → Q (.ref l) H') (s1 : Same H H1) {ys : List V} (e : ys = xs.map V.int) : ∀ p, H1 p = none → Q (.ref p) (upd H1 p (.lst ys)) := by
  intro p hp
  refine k p _ (s1.free hp) (s1.upd (s1.free hp)) ?_
  rw [upd_same, e]
section
variable {P : Program} {w : World} {K : PySem.W.Frag} {mg : Str → Option Value} {base : Heap} {A : Ad}
theorem ok_station (T : Txt K mg A) : FnOk P w K mg base CX0 2 A.f_station A.d_station ["road", "number"] (spLook1 A .station) := by
  refine T.F_station.ok sc_station (fun vs H Q E h => ?_) (fun cdv B outer s H vs Q E hr h => ?_)
  · obtain ⟨_, _, _, _, _, _, rfl, _⟩ := h
    rfl
  · obtain ⟨r, dx, g, t, a, i, rfl, R, W, k⟩ := h
    have h1 := R.ins
    have n1 : (rf g t a.grade a.cutp a.fillp).lookup ("has_station" : Str) = none := rf_no (by decide +kernel)
    have n2 : (rf g t a.grade a.cutp a.fillp).lookup ("one_more_than_told" : Str) = none := rf_no (by decide +kernel)
    refine ⟨_, (pss_cons (ps_if (pt_not (pt_val (pe_meth (pv 0) T.cl_Road T.x_Road_has_station (ok_Road_has_station T) (hr.mono (by decide)) T.b_Road_has_station .nil pass0 (pa_cons (pv 1) pa_nil))))
      (pss_one (ps_ret (pe_lst (pa_cons (pe_gi T.c_NO_STATION rfl) pa_nil))))
      pss_nil)
      (pss_one (ps_ret (pe_lst (pa_cons (pe_ix ix_list (pe_fld (pv 0) rfl) (pv 1) (fun _ _ => rfl)) (pa_cons (pe_meth (pv 0) T.cl_Road T.x_Road_one_more_than_told (ok_Road_one_more_than_told T) (hr.mono (by decide)) T.b_Road_one_more_than_told .nil pass0 (pa_cons (pv 1) pa_nil)) pa_nil)))))), ?_⟩
    simp_arith [h1, HO.ins.injEq, n1, n2, spTest1, spMore, T.cl_Road, T.a_Road_ground, rf_ground]
    refine ⟨dx, g, t, a, i, rfl, R, W.two, ?_⟩
    by_cases hi : a.n ≤ i
    · rw [if_neg (by omega)]
      have e : a.does (.station i) = (a, Kv363.say (-2)) := if_pos hi
      refine ⟨by decide, newL k (Same.refl H) ?_⟩
      unfold ansOf
      rw [e]
      rfl
    · rw [if_pos (by omega)]
      have hi' : i < a.ground.length := Nat.lt_of_not_le hi
      have e : a.does (.station i) = (a, ⟨(a.ground.getD i 0 : Nat), [match a.fix.getD i none with
        | none => 0
        | some y => y + 1]⟩) := if_neg hi
      refine ⟨_, SqL.of R.gr, _, atI_nat (getD_nv hi'), ?_⟩
      refine ⟨dx, g, t, a, i, rfl, R, by rw [W.len]; exact hi', ?_⟩
      refine ⟨by decide, newL k (Same.refl H) ?_⟩
      unfold ansOf
      rw [e]
      cases a.fix.getD i none <;> rfl
theorem ok_profile (T : Txt K mg A) : FnOk P w K mg base CX0 1 A.f_profile A.d_profile ["road"] (spLook A .profile) := by
  refine T.F_profile.ok sc_profile (fun vs H Q E h => ?_) (fun cdv B outer s H vs Q E hr h => ?_)
  · obtain ⟨_, _, _, _, _, rfl, _⟩ := h
    rfl
  · obtain ⟨r, dx, g, t, a, rfl, R, W, k⟩ := h
    have h1 := R.ins
    refine ⟨_, (pss_one (ps_ret (pe_op op_cat (pe_lst (pa_cons (pe_callB (call_len_seq) (by rfl) T.n_len bo_len (pa_cons (pe_fld (pv 0) rfl) pa_nil)) pa_nil)) (pe_fld (pv 0) rfl)))), ?_⟩
    simp_arith [h1, HO.ins.injEq, T.cl_Road, T.a_Road_ground, rf_ground]
    refine ⟨_, .inl (SqL.of R.gr), by decide, fun q hq => ?_⟩
    have nq : r ≠ q := ne_of_none h1 hq
    have ng : g ≠ q := ne_of_none R.gr hq
    simp_arith [upd_at, nq, h1, HO.ins.injEq, T.cl_Road, T.a_Road_ground, rf_ground]
    refine ⟨_, rfl, _, by rw [if_neg ng]; exact R.gr, ?_, fun l hl => ?_⟩
    · have := W.top
      have hs : (1000 : Nat) + 1 ≤ sizeLine := by decide
      rw [List.length_map]
      show 1 + a.ground.length ≤ sizeLine
      omega
    · obtain ⟨nl, hl⟩ := if_free hl
      refine k l _ hl (((Same.refl H).upd hq).upd hl) ?_
      rw [upd_same]
      unfold ansOf
      simp [Kv363.Abs.does, Kv363.list, Kv363Neutral.row, Kv363Neutral.ints, nv]
theorem ok_state (T : Txt K mg A) : FnOk P w K mg base CX0 2 A.f_state A.d_state ["road"] (spLook A .state) := by
  refine T.F_state.ok sc_state (fun vs H Q E h => ?_) (fun cdv B outer s H vs Q E hr h => ?_)
  · obtain ⟨_, _, _, _, _, rfl, _⟩ := h
    rfl
  · obtain ⟨r, dx, g, t, a, rfl, R, W, k⟩ := h
    have h1 := R.ins
    have n1 : (rf g t a.grade a.cutp a.fillp).lookup ("told_stations" : Str) = none := rf_no (by decide +kernel)
    refine ⟨_, (pss_one (ps_ret (pe_lst (pa_cons pe_int (pa_cons (pe_callB (call_len_seq) (by rfl) T.n_len bo_len (pa_cons (pe_fld (pv 0) rfl) pa_nil)) (pa_cons (pe_fld (pv 0) rfl) (pa_cons (pe_fld (pv 0) rfl) (pa_cons (pe_fld (pv 0) rfl) (pa_cons (pe_callB (call_len_seq) (by rfl) T.n_len bo_len (pa_cons (pe_meth0 (pv 0) T.cl_Road T.x_Road_told_stations (ok_Road_told_stations T) (hr.mono (by decide)) T.b_Road_told_stations .nil pass0) pa_nil)) pa_nil))))))))), ?_⟩
    simp_arith [h1, HO.ins.injEq, n1, T.cl_Road, T.a_Road_ground, T.a_Road_grade, T.a_Road_cut_price, T.a_Road_fill_price, rf_ground, rf_grade, rf_cut, rf_fill, spToldS]
    refine ⟨_, .inl (SqL.of R.gr), ?_⟩
    refine ⟨dx, g, t, a, R, W, fun l H1 hl s1 e1 => ?_⟩
    refine ⟨_, .inl (SqL.of e1), by decide, newL k s1 ?_⟩
    unfold ansOf
    simp [Kv363.Abs.does, Kv363Neutral.row, Kv363Neutral.ints, Kv363.Abs.n, toldS]
end
end LL

set_option Elab.async false
set_option linter.all false
set_option maxRecDepth 100000
set_option maxHeartbeats 4000000
open L2 in
local macro_rules | `(tactic| simp_arith [$ts,*]) => `(tactic| simp (config := { decide := false, zeta := true }) only [tSeq, tNext, tRet, tIfS, tAsg, tDrop, gName, tVar, tC, tOp, tUn, tChain, tTest, tB, tAnd, tOr, tNot, tAndV, tOrV, tNotV, tIf, rI0, rI, rU, rEq, rNe, tCB, tCons, tFor_eq, tLc_eq, iRng1, iRng2, iRng3, iList, iZip, iEnum, tFld, rIxL, rIxT, rSlL, tSl, tPart, tNoPart, tLst, gTup, gCons, gNil, gSub, rSetL, sFld, tMeth, tMake, tBM, tBM0, rAppend, rExtend, rInsert0, rCat, rAll, rAny, rSum, rMax, rMin, tAug, ipI, tNil, tCall, scal, start, List.map_cons, List.map_nil, List.length_cons, List.length_nil, List.replicate_succ, List.replicate_zero, Nat.reduceSub, Nat.reduceAdd, Nat.add_sub_cancel, Nat.sub_self, List.set, List.append_nil, List.cons_append, List.nil_append, List.append_eq,
  List.getElem?_cons_zero, List.getElem?_cons_succ, Option.some.injEq, V.int.injEq, V.bl.injEq, V.ref.injEq, List.cons.injEq, and_true, true_and, exists_eq_left, exists_eq_left', exists_and_left, exists_eq, exists_const, decide_eq_true_eq, Bool.not_eq_true', decide_eq_false_iff_not, reduceCtorEq, and_assoc, cxK, if_true, if_false, exists_eq', ite_not, $ts,*])
namespace LL
open PySem PySem.Spec PyProof.Rows L2
open Kv363 (Abs okFix Best Call gap)
section
variable {P : Program} {w : World} {K : PySem.W.Frag} {mg : Str → Option Value} {base : Heap} {A : Ad}
theorem gap_abs (x y : Nat) : (if (x : Int) - (y : Int) < 0 then -((x : Int) - (y : Int)) else (x : Int) - (y : Int)) = ((gap x y : Nat) : Int) := by
  unfold gap
  split <;> omega
def spFar1 (A : Ad) : Sp := fun vs H Q _ => ∃ (r dx g t : Addr) (a : Abs) (i j k x y : Nat), vs = [.ref r, .int i, .int j, .int k] ∧ RoadAt A.C_Road H r dx g t a ∧ a.fix.getD i none = some x ∧ a.fix.getD j none = some y ∧ i < j ∧ j ≤ 1000 ∧ k ≤ 1000 ∧ Q (.bl (decide (k * (j - i) < gap x y))) H
theorem fix_at {a : Abs} {i x : Nat} (e : a.fix.getD i none = some x) : (a.fix.map onv)[i]? = some (V.int x) := by
  have h := getD_lt e
  rw [getD_onv h, e]
  rfl
theorem ok_is_too_far (T : Txt K mg A) : FnOk P w K mg base CX0 1 A.f_is_too_far A.d_is_too_far ["road", "lesser", "greater", "grade"] (spFar1 A) := by
  refine T.F_is_too_far.ok sc_is_too_far (fun vs H Q E h => ?_) (fun cdv B outer s H vs Q E hr h => ?_)
  · obtain ⟨_, _, _, _, _, _, _, _, _, _, rfl, _⟩ := h
    rfl
  · obtain ⟨r, dx, g, t, a, i, j, k, x, y, rfl, R, hx, hy, hij, hj, hk, q⟩ := h
    have h1 := R.ins
    refine ⟨_, (pss_one (ps_ret (pe_cmpR op_gt (pe_callB (call_abs) (by rfl) T.n_abs bo_abs (pa_cons (pe_op op_sub (pe_ix ix_list (pe_fld (pv 0) rfl) (pv 1) (fun _ _ => rfl)) (pe_ix ix_list (pe_fld (pv 0) rfl) (pv 2) (fun _ _ => rfl))) pa_nil)) (pe_op op_mul (pv 3) (pe_op op_sub (pv 2) (pv 1))) (nomark _)))), ?_⟩
    simp_arith [h1, HO.ins.injEq, T.cl_Road, T.a_Road_told, rf_told]
    refine ⟨_, SqL.of R.tl, _, atI_nat (fix_at hx), _, SqL.of R.tl, _, atI_nat (fix_at hy), ?_⟩
    simp_arith [gap_abs]
    refine ⟨.inl ⟨by omega, by omega⟩, ?_⟩
    have e : decide ((k : Int) * ((j : Int) - (i : Int)) < ((gap x y : Nat) : Int)) = decide (k * (j - i) < gap x y) := by
      refine decide_eq_decide.mpr ?_
      have : (j : Int) - (i : Int) = ((j - i : Nat) : Int) := by omega
      rw [this, ← Int.natCast_mul]
      omega
    rw [e]
    exact q
def spReach (A : Ad) : Sp := fun vs H Q _ => ∃ (r dx g t : Addr) (a : Abs) (i j : Nat), vs = [.ref r, .int i, .int j] ∧ RoadAt A.C_Road H r dx g t a ∧ i ≤ 1000 ∧ j ≤ 1000 ∧ a.grade ≤ 1000 ∧ Q (.int (a.grade * gap i j : Nat)) H
theorem ok_reach (T : Txt K mg A) : FnOk P w K mg base CX0 1 A.f_reach A.d_reach ["road", "station", "other"] (spReach A) := by
  refine T.F_reach.ok sc_reach (fun vs H Q E h => ?_) (fun cdv B outer s H vs Q E hr h => ?_)
  · obtain ⟨_, _, _, _, _, _, _, rfl, _⟩ := h
    rfl
  · obtain ⟨r, dx, g, t, a, i, j, rfl, R, hi, hj, hk, q⟩ := h
    have h1 := R.ins
    refine ⟨_, (pss_one (ps_ret (pe_op op_mul (pe_fld (pv 0) rfl) (pe_callB (call_abs) (by rfl) T.n_abs bo_abs (pa_cons (pe_op op_sub (pv 1) (pv 2)) pa_nil))))), ?_⟩
    simp_arith [h1, HO.ins.injEq, T.cl_Road, T.a_Road_grade, rf_grade, gap_abs]
    refine ⟨.inl ⟨by omega, by omega⟩, ?_⟩
    rw [← Int.natCast_mul]
    exact q
theorem outer_cons {a : Abs} {k n : Nat} {m : List Nat} : outer_ a k (n :: m) = (inner a k n (toldS a)).or (outer_ a k m) := by
  unfold outer_
  rw [List.findSome?_cons]
  cases inner a k n (toldS a) <;> rfl
theorem inner_cons {a : Abs} {k n m : Nat} {l : List Nat} : inner a k n (m :: l) = if farAt a k n m then some (n, m) else inner a k n l := by
  unfold inner
  rw [List.findSome?_cons]
  cases farAt a k n m <;> rfl
theorem drop_at {l : List Nat} {i n : Nat} (h : l[i]? = some n) : l.drop i = n :: l.drop (i + 1) := by
  obtain ⟨hi, rfl⟩ := List.getElem?_eq_some_iff.mp h
  exact List.drop_eq_getElem_cons hi
theorem told_lt {a : Abs} (W : WF a) {i h : Nat} (e : a.fix.getD i none = some h) : i < a.ground.length := by
  have := getD_lt e
  rw [W.len] at this
  exact this
def spFar (A : Ad) : Sp := fun vs H Q _ => ∃ (r dx g t : Addr) (a : Abs) (k : Nat), vs = [.ref r, .int k] ∧ RoadAt A.C_Road H r dx g t a ∧ WF a ∧ k ≤ 1000 ∧ ((a.withK k).why = none → ∀ H', Same H H' → Q .non H') ∧
  (∀ i j, (a.withK k).why = some (i, j) → ∀ l H', H l = none → Same H H' → H' l = some (.lst [.int (i : Nat), .int (j : Nat)]) → Q (.ref l) H')
theorem ok_first_too_far (T : Txt K mg A) : FnOk P w K mg base CX0 2 A.f_first_too_far A.d_first_too_far ["road", "grade"] (spFar A) := by
  refine T.F_first_too_far.ok sc_first_too_far (fun vs H Q E h => ?_) (fun cdv B outer s H vs Q E hr h => ?_)
  · obtain ⟨_, _, _, _, _, _, rfl, _⟩ := h
    rfl
  · obtain ⟨r, dx, g, t, a, k, rfl, R, W, hk, k1, k2⟩ := h
    have h1 := R.ins
    have n1 : (rf g t a.grade a.cutp a.fillp).lookup ("told_stations" : Str) = none := rf_no (by decide +kernel)
    refine ⟨_, (pss_cons (ps_set (i := 2) sc_first_too_far.nd rfl (by first | exact Or.inl rfl | exact Or.inr rfl) (pe_meth0 (pv 0) T.cl_Road T.x_Road_told_stations (ok_Road_told_stations T) (hr.mono (by decide)) T.b_Road_told_stations .nil pass0))
      (pss_cons (ps_for PassesOwn.never rfl (pi_list (pv 2)) (pg_name (i := 3) sc_first_too_far.nd rfl (by first | exact Or.inl rfl | exact Or.inr rfl))
      (pss_one (ps_for PassesOwn.never rfl (pi_list (pv 2)) (pg_name (i := 4) sc_first_too_far.nd rfl (by first | exact Or.inl rfl | exact Or.inr rfl))
      (pss_one (ps_if (PW.pt (pw_and (pt_cmpR op_lt (pv 3) (pv 4) (nomark _)) (pw_and1 (pt_val (pe_call (ok_is_too_far T) (hr.mono (by decide)) rfl T.m_is_too_far T.F_is_too_far.kp T.b_is_too_far .nil pass0 (pa_cons (pv 0) (pa_cons (pv 3) (pa_cons (pv 4) (pa_cons (pv 1) pa_nil)))))))))
      (pss_one (ps_ret (pe_lst (pa_cons (pv 3) (pa_cons (pv 4) pa_nil)))))
      pss_nil)))))
      (pss_one (ps_ret pe_non)))), ?_⟩
    simp_arith [h1, HO.ins.injEq, n1, spToldS]
    refine ⟨dx, g, t, a, R, W, fun l H1 hl s1 e1 => ?_⟩
    refine ⟨⟨_, SqL.of e1⟩, ?_⟩
    refine forK_list (xs := (toldS a).map nv) (fun i σ H' => ∃ v3 v4, σ = [some (.ref r), some (.int k), some (.ref l), v3, v4] ∧ Same H1 H' ∧ outer_ a k ((toldS a).drop i) = (a.withK k).why) ⟨none, none, rfl, Same.refl _, by rw [List.drop_zero, why_outer]⟩ (fun i σ H' _ h => by obtain ⟨_, _, _, s, _⟩ := h; exact s.seq (SqL.of e1)) ?_ ?_
    · rintro i x σ H' hx ⟨v3, v4, rfl, s2, eq⟩
      obtain ⟨n, hn, rfl⟩ := map_at hx
      simp_arith []
      refine ⟨⟨_, s2.seq (SqL.of e1)⟩, ?_⟩
      refine forK_list (xs := (toldS a).map nv) (fun j σ H' => ∃ v4, σ = [some (.ref r), some (.int k), some (.ref l), some (nv n), v4] ∧ Same H1 H' ∧ (inner a k n ((toldS a).drop j)).or (outer_ a k ((toldS a).drop (i + 1))) = (a.withK k).why) ⟨v4, rfl, s2, by rw [List.drop_zero, ← outer_cons, ← drop_at hn]; exact eq⟩ (fun i σ H' _ h => by obtain ⟨_, _, s, _⟩ := h; exact s.seq (SqL.of e1)) ?_ ?_
      · rintro j y σ H2 hy ⟨v4, rfl, s3, eq2⟩
        obtain ⟨m, hm, rfl⟩ := map_at hy
        rw [drop_at hm, inner_cons] at eq2
        simp_arith [nv_def, spFar1]
        obtain ⟨x, hx'⟩ := toldS_mem.mp (List.mem_of_getElem? hn)
        obtain ⟨y, hy'⟩ := toldS_mem.mp (List.mem_of_getElem? hm)
        have hmt := told_lt W hy'
        have htop := W.top
        have ef : farAt a k n m = (decide (n < m) && decide (k * (m - n) < gap x y)) := by
          unfold farAt
          rw [hx', hy']
          rfl
        rw [ef] at eq2
        by_cases c : n < m
        · rw [if_pos (by omega)]
          refine ⟨dx, g, t, a, n, rfl, m, rfl, k, rfl, R.same (s1.trans s3), x, hx', y, hy', c, by omega, hk, ?_⟩
          by_cases d : k * (m - n) < gap x y
          · rw [if_pos d]
            rw [decide_eq_true c, decide_eq_true d] at eq2
            refine ⟨by decide, fun p hp => ?_⟩
            exact k2 n m eq2.symm p _ ((s1.trans s3).free hp) ((s1.trans s3).upd ((s1.trans s3).free hp)) upd_same
          · rw [if_neg d]
            rw [decide_eq_false d, Bool.and_false] at eq2
            exact ⟨s3, eq2⟩
        · rw [if_neg (by omega)]
          rw [decide_eq_false c] at eq2
          exact ⟨s3, eq2⟩
      · rintro σ H2 ⟨v4, rfl, s3, eq2⟩
        rw [List.length_map, List.drop_length] at eq2
        exact ⟨_, _, rfl, s3, eq2⟩
    · rintro σ H' ⟨v3, v4, rfl, s2, eq⟩
      rw [List.length_map, List.drop_length] at eq
      simp_arith []
      exact k1 eq.symm H' (s1.trans s2)
theorem withK_self (a : Abs) : a.withK a.grade = a := rfl
theorem ok_why (T : Txt K mg A) : FnOk P w K mg base CX0 3 A.f_why A.d_why ["road"] (spLook A .why) := by
  refine T.F_why.ok sc_why (fun vs H Q E h => ?_) (fun cdv B outer s H vs Q E hr h => ?_)
  · obtain ⟨_, _, _, _, _, rfl, _⟩ := h
    rfl
  · obtain ⟨r, dx, g, t, a, rfl, R, W, k⟩ := h
    have h1 := R.ins
    have hg := W.k
    refine ⟨_, (pss_cons (ps_set (i := 1) sc_why.nd rfl (by first | exact Or.inl rfl | exact Or.inr rfl) (pe_call (ok_first_too_far T) (hr.mono (by decide)) rfl T.m_first_too_far T.F_first_too_far.kp T.b_first_too_far .nil pass0 (pa_cons (pv 0) (pa_cons (pe_fld (pv 0) rfl) pa_nil))))
      (pss_cons (ps_if (pt_cmpR op_isN (pv 1) pe_non (nomark _))
      (pss_one (ps_ret (pe_lst (pa_cons (pe_gi T.c_NONE_TOO_FAR rfl) pa_nil))))
      pss_nil)
      (pss_one (ps_ret (pv 1))))), ?_⟩
    simp_arith [h1, HO.ins.injEq, T.cl_Road, T.a_Road_grade, rf_grade, spFar]
    refine ⟨dx, g, t, a, a.grade, rfl, R, W, by omega, ?_, ?_⟩
    · intro hw H1 s1
      rw [withK_self] at hw
      refine ⟨by decide, newL k s1 ?_⟩
      unfold ansOf
      simp [Kv363.Abs.does, hw, Kv363.say, Kv363Neutral.row, Kv363Neutral.ints]
    · intro i j hw l H1 hl s1 e1
      rw [withK_self] at hw
      refine k l H1 hl s1 ?_
      rw [e1]
      unfold ansOf
      simp [Kv363.Abs.does, hw, Kv363.say, Kv363Neutral.row, Kv363Neutral.ints]
def muK (σ : List (Option V)) : Nat := match σ[1]? with
  | some (some (V.int k)) => 41 - k.toNat
  | _ => 0
theorem muK_at {r : Addr} {n : Int} : muK [some (V.ref r), some (V.int n)] = 41 - n.toNat := rfl
theorem ok_leastgrade (T : Txt K mg A) : FnOk P w K mg base CX0 3 A.f_leastgrade A.d_leastgrade ["road"] (spLook A .leastgrade) := by
  refine T.F_leastgrade.ok sc_leastgrade (fun vs H Q E h => ?_) (fun cdv B outer s H vs Q E hr h => ?_)
  · obtain ⟨_, _, _, _, _, rfl, _⟩ := h
    rfl
  · obtain ⟨r, dx, g, t, a, rfl, R, W, k⟩ := h
    have h1 := R.ins
    refine ⟨_, (pss_cons (ps_set (i := 1) sc_leastgrade.nd rfl (by first | exact Or.inl rfl | exact Or.inr rfl) pe_int)
      (pss_cons (ps_while PassesOwn.never (pt_cmpR op_notN (pe_call (ok_first_too_far T) (hr.mono (by decide)) rfl T.m_first_too_far T.F_first_too_far.kp T.b_first_too_far .nil pass0 (pa_cons (pv 0) (pa_cons (pv 1) pa_nil))) pe_non (nomark _))
      (pss_one (ps_aug (i := 1) sc_leastgrade.nd rfl (by first | exact Or.inl rfl | exact Or.inr rfl) pe_int ip_add)))
      (pss_one (ps_ret (pe_lst (pa_cons (pv 1) pa_nil)))))), ?_⟩
    simp_arith []
    refine while_by (fun σ H' => ∃ n : Nat, σ = [some (.ref r), some (.int n)] ∧ n ≤ 40 ∧ Same H H' ∧ ∀ j, j < n → (a.withK j).why ≠ none) (fun σ _ => muK σ) ⟨0, rfl, by omega, Same.refl _, fun j h => absurd h (by omega)⟩ ?_ ?_
    · rintro σ H' ⟨n, rfl, hn, s1, hlt⟩
      simp_arith [spFar]
      refine ⟨dx, g, t, a, n, rfl, R.same s1, W, by omega, ?_, ?_⟩
      · intro hw H2 s2
        refine ⟨by decide, newL k (s1.trans s2) ?_⟩
        have e : a.does .leastgrade = (a, Kv363.say (a.leastK : Nat)) := rfl
        unfold ansOf
        rw [e, leastK_of hn hw hlt]
        rfl
      · intro i j hw l H2 hl s2 e2
        have hn40 : n ≠ 40 := fun z => by
          rw [z, far_40 W] at hw
          cases hw
        refine ⟨⟨n + 1, by omega, by omega, s1.trans s2, fun j' hj' => ?_⟩, ?_⟩
        · by_cases c : j' = n
          · subst c
            intro z
            rw [z] at hw
            cases hw
          · exact hlt j' (by omega)
        · rw [muK_at, muK_at]
          omega
    · intro σ H' Q1 Q2 hq
      simp_arith [spFar]
      rintro ⟨v, p1, v1, p2, r1, p3, x, x1, x2, x3, x4, p4, p5, p6, p7, p8, p9⟩
      exact ⟨v, p1, v1, p2, r1, p3, x, x1, x2, x3, x4, p4, p5, p6, p7, fun z H1 s1 => hq _ _ (p8 z H1 s1), fun i j z l H1 y1 y2 y3 => hq _ _ (p9 i j z l H1 y1 y2 y3)⟩
def spEdge (A : Ad) (f : Abs → Nat → Nat) : Sp := fun vs H Q _ => ∃ (r dx g t : Addr) (a : Abs) (i : Nat), vs = [.ref r, .int i] ∧ RoadAt A.C_Road H r dx g t a ∧ WF a ∧ i ≤ 1000 ∧ ∀ H', Same H H' → Q (.int (f a i : Nat)) H'
theorem toldS_len {a : Abs} (W : WF a) : (toldS a).length ≤ 12 := by
  rw [toldS_eq]
  have := List.length_filterMap_le (fun i => (a.fix.getD i none).map fun _ => i) (List.range a.fix.length)
  rw [List.length_range] at this
  exact Nat.le_trans this (W.len ▸ W.top)
theorem toldS_pos {a : Abs} (W : WF a) : 0 < (toldS a).length := by
  obtain ⟨h, e⟩ := Option.isSome_iff_exists.mp W.first
  exact List.length_pos_of_mem (toldS_mem.mpr ⟨h, e⟩)
theorem ok_lowest (T : Txt K mg A) : FnOk P w K mg base CX0 2 A.f_lowest A.d_lowest ["road", "station"] (spEdge A Kv363.Abs.low) := by
  refine T.F_lowest.ok sc_lowest (fun vs H Q E h => ?_) (fun cdv B outer s H vs Q E hr h => ?_)
  · obtain ⟨_, _, _, _, _, _, rfl, _⟩ := h
    rfl
  · obtain ⟨r, dx, g, t, a, i, rfl, R, W, hi, k⟩ := h
    have h1 := R.ins
    have n1 : (rf g t a.grade a.cutp a.fillp).lookup ("told_stations" : Str) = none := rf_no (by decide +kernel)
    refine ⟨_, (pss_cons (ps_setLc (own := [("other", 3)]) rfl sc_lowest.nd (i := 2) rfl rfl (sw_true rfl rfl rfl rfl) (pi_list (pe_meth0 (pv 0) T.cl_Road T.x_Road_told_stations (ok_Road_told_stations T) (hr.mono (by decide)) T.b_Road_told_stations .nil pass0)) (blkOk_by (N := ["road", "station", "floors", "other"]) (sc := defScope s_lowest) (by decide +kernel)) (fun _ _ _ _ _ => (pg_name (i := 3) sc_lowest.nd rfl (by first | exact Or.inl rfl | exact Or.inr rfl))) (fun _ _ _ _ _ => pts_nil) (fun _ _ _ _ _ => (pe_op op_sub (pe_ix (ix_listK (K := K) rfl) (pe_fldK (K := K) rfl (pv 0) rfl) (pv 3) (fun _ _ => rfl)) (pe_call (ok_reach T) (hr.mono (by decide)) rfl T.m_reach T.F_reach.kp T.b_reach .nil pass0 (pa_cons (pv 0) (pa_cons (pv 1) (pa_cons (pv 3) pa_nil)))))))
      (pss_one (ps_ret (pe_callB (call_max2 rfl) (by rfl) T.n_max bo_max (pa_cons pe_int (pa_cons (pe_callB (cr_max rfl) (by rfl) T.n_max bo_max (pa_cons (pv 2) pa_nil)) pa_nil)))))), ?_⟩
    simp_arith [h1, HO.ins.injEq, n1, spToldS]
    refine ⟨dx, g, t, a, R, W, fun l H1 hl s1 e1 => ?_⟩
    refine ⟨⟨_, SqL.of e1⟩, ?_⟩
    refine lcK_list (((toldS a).map fun j => ((((a.fix.getD j none).getD 0 : Nat) : Int) - ((a.grade * gap i j : Nat) : Int))).map V.int) (SqL.of e1) (by simp) ?_ ?_ ?_
    · have := toldS_len W
      rw [List.length_map]
      exact Nat.le_trans this (by decide)
    · intro j x y H' R' hx hy s2 kk
      obtain ⟨n, hn, rfl⟩ := map_at hx
      obtain ⟨h, eh⟩ := toldS_mem.mp (List.mem_of_getElem? hn)
      have h2 := (R.same (s1.trans s2)).ins
      rw [List.map_map] at hy
      obtain ⟨n', hn', rfl⟩ := map_at hy
      rw [hn] at hn'
      cases hn'
      have hm := told_lt W eh
      have htop := W.top
      have hk := W.k
      simp_arith [wipe, h2, HO.ins.injEq, T.cl_Road, T.a_Road_told, rf_told, spReach, nv_def]
      refine ⟨_, SqL.of (R.same (s1.trans s2)).tl, _, atI_nat (fix_at eh), dx, g, t, a, i, rfl, n, rfl, R.same (s1.trans s2), hi, by omega, by omega, _, rfl, ?_⟩
      have kk := kk H' (Same.refl _)
      simp only [Function.comp, eh, Option.getD_some] at kk
      exact kk
    · intro D H2 hD s2 e2
      simp_arith []
      refine ⟨_, SqL.of e2, by rw [List.length_map]; exact toldS_pos W, fun m hm hall => ?_⟩
      rw [low_of (a := a) (i := i) ?_ ?_]
      · exact k H2 (s1.trans s2)
      · obtain ⟨j, hj, rfl⟩ := List.mem_map.mp hm
        obtain ⟨h, eh⟩ := toldS_mem.mp hj
        exact ⟨j, h, eh, by rw [eh]; rfl⟩
      · intro j h eh
        have := hall _ (List.mem_map.mpr ⟨j, toldS_mem.mpr ⟨h, eh⟩, rfl⟩)
        rw [eh] at this
        exact this
theorem ok_highest (T : Txt K mg A) : FnOk P w K mg base CX0 2 A.f_highest A.d_highest ["road", "station"] (spEdge A Kv363.Abs.high) := by
  refine T.F_highest.ok sc_highest (fun vs H Q E h => ?_) (fun cdv B outer s H vs Q E hr h => ?_)
  · obtain ⟨_, _, _, _, _, _, rfl, _⟩ := h
    rfl
  · obtain ⟨r, dx, g, t, a, i, rfl, R, W, hi, k⟩ := h
    have h1 := R.ins
    have n1 : (rf g t a.grade a.cutp a.fillp).lookup ("told_stations" : Str) = none := rf_no (by decide +kernel)
    refine ⟨_, (pss_cons (ps_setLc (own := [("other", 3)]) rfl sc_highest.nd (i := 2) rfl rfl (sw_true rfl rfl rfl rfl) (pi_list (pe_meth0 (pv 0) T.cl_Road T.x_Road_told_stations (ok_Road_told_stations T) (hr.mono (by decide)) T.b_Road_told_stations .nil pass0)) (blkOk_by (N := ["road", "station", "ceilings", "other"]) (sc := defScope s_highest) (by decide +kernel)) (fun _ _ _ _ _ => (pg_name (i := 3) sc_highest.nd rfl (by first | exact Or.inl rfl | exact Or.inr rfl))) (fun _ _ _ _ _ => pts_nil) (fun _ _ _ _ _ => (pe_op op_add (pe_ix (ix_listK (K := K) rfl) (pe_fldK (K := K) rfl (pv 0) rfl) (pv 3) (fun _ _ => rfl)) (pe_call (ok_reach T) (hr.mono (by decide)) rfl T.m_reach T.F_reach.kp T.b_reach .nil pass0 (pa_cons (pv 0) (pa_cons (pv 1) (pa_cons (pv 3) pa_nil)))))))
      (pss_one (ps_ret (pe_callB (call_min2 rfl) (by rfl) T.n_min bo_min (pa_cons (pe_gi T.c_HIGHEST rfl) (pa_cons (pe_callB (cr_min rfl) (by rfl) T.n_min bo_min (pa_cons (pv 2) pa_nil)) pa_nil)))))), ?_⟩
    simp_arith [h1, HO.ins.injEq, n1, spToldS]
    refine ⟨dx, g, t, a, R, W, fun l H1 hl s1 e1 => ?_⟩
    refine ⟨⟨_, SqL.of e1⟩, ?_⟩
    refine lcK_list (((toldS a).map fun j => ((((a.fix.getD j none).getD 0 : Nat) : Int) + ((a.grade * gap i j : Nat) : Int))).map V.int) (SqL.of e1) (by simp) ?_ ?_ ?_
    · have := toldS_len W
      rw [List.length_map]
      exact Nat.le_trans this (by decide)
    · intro j x y H' R' hx hy s2 kk
      obtain ⟨n, hn, rfl⟩ := map_at hx
      obtain ⟨h, eh⟩ := toldS_mem.mp (List.mem_of_getElem? hn)
      have h2 := (R.same (s1.trans s2)).ins
      rw [List.map_map] at hy
      obtain ⟨n', hn', rfl⟩ := map_at hy
      rw [hn] at hn'
      cases hn'
      have hm := told_lt W eh
      have htop := W.top
      have hk := W.k
      simp_arith [wipe, h2, HO.ins.injEq, T.cl_Road, T.a_Road_told, rf_told, spReach, nv_def]
      refine ⟨_, SqL.of (R.same (s1.trans s2)).tl, _, atI_nat (fix_at eh), dx, g, t, a, i, rfl, n, rfl, R.same (s1.trans s2), hi, by omega, by omega, _, rfl, ?_⟩
      have kk := kk H' (Same.refl _)
      simp only [Function.comp, eh, Option.getD_some] at kk
      exact kk
    · intro D H2 hD s2 e2
      simp_arith []
      refine ⟨_, SqL.of e2, by rw [List.length_map]; exact toldS_pos W, fun m hm hall => ?_⟩
      rw [high_of (a := a) (i := i) ?_ ?_]
      · exact k H2 (s1.trans s2)
      · obtain ⟨j, hj, rfl⟩ := List.mem_map.mp hm
        obtain ⟨h, eh⟩ := toldS_mem.mp hj
        exact ⟨j, h, eh, by rw [eh]; rfl⟩
      · intro j h eh
        have := hall _ (List.mem_map.mpr ⟨j, toldS_mem.mpr ⟨h, eh⟩, rfl⟩)
        rw [eh] at this
        exact this
theorem ok_between (T : Txt K mg A) : FnOk P w K mg base CX0 3 A.f_between A.d_between ["road", "station"] (spLook1 A .between) := by
  refine T.F_between.ok sc_between (fun vs H Q E h => ?_) (fun cdv B outer s H vs Q E hr h => ?_)
  · obtain ⟨_, _, _, _, _, _, rfl, _⟩ := h
    rfl
  · obtain ⟨r, dx, g, t, a, i, rfl, R, W, k⟩ := h
    have h1 := R.ins
    have n1 : (rf g t a.grade a.cutp a.fillp).lookup ("has_station" : Str) = none := rf_no (by decide +kernel)
    have hg := W.k
    have htop := W.top
    refine ⟨_, (pss_cons (ps_if (pt_not (pt_val (pe_meth (pv 0) T.cl_Road T.x_Road_has_station (ok_Road_has_station T) (hr.mono (by decide)) T.b_Road_has_station .nil pass0 (pa_cons (pv 1) pa_nil))))
      (pss_one (ps_ret (pe_lst (pa_cons (pe_gi T.c_NO_STATION rfl) pa_nil))))
      pss_nil)
      (pss_cons (ps_if (pt_cmpR op_notN (pe_call (ok_first_too_far T) (hr.mono (by decide)) rfl T.m_first_too_far T.F_first_too_far.kp T.b_first_too_far .nil pass0 (pa_cons (pv 0) (pa_cons (pe_fld (pv 0) rfl) pa_nil))) pe_non (nomark _))
      (pss_one (ps_ret (pe_lst (pa_cons (pe_gi T.c_NO_LINE rfl) pa_nil))))
      pss_nil)
      (pss_one (ps_ret (pe_lst (pa_cons (pe_call (ok_lowest T) (hr.mono (by decide)) rfl T.m_lowest T.F_lowest.kp T.b_lowest .nil pass0 (pa_cons (pv 0) (pa_cons (pv 1) pa_nil))) (pa_cons (pe_call (ok_highest T) (hr.mono (by decide)) rfl T.m_highest T.F_highest.kp T.b_highest .nil pass0 (pa_cons (pv 0) (pa_cons (pv 1) pa_nil))) pa_nil))))))), ?_⟩
    simp_arith [h1, HO.ins.injEq, n1, spTest1]
    refine ⟨dx, g, t, a, i, rfl, R, W.two, ?_⟩
    by_cases hi : a.n ≤ i
    · rw [if_neg (by omega)]
      have e : a.does (.between i) = (a, Kv363.say (-2)) := if_pos hi
      refine ⟨by decide, newL k (Same.refl H) ?_⟩
      unfold ansOf
      rw [e]
      rfl
    · rw [if_pos (by omega)]
      have hi' : i < a.ground.length := Nat.lt_of_not_le hi
      simp_arith [h1, HO.ins.injEq, T.cl_Road, T.a_Road_grade, rf_grade, spFar]
      refine ⟨dx, g, t, a, a.grade, rfl, R, W, by omega, ?_, ?_⟩
      · intro hw H1 s1
        rw [withK_self] at hw
        have hb := (best_why W).mpr hw
        obtain ⟨b, hb⟩ := Option.isSome_iff_exists.mp hb
        have e : a.does (.between i) = (a, ⟨(a.low i : Nat), [a.high i]⟩) := (if_neg hi).trans (if_neg (by rw [hb]; simp))
        simp_arith [spEdge]
        refine ⟨dx, g, t, a, i, rfl, R.same s1, W, by omega, fun H2 s2 => ?_⟩
        refine ⟨dx, g, t, a, i, rfl, R.same (s1.trans s2), W, by omega, fun H3 s3 => ?_⟩
        refine ⟨by decide, newL k ((s1.trans s2).trans s3) ?_⟩
        unfold ansOf
        rw [e]
        rfl
      · intro i' j' hw l H1 hl s1 e1
        rw [withK_self] at hw
        have hb : a.best.isNone = true := by
          cases q : a.best with
          | none => rfl
          | some b =>
            have := (best_why W).mp (by rw [q]; rfl)
            rw [this] at hw
            cases hw
        have e : a.does (.between i) = (a, Kv363.say (-33)) := (if_neg hi).trans (if_pos hb)
        refine ⟨by decide, newL k s1 ?_⟩
        unfold ansOf
        rw [e]
        rfl
end
end LL

set_option Elab.async false
set_option linter.all false
set_option maxRecDepth 100000
set_option maxHeartbeats 4000000
open L2 in
local macro_rules | `(tactic| simp_arith [$ts,*]) => `(tactic| simp (config := { decide := false, zeta := true }) only [tSeq, tNext, tRet, tIfS, tAsg, tDrop, gName, tVar, tC, tOp, tUn, tChain, tTest, tB, tAnd, tOr, tNot, tAndV, tOrV, tNotV, tIf, rI0, rI, rU, rEq, rNe, tCB, tCons, tFor_eq, tLc_eq, iRng1, iRng2, iRng3, iList, iZip, iEnum, tFld, rIxL, rIxT, rSlL, tSl, tPart, tNoPart, tLst, gTup, gCons, gNil, gSub, rSetL, sFld, tMeth, tMake, tBM, tBM0, rAppend, rExtend, rInsert0, rCat, rAll, rAny, rSum, rMax, rMin, tAug, ipI, tNil, tCall, scal, start, List.map_cons, List.map_nil, List.length_cons, List.length_nil, List.replicate_succ, List.replicate_zero, Nat.reduceSub, Nat.reduceAdd, Nat.add_sub_cancel, Nat.sub_self, List.set, List.append_nil, List.cons_append, List.nil_append, List.append_eq,
  List.getElem?_cons_zero, List.getElem?_cons_succ, Option.some.injEq, V.int.injEq, V.bl.injEq, V.ref.injEq, List.cons.injEq, and_true, true_and, exists_eq_left, exists_eq_left', exists_and_left, exists_eq, exists_const, decide_eq_true_eq, Bool.not_eq_true', decide_eq_false_iff_not, reduceCtorEq, and_assoc, cxK, if_true, if_false, exists_eq', ite_not, $ts,*])
namespace LL
open PySem PySem.Spec PyProof.Rows L2
open Kv363 (Abs okFix Best Call gap)
section
variable {P : Program} {w : World} {K : PySem.W.Frag} {mg : Str → Option Value} {base : Heap} {A : Ad}
/-- a new road, like this one -/
def spCopy (A : Ad) : Sp := fun vs H Q _ => ∃ (r dx g t : Addr) (a : Abs), vs = [.ref r] ∧ RoadAt A.C_Road H r dx g t a ∧ WF a ∧ ∀ (r' dx' g' t' : Addr) H', H r' = none → H g' = none → H t' = none → RoadAt A.C_Road H' r' dx' g' t' a → Same H H' → Q (.ref r') H'
theorem ok_Road_copied (T : Txt K mg A) : FnOk P w K mg base CX0 3 A.f_Road_copied A.d_Road_copied ["self"] (spCopy A) := by
  refine T.F_Road_copied.ok sc_Road_copied (fun vs H Q E h => ?_) (fun cdv B outer s H vs Q E hr h => ?_)
  · obtain ⟨_, _, _, _, _, rfl, _⟩ := h
    rfl
  · obtain ⟨r, dx, g, t, a, rfl, R, W, k⟩ := h
    have h1 := R.ins
    refine ⟨_, (pss_cons (ps_set (i := 1) sc_Road_copied.nd rfl (by first | exact Or.inl rfl | exact Or.inr rfl) (pe_make0 T.k_Road (ok_Road_init T) (hr.mono (by decide)) rfl T.m_Road T.b_Road_init .nil pass0))
      (pss_cons (ps_fld (pv 1) (pe_callTy (call_list_of) (by rfl) T.n_list bo_list (pa_cons (pe_fld (pv 0) rfl) pa_nil)) rfl)
      (pss_cons (ps_fld (pv 1) (pe_callTy (call_list_of) (by rfl) T.n_list bo_list (pa_cons (pe_fld (pv 0) rfl) pa_nil)) rfl)
      (pss_cons (ps_fld (pv 1) (pe_fld (pv 0) rfl) rfl)
      (pss_cons (ps_fld (pv 1) (pe_fld (pv 0) rfl) rfl)
      (pss_cons (ps_fld (pv 1) (pe_fld (pv 0) rfl) rfl)
      (pss_one (ps_ret (pv 1))))))))), ?_⟩
    simp_arith [spInit]
    intro r' dx' hr0 hdx nrd
    refine ⟨dx', upd_same, fun g0 t0 H1 hg0 ht0 R1 f1 => ?_⟩
    have s1 : Same H H1 := fun b o e => f1 b o (by rw [upd_ne (ne_of_none e hr0), upd_ne (ne_of_none e hdx)]; exact e) (ne_of_none e hr0)
    have c1 := R.same s1
    have i1 := R1.ins
    have o1 := c1.ins
    have nr : r ≠ r' := ne_of_none h1 hr0
    simp_arith [i1, o1, HO.ins.injEq, T.cl_Road, T.a_Road_ground, rf_ground]
    refine ⟨_, .inl (SqL.of c1.gr), fun l hl => ?_⟩
    have nl : r' ≠ l := ne_of_none i1 hl
    have nl2 : r ≠ l := ne_of_none o1 hl
    have nl3 : t ≠ l := ne_of_none c1.tl hl
    have hl0 : H l = none := s1.free hl
    simp_arith [upd_at, nl, i1, HO.ins.injEq, T.cl_Road, T.a_Road_ground, rf_pground, rf_len, nr, nr.symm, nl2, o1, T.a_Road_told, rf_told]
    refine ⟨by decide, _, .inl (SqL.of (by rw [upd_at, if_neg (ne_of_none R.tl hr0), upd_at, if_neg nl3]; exact c1.tl)), fun m hm => ?_⟩
    obtain ⟨m1, hm⟩ := if_free hm
    obtain ⟨m2, hm⟩ := if_free hm
    have hm0 : H m = none := s1.free hm
    have nm3 : r ≠ m := ne_of_none o1 hm
    simp_arith [m1, m1.symm, nr, nr.symm, nl, nl.symm, nl2, nl2.symm, nm3, nm3.symm, i1, o1, HO.ins.injEq, T.cl_Road, T.a_Road_told, T.a_Road_grade, T.a_Road_cut_price, T.a_Road_fill_price, rf_ptold, rf_pgrade, rf_pcut, rf_pfill, rf_grade, rf_cut, rf_fill, rf_len]
    refine ⟨by decide, by decide, by decide, by decide, ?_⟩
    refine k r' dx' l m _ hr0 hl0 hm0 ⟨?_, ?_, ?_, m2.symm⟩ (fun b o e => ?_)
    · rw [upd_same]
    · rw [upd_ne nl.symm, upd_ne nl.symm, upd_ne nl.symm, upd_ne nl.symm, upd_ne m2.symm, upd_ne nl.symm, upd_same]
    · rw [upd_ne m1, upd_ne m1, upd_ne m1, upd_ne m1, upd_same]
    · have b1 := ne_of_none e hr0
      rw [upd_ne b1, upd_ne b1, upd_ne b1, upd_ne b1, upd_ne (ne_of_none e hm0), upd_ne b1, upd_ne (ne_of_none e hl0)]
      exact s1 _ _ e
theorem ok_ifgrade (T : Txt K mg A) : FnOk P w K mg base CX0 7 A.f_ifgrade A.d_ifgrade ["road", "grade"] (spLook1 A .ifgrade) := by
  refine T.F_ifgrade.ok sc_ifgrade (fun vs H Q E h => ?_) (fun cdv B outer s H vs Q E hr h => ?_)
  · obtain ⟨_, _, _, _, _, _, rfl, _⟩ := h
    rfl
  · obtain ⟨r, dx, g, t, a, x, rfl, R, W, k⟩ := h
    have h1 := R.ins
    have n1 : (rf g t a.grade a.cutp a.fillp).lookup ("copied" : Str) = none := rf_no (by decide +kernel)
    refine ⟨_, (pss_cons (ps_if (pt_cmpR op_gt (pv 1) (pe_gi T.c_HIGHEST rfl) (nomark _))
      (pss_one (ps_ret (pe_lst (pa_cons (pe_gi T.c_OUT_OF_RANGE rfl) pa_nil))))
      pss_nil)
      (pss_cons (ps_set (i := 2) sc_ifgrade.nd rfl (by first | exact Or.inl rfl | exact Or.inr rfl) (pe_meth0 (pv 0) T.cl_Road T.x_Road_copied (ok_Road_copied T) (hr.mono (by decide)) T.b_Road_copied .nil pass0))
      (pss_cons (ps_fld (pv 2) (pv 1) rfl)
      (pss_one (ps_ret (pe_call (ok_cost T) (hr.mono (by decide)) rfl T.m_cost T.F_cost.kp T.b_cost .nil pass0 (pa_cons (pv 2) pa_nil))))))), ?_⟩
    simp_arith [h1, HO.ins.injEq, n1, spCopy]
    by_cases hx : 40 < x
    · rw [if_pos (by omega)]
      have e : a.does (.ifgrade x) = (a, Kv363.say (-22)) := if_pos hx
      refine ⟨by decide, newL k (Same.refl H) ?_⟩
      unfold ansOf
      rw [e]
      rfl
    · rw [if_neg (by omega)]
      have e : a.does (.ifgrade x) = (a, (a.withK x).tells) := if_neg hx
      refine ⟨dx, g, t, a, R, W, fun r' dx' g' t' H1 hr' hg' ht' R1 s1 => ?_⟩
      have i1 := R1.ins
      simp_arith [i1, HO.ins.injEq, T.cl_Road, T.a_Road_grade, rf_pgrade, rf_len, spLook]
      have s2 : Same H (upd H1 r' (.ins A.C_Road dx' (rf g' t' x a.cutp a.fillp))) := s1.upd hr'
      refine ⟨by decide, dx', g', t', a.withK x, ⟨upd_same, ?_, ?_, R1.ne⟩, WFk W (by omega), fun l H2 hl s3 e3 => ?_⟩
      · rw [upd_ne R1.rg.symm]
        exact R1.gr
      · rw [upd_ne R1.rt.symm]
        exact R1.tl
      · refine k l H2 (s2.free hl) (s2.trans s3) ?_
        rw [e3]
        unfold ansOf
        rw [e]
        rfl
theorem ok_through (T : Txt K mg A) : FnOk P w K mg base CX0 7 A.f_through A.d_through ["road", "station", "height"] (spLook2 A .through) := by
  refine T.F_through.ok sc_through (fun vs H Q E h => ?_) (fun cdv B outer s H vs Q E hr h => ?_)
  · obtain ⟨_, _, _, _, _, _, _, rfl, _⟩ := h
    rfl
  · obtain ⟨r, dx, g, t, a, i, x, rfl, R, W, k⟩ := h
    have h1 := R.ins
    have n1 : (rf g t a.grade a.cutp a.fillp).lookup ("has_station" : Str) = none := rf_no (by decide +kernel)
    have n2 : (rf g t a.grade a.cutp a.fillp).lookup ("copied" : Str) = none := rf_no (by decide +kernel)
    refine ⟨_, (pss_cons (ps_if (pt_not (pt_val (pe_meth (pv 0) T.cl_Road T.x_Road_has_station (ok_Road_has_station T) (hr.mono (by decide)) T.b_Road_has_station .nil pass0 (pa_cons (pv 1) pa_nil))))
      (pss_one (ps_ret (pe_lst (pa_cons (pe_gi T.c_NO_STATION rfl) pa_nil))))
      pss_nil)
      (pss_cons (ps_if (pt_not (pt_val (pe_call (ok_is_height T) (hr.mono (by decide)) rfl T.m_is_height T.F_is_height.kp T.b_is_height .nil pass0 (pa_cons (pv 2) pa_nil))))
      (pss_one (ps_ret (pe_lst (pa_cons (pe_gi T.c_OUT_OF_RANGE rfl) pa_nil))))
      pss_nil)
      (pss_cons (ps_set (i := 3) sc_through.nd rfl (by first | exact Or.inl rfl | exact Or.inr rfl) (pe_ix ix_list (pe_fld (pv 0) rfl) (pv 1) (fun _ _ => rfl)))
      (pss_cons (ps_if (PW.pt (pw_and (pt_cmpR op_notN (pv 3) pe_non (nomark _)) (pw_and1 (pt_cmpR op_ne (pv 3) (pv 2) (nomark _)))))
      (pss_one (ps_ret (pe_lst (pa_cons (pe_gi T.c_NO_LINE rfl) pa_nil))))
      pss_nil)
      (pss_cons (ps_set (i := 4) sc_through.nd rfl (by first | exact Or.inl rfl | exact Or.inr rfl) (pe_meth0 (pv 0) T.cl_Road T.x_Road_copied (ok_Road_copied T) (hr.mono (by decide)) T.b_Road_copied .nil pass0))
      (pss_cons (ps_asg (pv 2) (pg_sub (pe_fld (pv 4) rfl) (pv 1) set_list))
      (pss_one (ps_ret (pe_call (ok_cost T) (hr.mono (by decide)) rfl T.m_cost T.F_cost.kp T.b_cost .nil pass0 (pa_cons (pv 4) pa_nil)))))))))), ?_⟩
    simp_arith [h1, HO.ins.injEq, n1, spTest1, spH, int_heights]
    refine ⟨dx, g, t, a, i, rfl, R, W.two, ?_⟩
    by_cases hi : a.n ≤ i
    · rw [if_neg (by omega)]
      have e : a.does (.through i x) = (a, Kv363.say (-2)) := if_pos hi
      refine ⟨by decide, newL k (Same.refl H) ?_⟩
      unfold ansOf
      rw [e]
      rfl
    rw [if_pos (by omega)]
    by_cases hx : 40 < x
    · rw [if_neg (by omega)]
      have e : a.does (.through i x) = (a, Kv363.say (-22)) := (if_neg hi).trans (if_pos hx)
      refine ⟨by decide, newL k (Same.refl H) ?_⟩
      unfold ansOf
      rw [e]
      rfl
    rw [if_pos (by omega)]
    have hi' : i < a.ground.length := Nat.lt_of_not_le hi
    have hl' : i < a.fix.length := by rw [W.len]; exact hi'
    have hT := getD_onv (cs := a.fix) (k := i) hl'
    simp_arith [h1, HO.ins.injEq, T.cl_Road, T.a_Road_told, rf_told, n2, spCopy]
    refine ⟨_, SqL.of R.tl, _, atI_nat hT, ?_⟩
    have go : okFix (a.fix.getD i none) x = true → ∀ (r' dx' g' t' : Addr) (H1 : Hp) (E0 : XK), H r' = none → H g' = none → H t' = none → RoadAt A.C_Road H1 r' dx' g' t' a → Same H H1 → spLook A .cost [V.ref r'] (upd H1 t' (.lst ((a.fix.map onv).set i (V.int x)))) Q E0 := by
      intro ho r' dx' g' t' H1 E0 hr' hg' ht' R1 s1
      have e : a.does (.through i x) = (a, (a.setF i (some x)).tells) := (if_neg hi).trans ((if_neg hx).trans (if_neg (by rw [ho]; simp)))
      have s2 : Same H (upd H1 t' (.lst ((a.fix.map onv).set i (V.int x)))) := s1.upd ht'
      refine ⟨r', dx', g', t', a.setF i (some x), rfl, ⟨?_, ?_, ?_, R1.ne⟩, end_told W hi' (by omega), fun l H2 hl s3 e3 => ?_⟩
      · rw [upd_ne R1.rt]
        exact R1.ins
      · rw [upd_ne R1.ne]
        exact R1.gr
      · rw [upd_same]
        show _ = some (HO.lst ((a.fix.set i (some x)).map onv))
        rw [List.map_set]
        rfl
      · refine k l H2 (s2.free hl) (s2.trans s3) ?_
        rw [e3]
        unfold ansOf
        rw [e]
        rfl
    cases q : a.fix.getD i none with
    | none =>
      rw [q] at go
      simp_arith [onv_none]
      exact ⟨dx, g, t, a, R, W, fun r' dx' g' t' H1 hr' hg' ht' R1 s1 => ⟨_, _, _, R1.ins, T.cl_Road, T.a_Road_told, _, rf_told, _, rfl, _, R1.tl, i, ixN_nat (by rw [List.length_map]; exact hl'), go rfl r' dx' g' t' H1 _ hr' hg' ht' R1 s1⟩⟩
    | some y =>
      simp_arith [onv_some]
      by_cases c : y = x
      · rw [if_pos (by omega)]
        have ho : okFix (a.fix.getD i none) x = true := by rw [q]; exact beq_iff_eq.mpr c
        exact ⟨dx, g, t, a, R, W, fun r' dx' g' t' H1 hr' hg' ht' R1 s1 => ⟨_, _, _, R1.ins, T.cl_Road, T.a_Road_told, _, rf_told, _, rfl, _, R1.tl, i, ixN_nat (by rw [List.length_map]; exact hl'), go ho r' dx' g' t' H1 _ hr' hg' ht' R1 s1⟩⟩
      · rw [if_neg (by omega)]
        have ho : okFix (a.fix.getD i none) x = false := by rw [q]; exact beq_eq_false_iff_ne.mpr c
        have e : a.does (.through i x) = (a, Kv363.say (-33)) := (if_neg hi).trans ((if_neg hx).trans (if_pos ho))
        refine ⟨by decide, newL k (Same.refl H) ?_⟩
        unfold ansOf
        rw [e]
        rfl
theorem ok_worth (T : Txt K mg A) : FnOk P w K mg base CX0 6 A.f_worth A.d_worth ["road", "station"] (spLook1 A .worth) := by
  refine T.F_worth.ok sc_worth (fun vs H Q E h => ?_) (fun cdv B outer s H vs Q E hr h => ?_)
  · obtain ⟨_, _, _, _, _, _, rfl, _⟩ := h
    rfl
  · obtain ⟨r, dx, g, t, a, i, rfl, R, W, k⟩ := h
    have h1 := R.ins
    have n1 : (rf g t a.grade a.cutp a.fillp).lookup ("copied" : Str) = none := rf_no (by decide +kernel)
    refine ⟨_, (pss_cons (ps_set (i := 2) sc_worth.nd rfl (by first | exact Or.inl rfl | exact Or.inr rfl) (pe_meth0 (pv 0) T.cl_Road T.x_Road_copied (ok_Road_copied T) (hr.mono (by decide)) T.b_Road_copied .nil pass0))
      (pss_cons (ps_set (i := 3) sc_worth.nd rfl (by first | exact Or.inl rfl | exact Or.inr rfl) (pe_meth (pv 2) T.cl_Road T.x_Road_free (ok_Road_free T) (hr.mono (by decide)) T.b_Road_free .nil pass0 (pa_cons (pv 1) pa_nil)))
      (pss_cons (ps_if (pt_cmpR op_lt (pe_ix ix_list (pv 3) pe_int (fun _ _ => rfl)) pe_int (nomark _))
      (pss_one (ps_ret (pv 3)))
      pss_nil)
      (pss_cons (ps_set (i := 4) sc_worth.nd rfl (by first | exact Or.inl rfl | exact Or.inr rfl) (pe_call (ok_least_cost T) (hr.mono (by decide)) rfl T.m_least_cost T.F_least_cost.kp T.b_least_cost .nil pass0 (pa_cons (pv 0) pa_nil)))
      (pss_cons (ps_if (pt_cmpR op_isN (pv 4) pe_non (nomark _))
      (pss_one (ps_ret (pe_lst (pa_cons (pe_gi T.c_NO_LINE rfl) pa_nil))))
      pss_nil)
      (pss_cons (ps_set (i := 5) sc_worth.nd rfl (by first | exact Or.inl rfl | exact Or.inr rfl) (pe_call (ok_least_cost T) (hr.mono (by decide)) rfl T.m_least_cost T.F_least_cost.kp T.b_least_cost .nil pass0 (pa_cons (pv 2) pa_nil)))
      (pss_one (ps_ret (pe_lst (pa_cons (pe_op op_sub (pv 4) (pv 5)) (pa_cons (pv 5) pa_nil))))))))))), ?_⟩
    simp_arith [h1, HO.ins.injEq, n1, spCopy]
    refine ⟨dx, g, t, a, R, W, fun r' dx' g' t' H1 hr' hg' ht' R1 s1 => ?_⟩
    have i1 := R1.ins
    have n2 : (rf g' t' a.grade a.cutp a.fillp).lookup ("free" : Str) = none := rf_no (by decide +kernel)
    simp_arith [i1, HO.ins.injEq, n2, spCh1]
    refine ⟨dx', g', t', a, i, rfl, R1, W, fun l H2 hl R2 f2 e2 => ?_⟩
    have s2 : Same H H2 := fun b o e => f2 b o (s1 _ _ e) (ne_of_none e hr') (ne_of_none e hg') (ne_of_none e ht')
    have hl0 := s1.free hl
    have neg : ∀ n : Int, a.does (.free i) = (a, Kv363.say n) → a.does (.worth i) = (a, Kv363.say n) → H2 l = some (.lst [V.int n]) ∧ Q (.ref l) H2 := by
      intro n e3 e4
      have e2' : H2 l = some (.lst [V.int n]) := by
        rw [e2]
        unfold ansOf
        rw [e3]
        rfl
      refine ⟨e2', k l H2 hl0 s2 ?_⟩
      rw [e2']
      unfold ansOf
      rw [e4]
      rfl
    by_cases hi : a.n ≤ i
    · obtain ⟨e5, q5⟩ := neg (-2) (if_pos hi) (if_pos hi)
      refine ⟨_, SqL.of e5, _, atI_nat (j := 0) rfl, _, rfl, ?_⟩
      rw [if_pos (by omega)]
      exact q5
    by_cases he : a.end_ i = true
    · obtain ⟨e5, q5⟩ := neg (-16) ((if_neg hi).trans (if_pos he)) ((if_neg hi).trans (if_pos he))
      refine ⟨_, SqL.of e5, _, atI_nat (j := 0) rfl, _, rfl, ?_⟩
      rw [if_pos (by omega)]
      exact q5
    have ef : a.does (.free i) = (match a.fix.getD i none with
      | none => (a, Kv363.say (-6))
      | some y => (a.setF i none, Kv363.say (y : Nat))) := (if_neg hi).trans (if_neg he)
    cases q : a.fix.getD i none with
    | none =>
      rw [q] at ef
      obtain ⟨e5, q5⟩ := neg (-6) ef ((if_neg hi).trans ((if_neg he).trans (if_pos (by rw [q]; rfl))))
      refine ⟨_, SqL.of e5, _, atI_nat (j := 0) rfl, _, rfl, ?_⟩
      rw [if_pos (by omega)]
      exact q5
    | some y =>
      rw [q] at ef
      have e5 : H2 l = some (.lst [V.int (y : Nat)]) := by
        rw [e2]
        unfold ansOf
        rw [ef]
        rfl
      have W' : WF (a.setF i none) := by
        have := WF.does W (.free i)
        rw [ef] at this
        exact this
      rw [ef] at R2
      have R2 : RoadAt A.C_Road H2 r' dx' g' t' (a.setF i none) := R2
      refine ⟨_, SqL.of e5, _, atI_nat (j := 0) rfl, _, rfl, ?_⟩
      rw [if_neg (by omega)]
      have ew : a.does (.worth i) = (match a.best, (a.setF i none).best with
        | some b, some c => (a, ⟨(b.cost - c.cost : Nat), [c.cost]⟩)
        | _, _ => (a, Kv363.say (-33))) := (if_neg hi).trans ((if_neg he).trans (if_neg (by rw [q]; simp)))
      refine ⟨r, dx, g, t, a, rfl, R.same s2, W, fun H3 s3 => ?_⟩
      cases hb : a.best with
      | none =>
        rw [hb] at ew
        rw [if_pos (by rfl)]
        refine ⟨by decide, newL k (s2.trans s3) ?_⟩
        unfold ansOf
        rw [ew]
        rfl
      | some b =>
        obtain ⟨c, hc, hle⟩ := freed_le W W' hb
        rw [hb, hc] at ew
        rw [if_neg (by intro z; cases z)]
        refine ⟨r', dx', g', t', a.setF i none, rfl, R2.same s3, W', fun H4 s4 => ?_⟩
        rw [hc]
        refine ⟨_, rfl, _, rfl, by decide, newL k ((s2.trans s3).trans s4) ?_⟩
        unfold ansOf
        rw [ew]
        show [V.int ((b.cost : Int) - (c.cost : Int)), V.int (c.cost : Int)] = [V.int ((b.cost - c.cost : Nat) : Int), V.int (c.cost : Int)]
        rw [Int.ofNat_sub hle]
end
end LL

set_option Elab.async false
set_option linter.all false
set_option maxRecDepth 100000
set_option maxHeartbeats 4000000
open L2 in
local macro_rules | `(tactic| simp_arith [$ts,*]) => `(tactic| simp (config := { decide := false, zeta := true }) only [tSeq, tNext, tRet, tIfS, tAsg, tDrop, gName, tVar, tC, tOp, tUn, tChain, tTest, tB, tAnd, tOr, tNot, tAndV, tOrV, tNotV, tIf, rI0, rI, rU, rEq, rNe, tCB, tCons, tFor_eq, tLc_eq, iRng1, iRng2, iRng3, iList, iZip, iEnum, tFld, rIxL, rIxT, rSlL, tSl, tPart, tNoPart, tLst, gTup, gCons, gNil, gSub, rSetL, sFld, tMeth, tMake, tBM, tBM0, rAppend, rExtend, rInsert0, rCat, rAll, rAny, rSum, rMax, rMin, tAug, ipI, tNil, tCall, scal, start, List.map_cons, List.map_nil, List.length_cons, List.length_nil, List.replicate_succ, List.replicate_zero, Nat.reduceSub, Nat.reduceAdd, Nat.add_sub_cancel, Nat.sub_self, List.set, List.append_nil, List.cons_append, List.nil_append, List.append_eq,
  List.getElem?_cons_zero, List.getElem?_cons_succ, Option.some.injEq, V.int.injEq, V.bl.injEq, V.ref.injEq, List.cons.injEq, and_true, true_and, exists_eq_left, exists_eq_left', exists_and_left, exists_eq, exists_const, decide_eq_true_eq, Bool.not_eq_true', decide_eq_false_iff_not, reduceCtorEq, and_assoc, cxK, if_true, if_false, exists_eq', ite_not, $ts,*])
namespace LL
open PySem PySem.Spec PyProof.Rows L2
open Kv363 (Abs okFix Best Call gap)
section
variable {P : Program} {w : World} {K : PySem.W.Frag} {mg : Str → Option Value} {base : Heap} {A : Ad}
theorem steep_map (l : List Nat) (n k : Nat) : ((List.range n).filter fun i => gap (l.getD i 0) (l.getD (i + 1) 0) == k).map nv = (List.range n).filterMap fun i => if gap (l.getD i 0) (l.getD (i + 1) 0) = k then some (nv i) else none := by
  induction List.range n with
  | nil => rfl
  | cons x m ih =>
    rw [List.filter_cons, List.filterMap_cons]
    by_cases c : gap (l.getD x 0) (l.getD (x + 1) 0) = k
    · rw [if_pos (beq_iff_eq.mpr c), if_pos c, List.map_cons, ih]
    · rw [if_neg (by rw [beq_eq_false_iff_ne.mpr c]; simp), if_neg c, ih]
theorem ok_steep (T : Txt K mg A) : FnOk P w K mg base CX0 5 A.f_steep A.d_steep ["road"] (spLook A .steep) := by
  refine T.F_steep.ok sc_steep (fun vs H Q E h => ?_) (fun cdv B outer s H vs Q E hr h => ?_)
  · obtain ⟨_, _, _, _, _, rfl, _⟩ := h
    rfl
  · obtain ⟨r, dx, g, t, a, rfl, R, W, k⟩ := h
    refine ⟨_, (pss_cons (ps_set (i := 1) sc_steep.nd rfl (by first | exact Or.inl rfl | exact Or.inr rfl) (pe_call (ok_cheapest T) (hr.mono (by decide)) rfl T.m_cheapest T.F_cheapest.kp T.b_cheapest .nil pass0 (pa_cons (pv 0) pa_nil)))
      (pss_cons (ps_if (pt_cmpR op_isN (pv 1) pe_non (nomark _))
      (pss_one (ps_ret (pe_lst (pa_cons (pe_gi T.c_NO_LINE rfl) pa_nil))))
      pss_nil)
      (pss_cons (ps_setLc (own := [("start", 3)]) rfl sc_steep.nd (i := 2) rfl rfl (sw_true rfl rfl rfl rfl) (pi_range1 rfl T.n_range (pa_cons (pe_op op_sub (pe_callB (call_len_seq) (by rfl) T.n_len bo_len (pa_cons (pv 1) pa_nil)) pe_int) pa_nil)) (blkOk_by (N := ["road", "row", "starts", "start"]) (sc := defScope s_steep) (by decide +kernel)) (fun _ _ _ _ _ => (pg_name (i := 3) sc_steep.nd rfl (by first | exact Or.inl rfl | exact Or.inr rfl))) (fun _ _ _ _ _ => pts_one (pt_cmpR op_eq (pe_callB (call_abs) (by rfl) T.n_abs bo_abs (pa_cons (pe_op op_sub (pe_ix (ix_listK (K := K) rfl) (pv 1) (pe_op op_add (pv 3) pe_int) (fun _ _ => rfl)) (pe_ix (ix_listK (K := K) rfl) (pv 1) (pv 3) (fun _ _ => rfl))) pa_nil)) (pe_fldK (K := K) rfl (pv 0) rfl) (nomark _))) (fun _ _ _ _ _ => (pv 3)))
      (pss_one (ps_ret (pe_op op_cat (pe_lst (pa_cons (pe_callB (call_len_seq) (by rfl) T.n_len bo_len (pa_cons (pv 2) pa_nil)) pa_nil)) (pv 2))))))), ?_⟩
    simp_arith [spCheap]
    refine ⟨dx, g, t, a, R, W, ?_, ?_⟩
    · intro hn H1 s1
      have hb := cheapM_none W hn
      refine ⟨by decide, newL k s1 ?_⟩
      unfold ansOf
      simp [Kv363.Abs.does, hb, Kv363.say, Kv363Neutral.row, Kv363Neutral.ints]
    · intro row hrow l1 H1 hl1 s1 e1
      obtain ⟨b, hb, rfl⟩ := cheapM_some W hrow
      obtain ⟨bc, bl, bs⟩ := best_line W hb
      have bs : b.line.length ≤ 1000 := bs
      have h2 := W.two
      refine ⟨_, .inl (SqL.of e1), by rw [List.length_map]; omega, by rw [List.length_map]; omega, ?_⟩
      have et : (((b.line.map nv).length : Nat) : Int) - 1 = ((b.line.length - 1 : Nat) : Int) := by rw [List.length_map]; omega
      rw [et, Int.toNat_natCast]
      refine lcK_rangeF (fun i => if gap (b.line.getD i 0) (b.line.getD (i + 1) 0) = a.grade then some (nv i) else none) (Nat.le_trans (by omega : b.line.length - 1 ≤ 1000) (by decide)) ?_ ?_
      · intro i H' R' N hi s2 hR hN
        have h3 := (R.same (s1.trans s2)).ins
        have a1 := getD_nv (cs := b.line) (k := i + 1) (by omega)
        have a0 := getD_nv (cs := b.line) (k := i) (by omega)
        have e3 := s2 _ _ e1
        simp_arith [wipe, h3, HO.ins.injEq, T.cl_Road, T.a_Road_grade, rf_grade, Int.zero_add]
        refine ⟨_, SqL.of e3, _, atI_nat (j := i + 1) a1, _, SqL.of e3, _, atI_nat a0, _, rfl, _, rfl, ?_⟩
        rw [gap_abs, gap_comm]
        by_cases c : gap (b.line.getD i 0) (b.line.getD (i + 1) 0) = a.grade
        · rw [if_pos (by omega)]
          exact hR _ H' (if_pos c) (Same.refl _)
        · rw [if_neg (by omega)]
          exact hN H' (if_neg c) (Same.refl _)
      · intro D H2 hD s2 e2
        rw [← steep_map] at e2
        refine ⟨D, rfl, _, .inl (SqL.of e2), by decide, fun q hq => ?_⟩
        have nq : D ≠ q := ne_of_none e2 hq
        refine ⟨D, rfl, _, upd_same, _, by rw [upd_ne nq]; exact e2, ?_, fun l hl => ?_⟩
        · rw [List.length_map]
          have := List.length_filter_le (fun i => gap (b.line.getD i 0) (b.line.getD (i + 1) 0) == a.grade) (List.range (b.line.length - 1))
          rw [List.length_range] at this
          have hs : (1000 : Nat) + 1 ≤ sizeLine := by decide
          show 1 + _ ≤ sizeLine
          omega
        · obtain ⟨nl, hl⟩ := upd_free hl
          have s3 := s1.trans s2
          refine k l _ (s3.free hl) ((s3.upd (s3.free hq)).upd (s3.free hl)) ?_
          rw [upd_same]
          unfold ansOf
          simp [Kv363.Abs.does, Kv363.list, hb, Kv363Neutral.row, Kv363Neutral.ints, nv]
def spLevel (K : PySem.W.Frag) : Sp := fun vs H Q _ => ∃ (c : Addr) (l : List Nat), vs = [.ref c] ∧ SqL K H c (l.map nv) ∧ 0 < l.length ∧ ∀ p H', H p = none → Same H H' → H' p = some (.lst [.int ((Kv363.flat l).1 : Nat), .int ((Kv363.flat l).2 : Nat)]) → Q (.ref p) H'
theorem ok_longest_level (T : Txt K mg A) : FnOk P w K mg base CX0 1 A.f_longest_level A.d_longest_level ["row"] (spLevel K) := by
  refine T.F_longest_level.ok sc_longest_level (fun vs H Q E h => ?_) (fun cdv B outer s H vs Q E hr h => ?_)
  · obtain ⟨_, _, rfl, _⟩ := h
    rfl
  · obtain ⟨c, l, rfl, hS, h0, k⟩ := h
    refine ⟨_, (pss_cons (ps_set (i := 1) sc_longest_level.nd rfl (by first | exact Or.inl rfl | exact Or.inr rfl) pe_int)
      (pss_cons (ps_set (i := 2) sc_longest_level.nd rfl (by first | exact Or.inl rfl | exact Or.inr rfl) pe_int)
      (pss_cons (ps_set (i := 3) sc_longest_level.nd rfl (by first | exact Or.inl rfl | exact Or.inr rfl) pe_int)
      (pss_cons (ps_for PassesOwn.never rfl (pi_enum rfl T.n_enumerate (pa_cons (pv 0) pa_nil)) (pg_tup (n := 2) rfl (pgs_cons (pg_name (i := 4) sc_longest_level.nd rfl (by first | exact Or.inl rfl | exact Or.inr rfl)) (pgs_cons (pg_name (i := 5) sc_longest_level.nd rfl (by first | exact Or.inl rfl | exact Or.inr rfl)) pgs_nil)))
      (pss_cons (ps_if (pt_cmpR op_ne (pv 5) (pe_ix ix_list (pv 0) (pv 3) (fun _ _ => rfl)) (nomark _))
      (pss_one (ps_set (i := 3) sc_longest_level.nd rfl (by first | exact Or.inl rfl | exact Or.inr rfl) (pv 4)))
      pss_nil)
      (pss_cons (ps_set (i := 6) sc_longest_level.nd rfl (by first | exact Or.inl rfl | exact Or.inr rfl) (pe_op op_add (pe_op op_sub (pv 4) (pv 3)) pe_int))
      (pss_one (ps_if (pt_cmpR op_gt (pv 6) (pv 1) (nomark _))
      (pss_cons (ps_set (i := 1) sc_longest_level.nd rfl (by first | exact Or.inl rfl | exact Or.inr rfl) (pv 6))
      (pss_one (ps_set (i := 2) sc_longest_level.nd rfl (by first | exact Or.inl rfl | exact Or.inr rfl) (pv 3))))
      pss_nil)))))
      (pss_one (ps_ret (pe_lst (pa_cons (pv 1) (pa_cons (pv 2) pa_nil))))))))), ?_⟩
    simp_arith []
    refine ⟨_, hS, ?_⟩
    refine forK_enum (xs := l.map nv) (fun i σ H' => ∃ (lo ls st : Nat) (v4 v5 v6 : Option V), σ = [some (.ref c), some (.int lo), some (.int ls), some (.int st), v4, v5, v6] ∧ Same H H' ∧ Gone l i lo ls st) ⟨0, 0, 0, none, none, none, rfl, Same.refl _, Gone.zero⟩ (fun i σ H' _ h => by obtain ⟨_, _, _, _, _, _, _, s, _⟩ := h; exact s.seq hS) ?_ ?_
    · rintro i x T' σ H' hx hT' ⟨lo, ls, st, v4, v5, v6, rfl, s1, G⟩
      obtain ⟨n, hn, rfl⟩ := map_at hx
      have hi : i < l.length := (List.getElem?_eq_some_iff.mp hn).1
      have hst : st < l.length := Nat.lt_of_le_of_lt G.le hi
      have en : l.getD i 0 = n := by rw [List.getD_eq_getElem?_getD, hn]; rfl
      have s2 : Same H (upd H' T' (.tup [.int (i : Nat), .int (n : Nat)])) := s1.upd (s1.free hT')
      simp_arith [nv_def]
      refine ⟨_, SqT.of upd_same, rfl, _, _, rfl, _, _, rfl, rfl, _, s2.seq hS, _, atI_nat (getD_nv hst), rfl, ?_⟩
      simp_arith []
      by_cases c : n = l.getD st 0
      · rw [if_pos (by omega)]
        have G' := G.step (st' := st) (by rw [if_pos (en.trans c)])
        by_cases d : lo < i - st + 1
        · rw [if_pos d] at G'
          have := G.le
          rw [if_pos (by omega)]
          exact ⟨i - st + 1, by omega, st, rfl, st, rfl, s2, G'⟩
        · rw [if_neg d] at G'
          have := G.le
          rw [if_neg (by omega)]
          exact ⟨lo, rfl, ls, rfl, st, rfl, s2, G'⟩
      · rw [if_neg (by omega)]
        have G' := G.step (st' := i) (by rw [if_neg (fun z => c (en.symm.trans z))])
        by_cases d : lo < i - i + 1
        · rw [if_pos d] at G'
          rw [if_pos (by omega)]
          exact ⟨i - i + 1, by omega, i, rfl, i, rfl, s2, G'⟩
        · rw [if_neg d] at G'
          rw [if_neg (by omega)]
          exact ⟨lo, rfl, ls, rfl, i, rfl, s2, G'⟩
    · rintro σ H' ⟨lo, ls, st, v4, v5, v6, rfl, s1, G⟩
      rw [List.length_map] at G
      have e := G.flat h0
      simp_arith []
      refine ⟨by decide, fun p hp => ?_⟩
      refine k p _ (s1.free hp) (s1.upd (s1.free hp)) ?_
      rw [upd_same, e]
theorem ok_flat (T : Txt K mg A) : FnOk P w K mg base CX0 5 A.f_flat A.d_flat ["road"] (spLook A .flat) := by
  refine T.F_flat.ok sc_flat (fun vs H Q E h => ?_) (fun cdv B outer s H vs Q E hr h => ?_)
  · obtain ⟨_, _, _, _, _, rfl, _⟩ := h
    rfl
  · obtain ⟨r, dx, g, t, a, rfl, R, W, k⟩ := h
    refine ⟨_, (pss_cons (ps_set (i := 1) sc_flat.nd rfl (by first | exact Or.inl rfl | exact Or.inr rfl) (pe_call (ok_cheapest T) (hr.mono (by decide)) rfl T.m_cheapest T.F_cheapest.kp T.b_cheapest .nil pass0 (pa_cons (pv 0) pa_nil)))
      (pss_cons (ps_if (pt_cmpR op_isN (pv 1) pe_non (nomark _))
      (pss_one (ps_ret (pe_lst (pa_cons (pe_gi T.c_NO_LINE rfl) pa_nil))))
      pss_nil)
      (pss_one (ps_ret (pe_call (ok_longest_level T) (hr.mono (by decide)) rfl T.m_longest_level T.F_longest_level.kp T.b_longest_level .nil pass0 (pa_cons (pv 1) pa_nil)))))), ?_⟩
    simp_arith [spCheap]
    refine ⟨dx, g, t, a, R, W, ?_, ?_⟩
    · intro hn H1 s1
      have hb := cheapM_none W hn
      refine ⟨by decide, newL k s1 ?_⟩
      unfold ansOf
      simp [Kv363.Abs.does, hb, Kv363.say, Kv363Neutral.row, Kv363Neutral.ints]
    · intro row hrow l1 H1 hl1 s1 e1
      obtain ⟨b, hb, rfl⟩ := cheapM_some W hrow
      obtain ⟨bc, bl, bs⟩ := best_line W hb
      have h2 := W.two
      refine ⟨l1, b.line, rfl, SqL.of e1, by omega, fun p H2 hp s2 e2 => ?_⟩
      refine k p H2 (s1.free hp) (s1.trans s2) ?_
      rw [e2]
      unfold ansOf
      simp [Kv363.Abs.does, hb, Kv363.say, Kv363Neutral.row, Kv363Neutral.ints]
end
end LL

set_option Elab.async false
set_option linter.all false
set_option maxRecDepth 100000
set_option maxHeartbeats 4000000
open L2 in
local macro_rules | `(tactic| simp_arith [$ts,*]) => `(tactic| simp (config := { decide := false, zeta := true }) only [tSeq, tNext, tRet, tIfS, tAsg, tDrop, gName, tVar, tC, tOp, tUn, tChain, tTest, tB, tAnd, tOr, tNot, tAndV, tOrV, tNotV, tIf, rI0, rI, rU, rEq, rNe, tCB, tCons, tFor_eq, tLc_eq, iRng1, iRng2, iRng3, iList, iZip, iEnum, tFld, rIxL, rIxT, rSlL, tSl, tPart, tNoPart, tLst, gTup, gCons, gNil, gSub, rSetL, sFld, tMeth, tMake, tBM, tBM0, rAppend, rExtend, rInsert0, rCat, rAll, rAny, rSum, rMax, rMin, tAug, ipI, tNil, tCall, scal, start, List.map_cons, List.map_nil, List.length_cons, List.length_nil, List.replicate_succ, List.replicate_zero, Nat.reduceSub, Nat.reduceAdd, Nat.add_sub_cancel, Nat.sub_self, List.set, List.append_nil, List.cons_append, List.nil_append, List.append_eq,
  List.getElem?_cons_zero, List.getElem?_cons_succ, Option.some.injEq, V.int.injEq, V.bl.injEq, V.ref.injEq, List.cons.injEq, and_true, true_and, exists_eq_left, exists_eq_left', exists_and_left, exists_eq, exists_const, decide_eq_true_eq, Bool.not_eq_true', decide_eq_false_iff_not, reduceCtorEq, and_assoc, cxK, if_true, if_false, exists_eq', ite_not, $ts,*])
namespace LL
open PySem PySem.Spec PyProof.Rows L2
open Kv363 (Abs okFix Best Call gap)
def spBare (A : Ad) : Sp := fun vs H Q _ => ∃ (r dx g t : Addr) (a : Abs) (p : Nat) (c : Call), vs = [.ref r, .int p] ∧ RoadAt A.C_Road H r dx g t a ∧ WF a ∧ bareC p = some c ∧
  ∀ l H', H l = none → Same H H' → H' l = some (.lst ((ansOf a c).map V.int)) → Q (.ref l) H'
section
variable {P : Program} {w : World} {K : PySem.W.Frag} {mg : Str → Option Value} {base : Heap} {A : Ad}
theorem ok_answer_bare_look (T : Txt K mg A) : FnOk P w K mg base CX0 7 A.f_answer_bare_look A.d_answer_bare_look ["road", "call"] (spBare A) := by
  refine T.F_answer_bare_look.ok sc_answer_bare_look (fun vs H Q E h => ?_) (fun cdv B outer s H vs Q E hr h => ?_)
  · obtain ⟨_, _, _, _, _, _, _, rfl, _⟩ := h
    rfl
  · obtain ⟨r, dx, g, t, a, p, c, rfl, R, W, hc, k⟩ := h
    refine ⟨_, (pss_cons (ps_if (pt_cmpR op_eq (pv 1) (pe_gi T.c_CAN rfl) (nomark _))
      (pss_one (ps_ret (pe_call (ok_can T) (hr.mono (by decide)) rfl T.m_can T.F_can.kp T.b_can .nil pass0 (pa_cons (pv 0) pa_nil))))
      pss_nil)
      (pss_cons (ps_if (pt_cmpR op_eq (pv 1) (pe_gi T.c_COST rfl) (nomark _))
      (pss_one (ps_ret (pe_call (ok_cost T) (hr.mono (by decide)) rfl T.m_cost T.F_cost.kp T.b_cost .nil pass0 (pa_cons (pv 0) pa_nil))))
      pss_nil)
      (pss_cons (ps_if (pt_cmpR op_eq (pv 1) (pe_gi T.c_LINE rfl) (nomark _))
      (pss_one (ps_ret (pe_call (ok_line T) (hr.mono (by decide)) rfl T.m_line T.F_line.kp T.b_line .nil pass0 (pa_cons (pv 0) pa_nil))))
      pss_nil)
      (pss_cons (ps_if (pt_cmpR op_eq (pv 1) (pe_gi T.c_EARTH rfl) (nomark _))
      (pss_one (ps_ret (pe_call (ok_earth T) (hr.mono (by decide)) rfl T.m_earth T.F_earth.kp T.b_earth .nil pass0 (pa_cons (pv 0) pa_nil))))
      pss_nil)
      (pss_cons (ps_if (pt_cmpR op_eq (pv 1) (pe_gi T.c_WHY rfl) (nomark _))
      (pss_one (ps_ret (pe_call (ok_why T) (hr.mono (by decide)) rfl T.m_why T.F_why.kp T.b_why .nil pass0 (pa_cons (pv 0) pa_nil))))
      pss_nil)
      (pss_cons (ps_if (pt_cmpR op_eq (pv 1) (pe_gi T.c_LEASTGRADE rfl) (nomark _))
      (pss_one (ps_ret (pe_call (ok_leastgrade T) (hr.mono (by decide)) rfl T.m_leastgrade T.F_leastgrade.kp T.b_leastgrade .nil pass0 (pa_cons (pv 0) pa_nil))))
      pss_nil)
      (pss_cons (ps_if (pt_cmpR op_eq (pv 1) (pe_gi T.c_STEEP rfl) (nomark _))
      (pss_one (ps_ret (pe_call (ok_steep T) (hr.mono (by decide)) rfl T.m_steep T.F_steep.kp T.b_steep .nil pass0 (pa_cons (pv 0) pa_nil))))
      pss_nil)
      (pss_cons (ps_if (pt_cmpR op_eq (pv 1) (pe_gi T.c_FLAT rfl) (nomark _))
      (pss_one (ps_ret (pe_call (ok_flat T) (hr.mono (by decide)) rfl T.m_flat T.F_flat.kp T.b_flat .nil pass0 (pa_cons (pv 0) pa_nil))))
      pss_nil)
      (pss_cons (ps_if (pt_cmpR op_eq (pv 1) (pe_gi T.c_PROFILE rfl) (nomark _))
      (pss_one (ps_ret (pe_call (ok_profile T) (hr.mono (by decide)) rfl T.m_profile T.F_profile.kp T.b_profile .nil pass0 (pa_cons (pv 0) pa_nil))))
      pss_nil)
      (pss_one (ps_ret (pe_call (ok_state T) (hr.mono (by decide)) rfl T.m_state T.F_state.kp T.b_state .nil pass0 (pa_cons (pv 0) pa_nil))))))))))))), ?_⟩
    simp_arith []
    rcases bareC_cases hc with ⟨rfl, rfl⟩ | ⟨rfl, rfl⟩ | ⟨rfl, rfl⟩ | ⟨rfl, rfl⟩ | ⟨rfl, rfl⟩ | ⟨rfl, rfl⟩ | ⟨rfl, rfl⟩ | ⟨rfl, rfl⟩ | ⟨rfl, rfl⟩ | ⟨rfl, rfl⟩
    all_goals
      repeat' first
        | rw [if_pos (by omega)]
        | rw [if_neg (by omega)]
      exact ⟨r, dx, g, t, a, rfl, R, W, k⟩
theorem ok_answer_look (T : Txt K mg A) : FnOk P w K mg base CX0 8 A.f_answer_look A.d_answer_look ["road", "call", "given"] (spLk A) := by
  refine T.F_answer_look.ok sc_answer_look (fun vs H Q E h => ?_) (fun cdv B outer s H vs Q E hr h => ?_)
  · obtain ⟨_, _, _, _, _, _, _, _, _, rfl, _⟩ := h
    rfl
  · obtain ⟨r, dx, g, t, gv, a, p, ns, c, rfl, R, W, hS, hc, hp7, k⟩ := h
    refine ⟨_, (pss_cons (ps_if (pt_cmpR op_eq (pv 1) (pe_gi T.c_TRIED rfl) (nomark _))
      (pss_one (ps_ret (pe_call (ok_tried T) (hr.mono (by decide)) rfl T.m_tried T.F_tried.kp T.b_tried .nil pass0 (pa_cons (pv 0) (pa_cons (pv 2) pa_nil)))))
      pss_nil)
      (pss_cons (ps_if (pt_cmpR op_eq (pv 1) (pe_gi T.c_IFGRADE rfl) (nomark _))
      (pss_one (ps_ret (pe_call (ok_ifgrade T) (hr.mono (by decide)) rfl T.m_ifgrade T.F_ifgrade.kp T.b_ifgrade .nil pass0 (pa_cons (pv 0) (pa_cons (pe_ix ix_list (pv 2) pe_int (fun _ _ => rfl)) pa_nil)))))
      pss_nil)
      (pss_cons (ps_if (pt_cmpR op_eq (pv 1) (pe_gi T.c_BETWEEN rfl) (nomark _))
      (pss_one (ps_ret (pe_call (ok_between T) (hr.mono (by decide)) rfl T.m_between T.F_between.kp T.b_between .nil pass0 (pa_cons (pv 0) (pa_cons (pe_ix ix_list (pv 2) pe_int (fun _ _ => rfl)) pa_nil)))))
      pss_nil)
      (pss_cons (ps_if (pt_cmpR op_eq (pv 1) (pe_gi T.c_THROUGH rfl) (nomark _))
      (pss_one (ps_ret (pe_call (ok_through T) (hr.mono (by decide)) rfl T.m_through T.F_through.kp T.b_through .nil pass0 (pa_cons (pv 0) (pa_cons (pe_ix ix_list (pv 2) pe_int (fun _ _ => rfl)) (pa_cons (pe_ix ix_list (pv 2) pe_int (fun _ _ => rfl)) pa_nil))))))
      pss_nil)
      (pss_cons (ps_if (pt_cmpR op_eq (pv 1) (pe_gi T.c_WORTH rfl) (nomark _))
      (pss_one (ps_ret (pe_call (ok_worth T) (hr.mono (by decide)) rfl T.m_worth T.F_worth.kp T.b_worth .nil pass0 (pa_cons (pv 0) (pa_cons (pe_ix ix_list (pv 2) pe_int (fun _ _ => rfl)) pa_nil)))))
      pss_nil)
      (pss_cons (ps_if (pt_cmpR op_eq (pv 1) (pe_gi T.c_STATION rfl) (nomark _))
      (pss_one (ps_ret (pe_call (ok_station T) (hr.mono (by decide)) rfl T.m_station T.F_station.kp T.b_station .nil pass0 (pa_cons (pv 0) (pa_cons (pe_ix ix_list (pv 2) pe_int (fun _ _ => rfl)) pa_nil)))))
      pss_nil)
      (pss_one (ps_ret (pe_call (ok_answer_bare_look T) (hr.mono (by decide)) rfl T.m_answer_bare_look T.F_answer_bare_look.kp T.b_answer_bare_look .nil pass0 (pa_cons (pv 0) (pa_cons (pv 1) pa_nil))))))))))), ?_⟩
    simp_arith []
    have two : ∀ {x y : Nat}, ns = [x, y] → (ns.map nv)[0]? = some (V.int x) ∧ (ns.map nv)[1]? = some (V.int y) := fun e => by rw [e]; exact ⟨rfl, rfl⟩
    have one : ∀ {x : Nat}, ns = [x] → (ns.map nv)[0]? = some (V.int x) := fun e => by rw [e]; rfl
    rcases look_cases hc hp7 with ⟨rfl, rfl⟩ | ⟨x, en, h⟩ | ⟨x, y, en, rfl, rfl⟩ | hb
    · rw [if_pos (by omega)]
      exact ⟨r, dx, g, t, gv, a, ns, rfl, R, W, hS, k⟩
    · rcases h with ⟨rfl, rfl⟩ | ⟨rfl, rfl⟩ | ⟨rfl, rfl⟩ | ⟨rfl, rfl⟩
      all_goals
        repeat' first
          | rw [if_pos (by omega)]
          | rw [if_neg (by omega)]
        refine ⟨_, SqL.of hS, _, atI_nat (j := 0) (one en), ?_⟩
        exact ⟨r, dx, g, t, a, x, rfl, R, W, k⟩
    · repeat' first
        | rw [if_pos (by omega)]
        | rw [if_neg (by omega)]
      refine ⟨_, SqL.of hS, _, atI_nat (j := 0) (two en).1, _, SqL.of hS, _, atI_nat (j := 1) (two en).2, ?_⟩
      exact ⟨r, dx, g, t, a, x, y, rfl, R, W, k⟩
    · have hne : p ≠ 11 ∧ p ≠ 14 ∧ p ≠ 15 ∧ p ≠ 16 ∧ p ≠ 17 ∧ p ≠ 20 := by
        rcases bareC_cases hb with ⟨rfl, _⟩ | ⟨rfl, _⟩ | ⟨rfl, _⟩ | ⟨rfl, _⟩ | ⟨rfl, _⟩ | ⟨rfl, _⟩ | ⟨rfl, _⟩ | ⟨rfl, _⟩ | ⟨rfl, _⟩ | ⟨rfl, _⟩ <;> decide
      rw [if_neg (by omega), if_neg (by omega), if_neg (by omega), if_neg (by omega), if_neg (by omega), if_neg (by omega)]
      exact ⟨r, dx, g, t, a, p, c, rfl, R, W, hb, k⟩
end
end LL

set_option Elab.async false
set_option linter.all false
set_option maxRecDepth 100000
set_option maxHeartbeats 4000000
namespace LL
open PySem PySem.Spec PyProof.Rows L2
open PySem.W (Codec)
theorem ofN_nv (cs : List Nat) : (ofN cs).map V.int = cs.map nv := by
  unfold ofN
  rw [List.map_map]
  rfl
theorem ofN_of {l : List Int} (h : ∀ x ∈ l, 0 ≤ x) : l = ofN (l.map Int.toNat) := by
  unfold ofN
  rw [List.map_map]
  have : l.map ((fun n : Nat => (n : Int)) ∘ Int.toNat) = l.map id := List.map_congr_left fun x hx => Int.toNat_of_nonneg (h x hx)
  rw [this, List.map_id]
theorem asked_of {l : List Int} (h0 : ∀ x ∈ l, 0 ≤ x) (h : PyKv363.answers_asked l = true) : ∃ cs raw, l = ofN cs ∧ PyFlat.calls PyKv363.shape cs.length (ofN cs) = some raw ∧ (PyKv363.answers (ofN cs)).length ≤ 10000000 := by
  have e := ofN_of h0
  unfold PyKv363.answers_asked at h
  cases q : PyFlat.calls PyKv363.shape l.length l with
  | none => rw [q] at h; cases h
  | some raw =>
    rw [q] at h
    dsimp only at h
    rw [Bool.and_eq_true] at h
    refine ⟨l.map Int.toNat, raw, e, ?_, ?_⟩
    · rw [← e, List.length_map]
      exact q
    · rw [← e]
      exact of_decide_eq_true h.2
set_option maxHeartbeats 0 in
theorem all_mk {P : Program} {w : World} {K : PySem.W.Frag} {h : Heap} {mg : Str → Option Value} {fa : Addr} (X : K.In h) (G : h.Ns mainGlobals mg) (hfa : mg "answers" = some (.ref fa)) 
    {C : Addr}
    {f0 : Addr} {od0 an0 : Option Addr} {sl0 : Array (Option Value)} {oc0 kV0 dc0 pm0 cd0 ct0 : Value}
    {f1 : Addr} {od1 an1 : Option Addr} {sl1 : Array (Option Value)} {oc1 kV1 dc1 pm1 cd1 ct1 : Value}
    {f2 : Addr} {od2 an2 : Option Addr} {sl2 : Array (Option Value)} {oc2 kV2 dc2 pm2 cd2 ct2 : Value}
    {f3 : Addr} {od3 an3 : Option Addr} {sl3 : Array (Option Value)} {oc3 kV3 dc3 pm3 cd3 ct3 : Value}
    {f4 : Addr} {od4 an4 : Option Addr} {sl4 : Array (Option Value)} {oc4 kV4 dc4 pm4 cd4 ct4 : Value}
    {f5 : Addr} {od5 an5 : Option Addr} {sl5 : Array (Option Value)} {oc5 kV5 dc5 pm5 cd5 ct5 : Value}
    {f6 : Addr} {od6 an6 : Option Addr} {sl6 : Array (Option Value)} {oc6 kV6 dc6 pm6 cd6 ct6 : Value}
    {f7 : Addr} {od7 an7 : Option Addr} {sl7 : Array (Option Value)} {oc7 kV7 dc7 pm7 cd7 ct7 : Value}
    {f8 : Addr} {od8 an8 : Option Addr} {sl8 : Array (Option Value)} {oc8 kV8 dc8 pm8 cd8 ct8 : Value}
    {f9 : Addr} {od9 an9 : Option Addr} {sl9 : Array (Option Value)} {oc9 kV9 dc9 pm9 cd9 ct9 : Value}
    {f10 : Addr} {od10 an10 : Option Addr} {sl10 : Array (Option Value)} {oc10 kV10 dc10 pm10 cd10 ct10 : Value}
    {f11 : Addr} {od11 an11 : Option Addr} {sl11 : Array (Option Value)} {oc11 kV11 dc11 pm11 cd11 ct11 : Value}
    {f12 : Addr} {od12 an12 : Option Addr} {sl12 : Array (Option Value)} {oc12 kV12 dc12 pm12 cd12 ct12 : Value}
    {f13 : Addr} {od13 an13 : Option Addr} {sl13 : Array (Option Value)} {oc13 kV13 dc13 pm13 cd13 ct13 : Value}
    {f14 : Addr} {od14 an14 : Option Addr} {sl14 : Array (Option Value)} {oc14 kV14 dc14 pm14 cd14 ct14 : Value}
    {f15 : Addr} {od15 an15 : Option Addr} {sl15 : Array (Option Value)} {oc15 kV15 dc15 pm15 cd15 ct15 : Value}
    {f16 : Addr} {od16 an16 : Option Addr} {sl16 : Array (Option Value)} {oc16 kV16 dc16 pm16 cd16 ct16 : Value}
    {f17 : Addr} {od17 an17 : Option Addr} {sl17 : Array (Option Value)} {oc17 kV17 dc17 pm17 cd17 ct17 : Value}
    {f18 : Addr} {od18 an18 : Option Addr} {sl18 : Array (Option Value)} {oc18 kV18 dc18 pm18 cd18 ct18 : Value}
    {f19 : Addr} {od19 an19 : Option Addr} {sl19 : Array (Option Value)} {oc19 kV19 dc19 pm19 cd19 ct19 : Value}
    {f20 : Addr} {od20 an20 : Option Addr} {sl20 : Array (Option Value)} {oc20 kV20 dc20 pm20 cd20 ct20 : Value}
    {f21 : Addr} {od21 an21 : Option Addr} {sl21 : Array (Option Value)} {oc21 kV21 dc21 pm21 cd21 ct21 : Value}
    {f22 : Addr} {od22 an22 : Option Addr} {sl22 : Array (Option Value)} {oc22 kV22 dc22 pm22 cd22 ct22 : Value}
    {f23 : Addr} {od23 an23 : Option Addr} {sl23 : Array (Option Value)} {oc23 kV23 dc23 pm23 cd23 ct23 : Value}
    {f24 : Addr} {od24 an24 : Option Addr} {sl24 : Array (Option Value)} {oc24 kV24 dc24 pm24 cd24 ct24 : Value}
    {f25 : Addr} {od25 an25 : Option Addr} {sl25 : Array (Option Value)} {oc25 kV25 dc25 pm25 cd25 ct25 : Value}
    {f26 : Addr} {od26 an26 : Option Addr} {sl26 : Array (Option Value)} {oc26 kV26 dc26 pm26 cd26 ct26 : Value}
    {f27 : Addr} {od27 an27 : Option Addr} {sl27 : Array (Option Value)} {oc27 kV27 dc27 pm27 cd27 ct27 : Value}
    {f28 : Addr} {od28 an28 : Option Addr} {sl28 : Array (Option Value)} {oc28 kV28 dc28 pm28 cd28 ct28 : Value}
    {f29 : Addr} {od29 an29 : Option Addr} {sl29 : Array (Option Value)} {oc29 kV29 dc29 pm29 cd29 ct29 : Value}
    {f30 : Addr} {od30 an30 : Option Addr} {sl30 : Array (Option Value)} {oc30 kV30 dc30 pm30 cd30 ct30 : Value}
    {f31 : Addr} {od31 an31 : Option Addr} {sl31 : Array (Option Value)} {oc31 kV31 dc31 pm31 cd31 ct31 : Value}
    {f32 : Addr} {od32 an32 : Option Addr} {sl32 : Array (Option Value)} {oc32 kV32 dc32 pm32 cd32 ct32 : Value}
    {f33 : Addr} {od33 an33 : Option Addr} {sl33 : Array (Option Value)} {oc33 kV33 dc33 pm33 cd33 ct33 : Value}
    {f34 : Addr} {od34 an34 : Option Addr} {sl34 : Array (Option Value)} {oc34 kV34 dc34 pm34 cd34 ct34 : Value}
    {f35 : Addr} {od35 an35 : Option Addr} {sl35 : Array (Option Value)} {oc35 kV35 dc35 pm35 cd35 ct35 : Value}
    {f36 : Addr} {od36 an36 : Option Addr} {sl36 : Array (Option Value)} {oc36 kV36 dc36 pm36 cd36 ct36 : Value}
    {f37 : Addr} {od37 an37 : Option Addr} {sl37 : Array (Option Value)} {oc37 kV37 dc37 pm37 cd37 ct37 : Value}
    {f38 : Addr} {od38 an38 : Option Addr} {sl38 : Array (Option Value)} {oc38 kV38 dc38 pm38 cd38 ct38 : Value}
    {f39 : Addr} {od39 an39 : Option Addr} {sl39 : Array (Option Value)} {oc39 kV39 dc39 pm39 cd39 ct39 : Value}
    {f40 : Addr} {od40 an40 : Option Addr} {sl40 : Array (Option Value)} {oc40 kV40 dc40 pm40 cd40 ct40 : Value}
    {f41 : Addr} {od41 an41 : Option Addr} {sl41 : Array (Option Value)} {oc41 kV41 dc41 pm41 cd41 ct41 : Value}
    {f42 : Addr} {od42 an42 : Option Addr} {sl42 : Array (Option Value)} {oc42 kV42 dc42 pm42 cd42 ct42 : Value}
    {f43 : Addr} {od43 an43 : Option Addr} {sl43 : Array (Option Value)} {oc43 kV43 dc43 pm43 cd43 ct43 : Value}
    {f44 : Addr} {od44 an44 : Option Addr} {sl44 : Array (Option Value)} {oc44 kV44 dc44 pm44 cd44 ct44 : Value}
    {f45 : Addr} {od45 an45 : Option Addr} {sl45 : Array (Option Value)} {oc45 kV45 dc45 pm45 cd45 ct45 : Value}
    {f46 : Addr} {od46 an46 : Option Addr} {sl46 : Array (Option Value)} {oc46 kV46 dc46 pm46 cd46 ct46 : Value}
    {f47 : Addr} {od47 an47 : Option Addr} {sl47 : Array (Option Value)} {oc47 kV47 dc47 pm47 cd47 ct47 : Value}
    {f48 : Addr} {od48 an48 : Option Addr} {sl48 : Array (Option Value)} {oc48 kV48 dc48 pm48 cd48 ct48 : Value}
    {f49 : Addr} {od49 an49 : Option Addr} {sl49 : Array (Option Value)} {oc49 kV49 dc49 pm49 cd49 ct49 : Value}
    {f50 : Addr} {od50 an50 : Option Addr} {sl50 : Array (Option Value)} {oc50 kV50 dc50 pm50 cd50 ct50 : Value}
    {f51 : Addr} {od51 an51 : Option Addr} {sl51 : Array (Option Value)} {oc51 kV51 dc51 pm51 cd51 ct51 : Value}
    {f52 : Addr} {od52 an52 : Option Addr} {sl52 : Array (Option Value)} {oc52 kV52 dc52 pm52 cd52 ct52 : Value}
    {f53 : Addr} {od53 an53 : Option Addr} {sl53 : Array (Option Value)} {oc53 kV53 dc53 pm53 cd53 ct53 : Value}
    {f54 : Addr} {od54 an54 : Option Addr} {sl54 : Array (Option Value)} {oc54 kV54 dc54 pm54 cd54 ct54 : Value}
    {f55 : Addr} {od55 an55 : Option Addr} {sl55 : Array (Option Value)} {oc55 kV55 dc55 pm55 cd55 ct55 : Value}
    {f56 : Addr} {od56 an56 : Option Addr} {sl56 : Array (Option Value)} {oc56 kV56 dc56 pm56 cd56 ct56 : Value}
    {f57 : Addr} {od57 an57 : Option Addr} {sl57 : Array (Option Value)} {oc57 kV57 dc57 pm57 cd57 ct57 : Value}
    {f58 : Addr} {od58 an58 : Option Addr} {sl58 : Array (Option Value)} {oc58 kV58 dc58 pm58 cd58 ct58 : Value}
    {f59 : Addr} {od59 an59 : Option Addr} {sl59 : Array (Option Value)} {oc59 kV59 dc59 pm59 cd59 ct59 : Value}
    {t0 : Tok}
    {t1 : Tok}
    {t2 : Tok}
    {t3 : Tok}
    {t4 : Tok}
    {t5 : Tok}
    {t6 : Tok}
    {t7 : Tok}
    {t8 : Tok}
    {t9 : Tok}
    {t10 : Tok}
    {t11 : Tok}
    {t12 : Tok}
    {t13 : Tok}
    {t14 : Tok}
    {t15 : Tok}
    {t16 : Tok}
    {t17 : Tok}
    {t18 : Tok}
    {t19 : Tok}
    {t20 : Tok}
    {t21 : Tok}
    {t22 : Tok}
    {t23 : Tok}
    {t24 : Tok}
    {t25 : Tok}
    {t26 : Tok}
    {t27 : Tok}
    {t28 : Tok}
    {t29 : Tok}
    {t30 : Tok}
    {t31 : Tok}
    {t32 : Tok}
    {t33 : Tok}
    {t34 : Tok}
    {ta35 : Addr} {oda35 : Option Addr} {sla35 : Array (Option Value)} {na35 : Nat} {t35_0 t35_1 t35_2 t35_3 t35_4 t35_5 t35_6 t35_7 t35_8 t35_9 t35_10 t35_11 t35_12 t35_13 t35_14 t35_15 t35_16 t35_17 t35_18 t35_19 t35_20 t35_21 t35_22 : Tok}
    (aC : PySem.W.nsIn K mainGlobals "Road" = some (some (.ref C)))
    (a0 : PySem.W.nsIn K mainGlobals "is_height" = some (some (.ref f0)))
    (l0 : K.lookup f0 = some ⟨oc0, od0, .func (PySem.W.fnOf "is_height" "is_height" (defArgs s_is_height) (defBody s_is_height) (defScope s_is_height) .none kV0 dc0 pm0 an0 cd0 ct0), sl0⟩)
    (c0 : PySem.W.codeIn K cd0 "is_height" = true)
    (k0 : PySem.W.keepIn K (.ref f0) = true)
    (a1 : PySem.W.nsIn K mainGlobals "are_heights" = some (some (.ref f1)))
    (l1 : K.lookup f1 = some ⟨oc1, od1, .func (PySem.W.fnOf "are_heights" "are_heights" (defArgs s_are_heights) (defBody s_are_heights) (defScope s_are_heights) .none kV1 dc1 pm1 an1 cd1 ct1), sl1⟩)
    (c1 : PySem.W.codeIn K cd1 "are_heights" = true)
    (k1 : PySem.W.keepIn K (.ref f1) = true)
    (a2 : PySem.W.nsIn K mainGlobals "is_price" = some (some (.ref f2)))
    (l2 : K.lookup f2 = some ⟨oc2, od2, .func (PySem.W.fnOf "is_price" "is_price" (defArgs s_is_price) (defBody s_is_price) (defScope s_is_price) .none kV2 dc2 pm2 an2 cd2 ct2), sl2⟩)
    (c2 : PySem.W.codeIn K cd2 "is_price" = true)
    (k2 : PySem.W.keepIn K (.ref f2) = true)
    (a3 : PySem.W.nsIn K mainGlobals "why" = some (some (.ref f3)))
    (l3 : K.lookup f3 = some ⟨oc3, od3, .func (PySem.W.fnOf "why" "why" (defArgs s_why) (defBody s_why) (defScope s_why) .none kV3 dc3 pm3 an3 cd3 ct3), sl3⟩)
    (c3 : PySem.W.codeIn K cd3 "why" = true)
    (k3 : PySem.W.keepIn K (.ref f3) = true)
    (a4 : PySem.W.nsIn K mainGlobals "leastgrade" = some (some (.ref f4)))
    (l4 : K.lookup f4 = some ⟨oc4, od4, .func (PySem.W.fnOf "leastgrade" "leastgrade" (defArgs s_leastgrade) (defBody s_leastgrade) (defScope s_leastgrade) .none kV4 dc4 pm4 an4 cd4 ct4), sl4⟩)
    (c4 : PySem.W.codeIn K cd4 "leastgrade" = true)
    (k4 : PySem.W.keepIn K (.ref f4) = true)
    (a5 : PySem.W.nsIn K mainGlobals "between" = some (some (.ref f5)))
    (l5 : K.lookup f5 = some ⟨oc5, od5, .func (PySem.W.fnOf "between" "between" (defArgs s_between) (defBody s_between) (defScope s_between) .none kV5 dc5 pm5 an5 cd5 ct5), sl5⟩)
    (c5 : PySem.W.codeIn K cd5 "between" = true)
    (k5 : PySem.W.keepIn K (.ref f5) = true)
    (a6 : PySem.W.nsIn K mainGlobals "first_too_far" = some (some (.ref f6)))
    (l6 : K.lookup f6 = some ⟨oc6, od6, .func (PySem.W.fnOf "first_too_far" "first_too_far" (defArgs s_first_too_far) (defBody s_first_too_far) (defScope s_first_too_far) .none kV6 dc6 pm6 an6 cd6 ct6), sl6⟩)
    (c6 : PySem.W.codeIn K cd6 "first_too_far" = true)
    (k6 : PySem.W.keepIn K (.ref f6) = true)
    (a7 : PySem.W.nsIn K mainGlobals "is_too_far" = some (some (.ref f7)))
    (l7 : K.lookup f7 = some ⟨oc7, od7, .func (PySem.W.fnOf "is_too_far" "is_too_far" (defArgs s_is_too_far) (defBody s_is_too_far) (defScope s_is_too_far) .none kV7 dc7 pm7 an7 cd7 ct7), sl7⟩)
    (c7 : PySem.W.codeIn K cd7 "is_too_far" = true)
    (k7 : PySem.W.keepIn K (.ref f7) = true)
    (a8 : PySem.W.nsIn K mainGlobals "lowest" = some (some (.ref f8)))
    (l8 : K.lookup f8 = some ⟨oc8, od8, .func (PySem.W.fnOf "lowest" "lowest" (defArgs s_lowest) (defBody s_lowest) (defScope s_lowest) .none kV8 dc8 pm8 an8 cd8 ct8), sl8⟩)
    (c8 : PySem.W.codeIn K cd8 "lowest" = true)
    (k8 : PySem.W.keepIn K (.ref f8) = true)
    (a9 : PySem.W.nsIn K mainGlobals "highest" = some (some (.ref f9)))
    (l9 : K.lookup f9 = some ⟨oc9, od9, .func (PySem.W.fnOf "highest" "highest" (defArgs s_highest) (defBody s_highest) (defScope s_highest) .none kV9 dc9 pm9 an9 cd9 ct9), sl9⟩)
    (c9 : PySem.W.codeIn K cd9 "highest" = true)
    (k9 : PySem.W.keepIn K (.ref f9) = true)
    (a10 : PySem.W.nsIn K mainGlobals "reach" = some (some (.ref f10)))
    (l10 : K.lookup f10 = some ⟨oc10, od10, .func (PySem.W.fnOf "reach" "reach" (defArgs s_reach) (defBody s_reach) (defScope s_reach) .none kV10 dc10 pm10 an10 cd10 ct10), sl10⟩)
    (c10 : PySem.W.codeIn K cd10 "reach" = true)
    (k10 : PySem.W.keepIn K (.ref f10) = true)
    (a11 : PySem.W.nsIn K mainGlobals "is_line" = some (some (.ref f11)))
    (l11 : K.lookup f11 = some ⟨oc11, od11, .func (PySem.W.fnOf "is_line" "is_line" (defArgs s_is_line) (defBody s_is_line) (defScope s_is_line) .none kV11 dc11 pm11 an11 cd11 ct11), sl11⟩)
    (c11 : PySem.W.codeIn K cd11 "is_line" = true)
    (k11 : PySem.W.keepIn K (.ref f11) = true)
    (a12 : PySem.W.nsIn K mainGlobals "keeps_told" = some (some (.ref f12)))
    (l12 : K.lookup f12 = some ⟨oc12, od12, .func (PySem.W.fnOf "keeps_told" "keeps_told" (defArgs s_keeps_told) (defBody s_keeps_told) (defScope s_keeps_told) .none kV12 dc12 pm12 an12 cd12 ct12), sl12⟩)
    (c12 : PySem.W.codeIn K cd12 "keeps_told" = true)
    (k12 : PySem.W.keepIn K (.ref f12) = true)
    (a13 : PySem.W.nsIn K mainGlobals "keeps_grade" = some (some (.ref f13)))
    (l13 : K.lookup f13 = some ⟨oc13, od13, .func (PySem.W.fnOf "keeps_grade" "keeps_grade" (defArgs s_keeps_grade) (defBody s_keeps_grade) (defScope s_keeps_grade) .none kV13 dc13 pm13 an13 cd13 ct13), sl13⟩)
    (c13 : PySem.W.codeIn K cd13 "keeps_grade" = true)
    (k13 : PySem.W.keepIn K (.ref f13) = true)
    (a14 : PySem.W.nsIn K mainGlobals "cut_of" = some (some (.ref f14)))
    (l14 : K.lookup f14 = some ⟨oc14, od14, .func (PySem.W.fnOf "cut_of" "cut_of" (defArgs s_cut_of) (defBody s_cut_of) (defScope s_cut_of) .none kV14 dc14 pm14 an14 cd14 ct14), sl14⟩)
    (c14 : PySem.W.codeIn K cd14 "cut_of" = true)
    (k14 : PySem.W.keepIn K (.ref f14) = true)
    (a15 : PySem.W.nsIn K mainGlobals "filled_of" = some (some (.ref f15)))
    (l15 : K.lookup f15 = some ⟨oc15, od15, .func (PySem.W.fnOf "filled_of" "filled_of" (defArgs s_filled_of) (defBody s_filled_of) (defScope s_filled_of) .none kV15 dc15 pm15 an15 cd15 ct15), sl15⟩)
    (c15 : PySem.W.codeIn K cd15 "filled_of" = true)
    (k15 : PySem.W.keepIn K (.ref f15) = true)
    (a16 : PySem.W.nsIn K mainGlobals "cost_of" = some (some (.ref f16)))
    (l16 : K.lookup f16 = some ⟨oc16, od16, .func (PySem.W.fnOf "cost_of" "cost_of" (defArgs s_cost_of) (defBody s_cost_of) (defScope s_cost_of) .none kV16 dc16 pm16 an16 cd16 ct16), sl16⟩)
    (c16 : PySem.W.codeIn K cd16 "cost_of" = true)
    (k16 : PySem.W.keepIn K (.ref f16) = true)
    (a17 : PySem.W.nsIn K mainGlobals "least_cost" = some (some (.ref f17)))
    (l17 : K.lookup f17 = some ⟨oc17, od17, .func (PySem.W.fnOf "least_cost" "least_cost" (defArgs s_least_cost) (defBody s_least_cost) (defScope s_least_cost) .none kV17 dc17 pm17 an17 cd17 ct17), sl17⟩)
    (c17 : PySem.W.codeIn K cd17 "least_cost" = true)
    (k17 : PySem.W.keepIn K (.ref f17) = true)
    (a18 : PySem.W.nsIn K mainGlobals "cheapest" = some (some (.ref f18)))
    (l18 : K.lookup f18 = some ⟨oc18, od18, .func (PySem.W.fnOf "cheapest" "cheapest" (defArgs s_cheapest) (defBody s_cheapest) (defScope s_cheapest) .none kV18 dc18 pm18 an18 cd18 ct18), sl18⟩)
    (c18 : PySem.W.codeIn K cd18 "cheapest" = true)
    (k18 : PySem.W.keepIn K (.ref f18) = true)
    (a19 : PySem.W.nsIn K mainGlobals "costs_onward" = some (some (.ref f19)))
    (l19 : K.lookup f19 = some ⟨oc19, od19, .func (PySem.W.fnOf "costs_onward" "costs_onward" (defArgs s_costs_onward) (defBody s_costs_onward) (defScope s_costs_onward) .none kV19 dc19 pm19 an19 cd19 ct19), sl19⟩)
    (c19 : PySem.W.codeIn K cd19 "costs_onward" = true)
    (k19 : PySem.W.keepIn K (.ref f19) = true)
    (a20 : PySem.W.nsIn K mainGlobals "costs_at" = some (some (.ref f20)))
    (l20 : K.lookup f20 = some ⟨oc20, od20, .func (PySem.W.fnOf "costs_at" "costs_at" (defArgs s_costs_at) (defBody s_costs_at) (defScope s_costs_at) .none kV20 dc20 pm20 an20 cd20 ct20), sl20⟩)
    (c20 : PySem.W.codeIn K cd20 "costs_at" = true)
    (k20 : PySem.W.keepIn K (.ref f20) = true)
    (a21 : PySem.W.nsIn K mainGlobals "cost_at" = some (some (.ref f21)))
    (l21 : K.lookup f21 = some ⟨oc21, od21, .func (PySem.W.fnOf "cost_at" "cost_at" (defArgs s_cost_at) (defBody s_cost_at) (defScope s_cost_at) .none kV21 dc21 pm21 an21 cd21 ct21), sl21⟩)
    (c21 : PySem.W.codeIn K cd21 "cost_at" = true)
    (k21 : PySem.W.keepIn K (.ref f21) = true)
    (a22 : PySem.W.nsIn K mainGlobals "costs_with_rest" = some (some (.ref f22)))
    (l22 : K.lookup f22 = some ⟨oc22, od22, .func (PySem.W.fnOf "costs_with_rest" "costs_with_rest" (defArgs s_costs_with_rest) (defBody s_costs_with_rest) (defScope s_costs_with_rest) .none kV22 dc22 pm22 an22 cd22 ct22), sl22⟩)
    (c22 : PySem.W.codeIn K cd22 "costs_with_rest" = true)
    (k22 : PySem.W.keepIn K (.ref f22) = true)
    (a23 : PySem.W.nsIn K mainGlobals "best_step" = some (some (.ref f23)))
    (l23 : K.lookup f23 = some ⟨oc23, od23, .func (PySem.W.fnOf "best_step" "best_step" (defArgs s_best_step) (defBody s_best_step) (defScope s_best_step) .none kV23 dc23 pm23 an23 cd23 ct23), sl23⟩)
    (c23 : PySem.W.codeIn K cd23 "best_step" = true)
    (k23 : PySem.W.keepIn K (.ref f23) = true)
    (a24 : PySem.W.nsIn K mainGlobals "can" = some (some (.ref f24)))
    (l24 : K.lookup f24 = some ⟨oc24, od24, .func (PySem.W.fnOf "can" "can" (defArgs s_can) (defBody s_can) (defScope s_can) .none kV24 dc24 pm24 an24 cd24 ct24), sl24⟩)
    (c24 : PySem.W.codeIn K cd24 "can" = true)
    (k24 : PySem.W.keepIn K (.ref f24) = true)
    (a25 : PySem.W.nsIn K mainGlobals "cost" = some (some (.ref f25)))
    (l25 : K.lookup f25 = some ⟨oc25, od25, .func (PySem.W.fnOf "cost" "cost" (defArgs s_cost) (defBody s_cost) (defScope s_cost) .none kV25 dc25 pm25 an25 cd25 ct25), sl25⟩)
    (c25 : PySem.W.codeIn K cd25 "cost" = true)
    (k25 : PySem.W.keepIn K (.ref f25) = true)
    (a26 : PySem.W.nsIn K mainGlobals "line" = some (some (.ref f26)))
    (l26 : K.lookup f26 = some ⟨oc26, od26, .func (PySem.W.fnOf "line" "line" (defArgs s_line) (defBody s_line) (defScope s_line) .none kV26 dc26 pm26 an26 cd26 ct26), sl26⟩)
    (c26 : PySem.W.codeIn K cd26 "line" = true)
    (k26 : PySem.W.keepIn K (.ref f26) = true)
    (a27 : PySem.W.nsIn K mainGlobals "earth" = some (some (.ref f27)))
    (l27 : K.lookup f27 = some ⟨oc27, od27, .func (PySem.W.fnOf "earth" "earth" (defArgs s_earth) (defBody s_earth) (defScope s_earth) .none kV27 dc27 pm27 an27 cd27 ct27), sl27⟩)
    (c27 : PySem.W.codeIn K cd27 "earth" = true)
    (k27 : PySem.W.keepIn K (.ref f27) = true)
    (a28 : PySem.W.nsIn K mainGlobals "tried" = some (some (.ref f28)))
    (l28 : K.lookup f28 = some ⟨oc28, od28, .func (PySem.W.fnOf "tried" "tried" (defArgs s_tried) (defBody s_tried) (defScope s_tried) .none kV28 dc28 pm28 an28 cd28 ct28), sl28⟩)
    (c28 : PySem.W.codeIn K cd28 "tried" = true)
    (k28 : PySem.W.keepIn K (.ref f28) = true)
    (a29 : PySem.W.nsIn K mainGlobals "steep" = some (some (.ref f29)))
    (l29 : K.lookup f29 = some ⟨oc29, od29, .func (PySem.W.fnOf "steep" "steep" (defArgs s_steep) (defBody s_steep) (defScope s_steep) .none kV29 dc29 pm29 an29 cd29 ct29), sl29⟩)
    (c29 : PySem.W.codeIn K cd29 "steep" = true)
    (k29 : PySem.W.keepIn K (.ref f29) = true)
    (a30 : PySem.W.nsIn K mainGlobals "flat" = some (some (.ref f30)))
    (l30 : K.lookup f30 = some ⟨oc30, od30, .func (PySem.W.fnOf "flat" "flat" (defArgs s_flat) (defBody s_flat) (defScope s_flat) .none kV30 dc30 pm30 an30 cd30 ct30), sl30⟩)
    (c30 : PySem.W.codeIn K cd30 "flat" = true)
    (k30 : PySem.W.keepIn K (.ref f30) = true)
    (a31 : PySem.W.nsIn K mainGlobals "longest_level" = some (some (.ref f31)))
    (l31 : K.lookup f31 = some ⟨oc31, od31, .func (PySem.W.fnOf "longest_level" "longest_level" (defArgs s_longest_level) (defBody s_longest_level) (defScope s_longest_level) .none kV31 dc31 pm31 an31 cd31 ct31), sl31⟩)
    (c31 : PySem.W.codeIn K cd31 "longest_level" = true)
    (k31 : PySem.W.keepIn K (.ref f31) = true)
    (a32 : PySem.W.nsIn K mainGlobals "station" = some (some (.ref f32)))
    (l32 : K.lookup f32 = some ⟨oc32, od32, .func (PySem.W.fnOf "station" "station" (defArgs s_station) (defBody s_station) (defScope s_station) .none kV32 dc32 pm32 an32 cd32 ct32), sl32⟩)
    (c32 : PySem.W.codeIn K cd32 "station" = true)
    (k32 : PySem.W.keepIn K (.ref f32) = true)
    (a33 : PySem.W.nsIn K mainGlobals "profile" = some (some (.ref f33)))
    (l33 : K.lookup f33 = some ⟨oc33, od33, .func (PySem.W.fnOf "profile" "profile" (defArgs s_profile) (defBody s_profile) (defScope s_profile) .none kV33 dc33 pm33 an33 cd33 ct33), sl33⟩)
    (c33 : PySem.W.codeIn K cd33 "profile" = true)
    (k33 : PySem.W.keepIn K (.ref f33) = true)
    (a34 : PySem.W.nsIn K mainGlobals "state" = some (some (.ref f34)))
    (l34 : K.lookup f34 = some ⟨oc34, od34, .func (PySem.W.fnOf "state" "state" (defArgs s_state) (defBody s_state) (defScope s_state) .none kV34 dc34 pm34 an34 cd34 ct34), sl34⟩)
    (c34 : PySem.W.codeIn K cd34 "state" = true)
    (k34 : PySem.W.keepIn K (.ref f34) = true)
    (a35 : PySem.W.findIn K (.ref C) "__init__" = some (some (.ref f35)))
    (i35 : PySem.W.isFn K (.ref f35) = true)
    (l35 : K.lookup f35 = some ⟨oc35, od35, .func (PySem.W.fnOf "__init__" "Road.__init__" (defArgs s_Road_init) (defBody s_Road_init) (defScope s_Road_init) .none kV35 dc35 pm35 an35 cd35 ct35), sl35⟩)
    (c35 : PySem.W.codeIn K cd35 "Road.__init__" = true)
    (k35 : PySem.W.keepIn K (.ref f35) = true)
    (a36 : PySem.W.findIn K (.ref C) "begun" = some (some (.ref f36)))
    (i36 : PySem.W.isFn K (.ref f36) = true)
    (l36 : K.lookup f36 = some ⟨oc36, od36, .func (PySem.W.fnOf "begun" "Road.begun" (defArgs s_Road_begun) (defBody s_Road_begun) (defScope s_Road_begun) .none kV36 dc36 pm36 an36 cd36 ct36), sl36⟩)
    (c36 : PySem.W.codeIn K cd36 "Road.begun" = true)
    (k36 : PySem.W.keepIn K (.ref f36) = true)
    (a37 : PySem.W.findIn K (.ref C) "begin" = some (some (.ref f37)))
    (i37 : PySem.W.isFn K (.ref f37) = true)
    (l37 : K.lookup f37 = some ⟨oc37, od37, .func (PySem.W.fnOf "begin" "Road.begin" (defArgs s_Road_begin) (defBody s_Road_begin) (defScope s_Road_begin) .none kV37 dc37 pm37 an37 cd37 ct37), sl37⟩)
    (c37 : PySem.W.codeIn K cd37 "Road.begin" = true)
    (k37 : PySem.W.keepIn K (.ref f37) = true)
    (a38 : PySem.W.findIn K (.ref C) "tell_ends" = some (some (.ref f38)))
    (i38 : PySem.W.isFn K (.ref f38) = true)
    (l38 : K.lookup f38 = some ⟨oc38, od38, .func (PySem.W.fnOf "tell_ends" "Road.tell_ends" (defArgs s_Road_tell_ends) (defBody s_Road_tell_ends) (defScope s_Road_tell_ends) .none kV38 dc38 pm38 an38 cd38 ct38), sl38⟩)
    (c38 : PySem.W.codeIn K cd38 "Road.tell_ends" = true)
    (k38 : PySem.W.keepIn K (.ref f38) = true)
    (a39 : PySem.W.findIn K (.ref C) "change_grade" = some (some (.ref f39)))
    (i39 : PySem.W.isFn K (.ref f39) = true)
    (l39 : K.lookup f39 = some ⟨oc39, od39, .func (PySem.W.fnOf "change_grade" "Road.change_grade" (defArgs s_Road_change_grade) (defBody s_Road_change_grade) (defScope s_Road_change_grade) .none kV39 dc39 pm39 an39 cd39 ct39), sl39⟩)
    (c39 : PySem.W.codeIn K cd39 "Road.change_grade" = true)
    (k39 : PySem.W.keepIn K (.ref f39) = true)
    (a40 : PySem.W.findIn K (.ref C) "change_prices" = some (some (.ref f40)))
    (i40 : PySem.W.isFn K (.ref f40) = true)
    (l40 : K.lookup f40 = some ⟨oc40, od40, .func (PySem.W.fnOf "change_prices" "Road.change_prices" (defArgs s_Road_change_prices) (defBody s_Road_change_prices) (defScope s_Road_change_prices) .none kV40 dc40 pm40 an40 cd40 ct40), sl40⟩)
    (c40 : PySem.W.codeIn K cd40 "Road.change_prices" = true)
    (k40 : PySem.W.keepIn K (.ref f40) = true)
    (a41 : PySem.W.findIn K (.ref C) "change_ground" = some (some (.ref f41)))
    (i41 : PySem.W.isFn K (.ref f41) = true)
    (l41 : K.lookup f41 = some ⟨oc41, od41, .func (PySem.W.fnOf "change_ground" "Road.change_ground" (defArgs s_Road_change_ground) (defBody s_Road_change_ground) (defScope s_Road_change_ground) .none kV41 dc41 pm41 an41 cd41 ct41), sl41⟩)
    (c41 : PySem.W.codeIn K cd41 "Road.change_ground" = true)
    (k41 : PySem.W.keepIn K (.ref f41) = true)
    (a42 : PySem.W.findIn K (.ref C) "fix" = some (some (.ref f42)))
    (i42 : PySem.W.isFn K (.ref f42) = true)
    (l42 : K.lookup f42 = some ⟨oc42, od42, .func (PySem.W.fnOf "fix" "Road.fix" (defArgs s_Road_fix) (defBody s_Road_fix) (defScope s_Road_fix) .none kV42 dc42 pm42 an42 cd42 ct42), sl42⟩)
    (c42 : PySem.W.codeIn K cd42 "Road.fix" = true)
    (k42 : PySem.W.keepIn K (.ref f42) = true)
    (a43 : PySem.W.findIn K (.ref C) "free" = some (some (.ref f43)))
    (i43 : PySem.W.isFn K (.ref f43) = true)
    (l43 : K.lookup f43 = some ⟨oc43, od43, .func (PySem.W.fnOf "free" "Road.free" (defArgs s_Road_free) (defBody s_Road_free) (defScope s_Road_free) .none kV43 dc43 pm43 an43 cd43 ct43), sl43⟩)
    (c43 : PySem.W.codeIn K cd43 "Road.free" = true)
    (k43 : PySem.W.keepIn K (.ref f43) = true)
    (a44 : PySem.W.findIn K (.ref C) "copied" = some (some (.ref f44)))
    (i44 : PySem.W.isFn K (.ref f44) = true)
    (l44 : K.lookup f44 = some ⟨oc44, od44, .func (PySem.W.fnOf "copied" "Road.copied" (defArgs s_Road_copied) (defBody s_Road_copied) (defScope s_Road_copied) .none kV44 dc44 pm44 an44 cd44 ct44), sl44⟩)
    (c44 : PySem.W.codeIn K cd44 "Road.copied" = true)
    (k44 : PySem.W.keepIn K (.ref f44) = true)
    (a45 : PySem.W.findIn K (.ref C) "told_stations" = some (some (.ref f45)))
    (i45 : PySem.W.isFn K (.ref f45) = true)
    (l45 : K.lookup f45 = some ⟨oc45, od45, .func (PySem.W.fnOf "told_stations" "Road.told_stations" (defArgs s_Road_told_stations) (defBody s_Road_told_stations) (defScope s_Road_told_stations) .none kV45 dc45 pm45 an45 cd45 ct45), sl45⟩)
    (c45 : PySem.W.codeIn K cd45 "Road.told_stations" = true)
    (k45 : PySem.W.keepIn K (.ref f45) = true)
    (a46 : PySem.W.findIn K (.ref C) "one_more_than_told" = some (some (.ref f46)))
    (i46 : PySem.W.isFn K (.ref f46) = true)
    (l46 : K.lookup f46 = some ⟨oc46, od46, .func (PySem.W.fnOf "one_more_than_told" "Road.one_more_than_told" (defArgs s_Road_one_more_than_told) (defBody s_Road_one_more_than_told) (defScope s_Road_one_more_than_told) .none kV46 dc46 pm46 an46 cd46 ct46), sl46⟩)
    (c46 : PySem.W.codeIn K cd46 "Road.one_more_than_told" = true)
    (k46 : PySem.W.keepIn K (.ref f46) = true)
    (a47 : PySem.W.findIn K (.ref C) "has_station" = some (some (.ref f47)))
    (i47 : PySem.W.isFn K (.ref f47) = true)
    (l47 : K.lookup f47 = some ⟨oc47, od47, .func (PySem.W.fnOf "has_station" "Road.has_station" (defArgs s_Road_has_station) (defBody s_Road_has_station) (defScope s_Road_has_station) .none kV47 dc47 pm47 an47 cd47 ct47), sl47⟩)
    (c47 : PySem.W.codeIn K cd47 "Road.has_station" = true)
    (k47 : PySem.W.keepIn K (.ref f47) = true)
    (a48 : PySem.W.findIn K (.ref C) "is_end" = some (some (.ref f48)))
    (i48 : PySem.W.isFn K (.ref f48) = true)
    (l48 : K.lookup f48 = some ⟨oc48, od48, .func (PySem.W.fnOf "is_end" "Road.is_end" (defArgs s_Road_is_end) (defBody s_Road_is_end) (defScope s_Road_is_end) .none kV48 dc48 pm48 an48 cd48 ct48), sl48⟩)
    (c48 : PySem.W.codeIn K cd48 "Road.is_end" = true)
    (k48 : PySem.W.keepIn K (.ref f48) = true)
    (a49 : PySem.W.nsIn K mainGlobals "ifgrade" = some (some (.ref f49)))
    (l49 : K.lookup f49 = some ⟨oc49, od49, .func (PySem.W.fnOf "ifgrade" "ifgrade" (defArgs s_ifgrade) (defBody s_ifgrade) (defScope s_ifgrade) .none kV49 dc49 pm49 an49 cd49 ct49), sl49⟩)
    (c49 : PySem.W.codeIn K cd49 "ifgrade" = true)
    (k49 : PySem.W.keepIn K (.ref f49) = true)
    (a50 : PySem.W.nsIn K mainGlobals "through" = some (some (.ref f50)))
    (l50 : K.lookup f50 = some ⟨oc50, od50, .func (PySem.W.fnOf "through" "through" (defArgs s_through) (defBody s_through) (defScope s_through) .none kV50 dc50 pm50 an50 cd50 ct50), sl50⟩)
    (c50 : PySem.W.codeIn K cd50 "through" = true)
    (k50 : PySem.W.keepIn K (.ref f50) = true)
    (a51 : PySem.W.nsIn K mainGlobals "worth" = some (some (.ref f51)))
    (l51 : K.lookup f51 = some ⟨oc51, od51, .func (PySem.W.fnOf "worth" "worth" (defArgs s_worth) (defBody s_worth) (defScope s_worth) .none kV51 dc51 pm51 an51 cd51 ct51), sl51⟩)
    (c51 : PySem.W.codeIn K cd51 "worth" = true)
    (k51 : PySem.W.keepIn K (.ref f51) = true)
    (a52 : PySem.W.nsIn K mainGlobals "answers" = some (some (.ref f52)))
    (l52 : K.lookup f52 = some ⟨oc52, od52, .func (PySem.W.fnOf "answers" "answers" (defArgs s_answers) (defBody s_answers) (defScope s_answers) .none kV52 dc52 pm52 an52 cd52 ct52), sl52⟩)
    (c52 : PySem.W.codeIn K cd52 "answers" = true)
    (k52 : PySem.W.keepIn K (.ref f52) = true)
    (a53 : PySem.W.nsIn K mainGlobals "takes_row" = some (some (.ref f53)))
    (l53 : K.lookup f53 = some ⟨oc53, od53, .func (PySem.W.fnOf "takes_row" "takes_row" (defArgs s_takes_row) (defBody s_takes_row) (defScope s_takes_row) .none kV53 dc53 pm53 an53 cd53 ct53), sl53⟩)
    (c53 : PySem.W.codeIn K cd53 "takes_row" = true)
    (k53 : PySem.W.keepIn K (.ref f53) = true)
    (a54 : PySem.W.nsIn K mainGlobals "first_argument" = some (some (.ref f54)))
    (l54 : K.lookup f54 = some ⟨oc54, od54, .func (PySem.W.fnOf "first_argument" "first_argument" (defArgs s_first_argument) (defBody s_first_argument) (defScope s_first_argument) .none kV54 dc54 pm54 an54 cd54 ct54), sl54⟩)
    (c54 : PySem.W.codeIn K cd54 "first_argument" = true)
    (k54 : PySem.W.keepIn K (.ref f54) = true)
    (a55 : PySem.W.nsIn K mainGlobals "call_end" = some (some (.ref f55)))
    (l55 : K.lookup f55 = some ⟨oc55, od55, .func (PySem.W.fnOf "call_end" "call_end" (defArgs s_call_end) (defBody s_call_end) (defScope s_call_end) .none kV55 dc55 pm55 an55 cd55 ct55), sl55⟩)
    (c55 : PySem.W.codeIn K cd55 "call_end" = true)
    (k55 : PySem.W.keepIn K (.ref f55) = true)
    (a56 : PySem.W.nsIn K mainGlobals "answer_call" = some (some (.ref f56)))
    (l56 : K.lookup f56 = some ⟨oc56, od56, .func (PySem.W.fnOf "answer_call" "answer_call" (defArgs s_answer_call) (defBody s_answer_call) (defScope s_answer_call) .none kV56 dc56 pm56 an56 cd56 ct56), sl56⟩)
    (c56 : PySem.W.codeIn K cd56 "answer_call" = true)
    (k56 : PySem.W.keepIn K (.ref f56) = true)
    (a57 : PySem.W.nsIn K mainGlobals "answer_change" = some (some (.ref f57)))
    (l57 : K.lookup f57 = some ⟨oc57, od57, .func (PySem.W.fnOf "answer_change" "answer_change" (defArgs s_answer_change) (defBody s_answer_change) (defScope s_answer_change) .none kV57 dc57 pm57 an57 cd57 ct57), sl57⟩)
    (c57 : PySem.W.codeIn K cd57 "answer_change" = true)
    (k57 : PySem.W.keepIn K (.ref f57) = true)
    (a58 : PySem.W.nsIn K mainGlobals "answer_look" = some (some (.ref f58)))
    (l58 : K.lookup f58 = some ⟨oc58, od58, .func (PySem.W.fnOf "answer_look" "answer_look" (defArgs s_answer_look) (defBody s_answer_look) (defScope s_answer_look) .none kV58 dc58 pm58 an58 cd58 ct58), sl58⟩)
    (c58 : PySem.W.codeIn K cd58 "answer_look" = true)
    (k58 : PySem.W.keepIn K (.ref f58) = true)
    (a59 : PySem.W.nsIn K mainGlobals "answer_bare_look" = some (some (.ref f59)))
    (l59 : K.lookup f59 = some ⟨oc59, od59, .func (PySem.W.fnOf "answer_bare_look" "answer_bare_look" (defArgs s_answer_bare_look) (defBody s_answer_bare_look) (defScope s_answer_bare_look) .none kV59 dc59 pm59 an59 cd59 ct59), sl59⟩)
    (c59 : PySem.W.codeIn K cd59 "answer_bare_look" = true)
    (k59 : PySem.W.keepIn K (.ref f59) = true)
    (pg : PySem.W.plainGet K C Str.empty = true)
    (hd : PySem.W.hasDictIn K C = true)
    (po : PySem.W.plainOver K C = true)
    (sa : PySem.W.findIn K (.ref C) "__setattr__" = some (some (.builtin "object.__setattr__")))
    (mk : PySem.W.makesIn K C = true)
    (kc : PySem.W.keepIn K (.ref C) = true)
    (n_cut_price : PySem.W.findIn K (.ref C) "cut_price" = some none)
    (n_fill_price : PySem.W.findIn K (.ref C) "fill_price" = some none)
    (n_grade : PySem.W.findIn K (.ref C) "grade" = some none)
    (n_ground : PySem.W.findIn K (.ref C) "ground" = some none)
    (n_told : PySem.W.findIn K (.ref C) "told" = some none)
    (q0 : PySem.W.nsIn K mainGlobals "FEWEST_STATIONS" = some (some (.int (2) t0)))
    (q1 : PySem.W.nsIn K mainGlobals "MOST_STATIONS" = some (some (.int (12) t1)))
    (q2 : PySem.W.nsIn K mainGlobals "HIGHEST" = some (some (.int (40) t2)))
    (q3 : PySem.W.nsIn K mainGlobals "STEEPEST" = some (some (.int (10) t3)))
    (q4 : PySem.W.nsIn K mainGlobals "LEAST_PRICE" = some (some (.int (1) t4)))
    (q5 : PySem.W.nsIn K mainGlobals "DEAREST" = some (some (.int (10) t5)))
    (q6 : PySem.W.nsIn K mainGlobals "NO_STATION" = some (some (.int (-2) t6)))
    (q7 : PySem.W.nsIn K mainGlobals "NONE_TOLD" = some (some (.int (-6) t7)))
    (q8 : PySem.W.nsIn K mainGlobals "NOT_BEGUN" = some (some (.int (-11) t8)))
    (q9 : PySem.W.nsIn K mainGlobals "AN_END" = some (some (.int (-16) t9)))
    (q10 : PySem.W.nsIn K mainGlobals "NONE_TOO_FAR" = some (some (.int (-17) t10)))
    (q11 : PySem.W.nsIn K mainGlobals "OUT_OF_RANGE" = some (some (.int (-22) t11)))
    (q12 : PySem.W.nsIn K mainGlobals "NO_LINE" = some (some (.int (-33) t12)))
    (q13 : PySem.W.nsIn K mainGlobals "BEGIN" = some (some (.int (0) t13)))
    (q14 : PySem.W.nsIn K mainGlobals "ENDS" = some (some (.int (1) t14)))
    (q15 : PySem.W.nsIn K mainGlobals "GRADE" = some (some (.int (2) t15)))
    (q16 : PySem.W.nsIn K mainGlobals "PRICE" = some (some (.int (3) t16)))
    (q17 : PySem.W.nsIn K mainGlobals "GROUND" = some (some (.int (4) t17)))
    (q18 : PySem.W.nsIn K mainGlobals "FIX" = some (some (.int (5) t18)))
    (q19 : PySem.W.nsIn K mainGlobals "FREE" = some (some (.int (6) t19)))
    (q20 : PySem.W.nsIn K mainGlobals "CAN" = some (some (.int (7) t20)))
    (q21 : PySem.W.nsIn K mainGlobals "COST" = some (some (.int (8) t21)))
    (q22 : PySem.W.nsIn K mainGlobals "LINE" = some (some (.int (9) t22)))
    (q23 : PySem.W.nsIn K mainGlobals "EARTH" = some (some (.int (10) t23)))
    (q24 : PySem.W.nsIn K mainGlobals "TRIED" = some (some (.int (11) t24)))
    (q25 : PySem.W.nsIn K mainGlobals "WHY" = some (some (.int (12) t25)))
    (q26 : PySem.W.nsIn K mainGlobals "LEASTGRADE" = some (some (.int (13) t26)))
    (q27 : PySem.W.nsIn K mainGlobals "IFGRADE" = some (some (.int (14) t27)))
    (q28 : PySem.W.nsIn K mainGlobals "BETWEEN" = some (some (.int (15) t28)))
    (q29 : PySem.W.nsIn K mainGlobals "THROUGH" = some (some (.int (16) t29)))
    (q30 : PySem.W.nsIn K mainGlobals "WORTH" = some (some (.int (17) t30)))
    (q31 : PySem.W.nsIn K mainGlobals "STEEP" = some (some (.int (18) t31)))
    (q32 : PySem.W.nsIn K mainGlobals "FLAT" = some (some (.int (19) t32)))
    (q33 : PySem.W.nsIn K mainGlobals "STATION" = some (some (.int (20) t33)))
    (q34 : PySem.W.nsIn K mainGlobals "PROFILE" = some (some (.int (21) t34)))
    (q35 : PySem.W.nsIn K mainGlobals "HOW_MANY_NUMBERS" = some (some (.ref ta35)))
    (w35 : K.lookup ta35 = some ⟨.type "tuple", oda35, .seq #[.int (0) t35_0, .int (2) t35_1, .int (1) t35_2, .int (2) t35_3, .int (2) t35_4, .int (2) t35_5, .int (1) t35_6, .int (0) t35_7, .int (0) t35_8, .int (0) t35_9, .int (0) t35_10, .int (0) t35_11, .int (0) t35_12, .int (0) t35_13, .int (1) t35_14, .int (1) t35_15, .int (2) t35_16, .int (1) t35_17, .int (0) t35_18, .int (0) t35_19, .int (1) t35_20, .int (0) t35_21, .int (0) t35_22] na35, sla35⟩)
    (b_abs : PySem.W.nsIn K mainGlobals "abs" = some none)
    (b_all : PySem.W.nsIn K mainGlobals "all" = some none)
    (b_enumerate : PySem.W.nsIn K mainGlobals "enumerate" = some none)
    (b_len : PySem.W.nsIn K mainGlobals "len" = some none)
    (b_list : PySem.W.nsIn K mainGlobals "list" = some none)
    (b_max : PySem.W.nsIn K mainGlobals "max" = some none)
    (b_min : PySem.W.nsIn K mainGlobals "min" = some none)
    (b_range : PySem.W.nsIn K mainGlobals "range" = some none)
    (b_sum : PySem.W.nsIn K mainGlobals "sum" = some none)
    (b_zip : PySem.W.nsIn K mainGlobals "zip" = some none) :
    ∃ fd : FuncData, (∀ (s : Shared) (us : List Value), us.length = (["calls"] : List Str).length → BindsTo s fd ⟨us, []⟩ ((["calls"] : List Str).zip us)) ∧ ∀ base : Heap, K.In base → base.Ns mainGlobals mg → FnOk P w K mg base CX0 10 fa fd ["calls"] (spAns K) := by
  have e := hfa.symm.trans (PySem.W.mg_of X G a52)
  have e2 : f52 = fa := by cases e; rfl
  subst e2
  have F0 := fun_mk (st := s_is_height) l0 c0 k0
  have b0 := F0.binds (ps := ["x"]) fun _ _ _ _ _ _ us hl => match us, hl with | [_], _ => rfl
  have F1 := fun_mk (st := s_are_heights) l1 c1 k1
  have b1 := F1.binds (ps := ["row"]) fun _ _ _ _ _ _ us hl => match us, hl with | [_], _ => rfl
  have F2 := fun_mk (st := s_is_price) l2 c2 k2
  have b2 := F2.binds (ps := ["x"]) fun _ _ _ _ _ _ us hl => match us, hl with | [_], _ => rfl
  have F3 := fun_mk (st := s_why) l3 c3 k3
  have b3 := F3.binds (ps := ["road"]) fun _ _ _ _ _ _ us hl => match us, hl with | [_], _ => rfl
  have F4 := fun_mk (st := s_leastgrade) l4 c4 k4
  have b4 := F4.binds (ps := ["road"]) fun _ _ _ _ _ _ us hl => match us, hl with | [_], _ => rfl
  have F5 := fun_mk (st := s_between) l5 c5 k5
  have b5 := F5.binds (ps := ["road", "station"]) fun _ _ _ _ _ _ us hl => match us, hl with | [_, _], _ => rfl
  have F6 := fun_mk (st := s_first_too_far) l6 c6 k6
  have b6 := F6.binds (ps := ["road", "grade"]) fun _ _ _ _ _ _ us hl => match us, hl with | [_, _], _ => rfl
  have F7 := fun_mk (st := s_is_too_far) l7 c7 k7
  have b7 := F7.binds (ps := ["road", "lesser", "greater", "grade"]) fun _ _ _ _ _ _ us hl => match us, hl with | [_, _, _, _], _ => rfl
  have F8 := fun_mk (st := s_lowest) l8 c8 k8
  have b8 := F8.binds (ps := ["road", "station"]) fun _ _ _ _ _ _ us hl => match us, hl with | [_, _], _ => rfl
  have F9 := fun_mk (st := s_highest) l9 c9 k9
  have b9 := F9.binds (ps := ["road", "station"]) fun _ _ _ _ _ _ us hl => match us, hl with | [_, _], _ => rfl
  have F10 := fun_mk (st := s_reach) l10 c10 k10
  have b10 := F10.binds (ps := ["road", "station", "other"]) fun _ _ _ _ _ _ us hl => match us, hl with | [_, _, _], _ => rfl
  have F11 := fun_mk (st := s_is_line) l11 c11 k11
  have b11 := F11.binds (ps := ["road", "row"]) fun _ _ _ _ _ _ us hl => match us, hl with | [_, _], _ => rfl
  have F12 := fun_mk (st := s_keeps_told) l12 c12 k12
  have b12 := F12.binds (ps := ["road", "row"]) fun _ _ _ _ _ _ us hl => match us, hl with | [_, _], _ => rfl
  have F13 := fun_mk (st := s_keeps_grade) l13 c13 k13
  have b13 := F13.binds (ps := ["road", "row"]) fun _ _ _ _ _ _ us hl => match us, hl with | [_, _], _ => rfl
  have F14 := fun_mk (st := s_cut_of) l14 c14 k14
  have b14 := F14.binds (ps := ["road", "row"]) fun _ _ _ _ _ _ us hl => match us, hl with | [_, _], _ => rfl
  have F15 := fun_mk (st := s_filled_of) l15 c15 k15
  have b15 := F15.binds (ps := ["road", "row"]) fun _ _ _ _ _ _ us hl => match us, hl with | [_, _], _ => rfl
  have F16 := fun_mk (st := s_cost_of) l16 c16 k16
  have b16 := F16.binds (ps := ["road", "row"]) fun _ _ _ _ _ _ us hl => match us, hl with | [_, _], _ => rfl
  have F17 := fun_mk (st := s_least_cost) l17 c17 k17
  have b17 := F17.binds (ps := ["road"]) fun _ _ _ _ _ _ us hl => match us, hl with | [_], _ => rfl
  have F18 := fun_mk (st := s_cheapest) l18 c18 k18
  have b18 := F18.binds (ps := ["road"]) fun _ _ _ _ _ _ us hl => match us, hl with | [_], _ => rfl
  have F19 := fun_mk (st := s_costs_onward) l19 c19 k19
  have b19 := F19.binds (ps := ["road"]) fun _ _ _ _ _ _ us hl => match us, hl with | [_], _ => rfl
  have F20 := fun_mk (st := s_costs_at) l20 c20 k20
  have b20 := F20.binds (ps := ["road", "station"]) fun _ _ _ _ _ _ us hl => match us, hl with | [_, _], _ => rfl
  have F21 := fun_mk (st := s_cost_at) l21 c21 k21
  have b21 := F21.binds (ps := ["road", "station", "height"]) fun _ _ _ _ _ _ us hl => match us, hl with | [_, _, _], _ => rfl
  have F22 := fun_mk (st := s_costs_with_rest) l22 c22 k22
  have b22 := F22.binds (ps := ["costs", "rest", "grade"]) fun _ _ _ _ _ _ us hl => match us, hl with | [_, _, _], _ => rfl
  have F23 := fun_mk (st := s_best_step) l23 c23 k23
  have b23 := F23.binds (ps := ["costs", "height", "grade"]) fun _ _ _ _ _ _ us hl => match us, hl with | [_, _, _], _ => rfl
  have F24 := fun_mk (st := s_can) l24 c24 k24
  have b24 := F24.binds (ps := ["road"]) fun _ _ _ _ _ _ us hl => match us, hl with | [_], _ => rfl
  have F25 := fun_mk (st := s_cost) l25 c25 k25
  have b25 := F25.binds (ps := ["road"]) fun _ _ _ _ _ _ us hl => match us, hl with | [_], _ => rfl
  have F26 := fun_mk (st := s_line) l26 c26 k26
  have b26 := F26.binds (ps := ["road"]) fun _ _ _ _ _ _ us hl => match us, hl with | [_], _ => rfl
  have F27 := fun_mk (st := s_earth) l27 c27 k27
  have b27 := F27.binds (ps := ["road"]) fun _ _ _ _ _ _ us hl => match us, hl with | [_], _ => rfl
  have F28 := fun_mk (st := s_tried) l28 c28 k28
  have b28 := F28.binds (ps := ["road", "row"]) fun _ _ _ _ _ _ us hl => match us, hl with | [_, _], _ => rfl
  have F29 := fun_mk (st := s_steep) l29 c29 k29
  have b29 := F29.binds (ps := ["road"]) fun _ _ _ _ _ _ us hl => match us, hl with | [_], _ => rfl
  have F30 := fun_mk (st := s_flat) l30 c30 k30
  have b30 := F30.binds (ps := ["road"]) fun _ _ _ _ _ _ us hl => match us, hl with | [_], _ => rfl
  have F31 := fun_mk (st := s_longest_level) l31 c31 k31
  have b31 := F31.binds (ps := ["row"]) fun _ _ _ _ _ _ us hl => match us, hl with | [_], _ => rfl
  have F32 := fun_mk (st := s_station) l32 c32 k32
  have b32 := F32.binds (ps := ["road", "number"]) fun _ _ _ _ _ _ us hl => match us, hl with | [_, _], _ => rfl
  have F33 := fun_mk (st := s_profile) l33 c33 k33
  have b33 := F33.binds (ps := ["road"]) fun _ _ _ _ _ _ us hl => match us, hl with | [_], _ => rfl
  have F34 := fun_mk (st := s_state) l34 c34 k34
  have b34 := F34.binds (ps := ["road"]) fun _ _ _ _ _ _ us hl => match us, hl with | [_], _ => rfl
  have F35 := fun_mk (st := s_Road_init) l35 c35 k35
  have b35 := F35.binds (ps := ["self"]) fun _ _ _ _ _ _ us hl => match us, hl with | [_], _ => rfl
  have F36 := fun_mk (st := s_Road_begun) l36 c36 k36
  have b36 := F36.binds (ps := ["self"]) fun _ _ _ _ _ _ us hl => match us, hl with | [_], _ => rfl
  have F37 := fun_mk (st := s_Road_begin) l37 c37 k37
  have b37 := F37.binds (ps := ["self", "heights"]) fun _ _ _ _ _ _ us hl => match us, hl with | [_, _], _ => rfl
  have F38 := fun_mk (st := s_Road_tell_ends) l38 c38 k38
  have b38 := F38.binds (ps := ["self", "first", "last"]) fun _ _ _ _ _ _ us hl => match us, hl with | [_, _, _], _ => rfl
  have F39 := fun_mk (st := s_Road_change_grade) l39 c39 k39
  have b39 := F39.binds (ps := ["self", "grade"]) fun _ _ _ _ _ _ us hl => match us, hl with | [_, _], _ => rfl
  have F40 := fun_mk (st := s_Road_change_prices) l40 c40 k40
  have b40 := F40.binds (ps := ["self", "cut_price", "fill_price"]) fun _ _ _ _ _ _ us hl => match us, hl with | [_, _, _], _ => rfl
  have F41 := fun_mk (st := s_Road_change_ground) l41 c41 k41
  have b41 := F41.binds (ps := ["self", "station", "height"]) fun _ _ _ _ _ _ us hl => match us, hl with | [_, _, _], _ => rfl
  have F42 := fun_mk (st := s_Road_fix) l42 c42 k42
  have b42 := F42.binds (ps := ["self", "station", "height"]) fun _ _ _ _ _ _ us hl => match us, hl with | [_, _, _], _ => rfl
  have F43 := fun_mk (st := s_Road_free) l43 c43 k43
  have b43 := F43.binds (ps := ["self", "station"]) fun _ _ _ _ _ _ us hl => match us, hl with | [_, _], _ => rfl
  have F44 := fun_mk (st := s_Road_copied) l44 c44 k44
  have b44 := F44.binds (ps := ["self"]) fun _ _ _ _ _ _ us hl => match us, hl with | [_], _ => rfl
  have F45 := fun_mk (st := s_Road_told_stations) l45 c45 k45
  have b45 := F45.binds (ps := ["self"]) fun _ _ _ _ _ _ us hl => match us, hl with | [_], _ => rfl
  have F46 := fun_mk (st := s_Road_one_more_than_told) l46 c46 k46
  have b46 := F46.binds (ps := ["self", "station"]) fun _ _ _ _ _ _ us hl => match us, hl with | [_, _], _ => rfl
  have F47 := fun_mk (st := s_Road_has_station) l47 c47 k47
  have b47 := F47.binds (ps := ["self", "station"]) fun _ _ _ _ _ _ us hl => match us, hl with | [_, _], _ => rfl
  have F48 := fun_mk (st := s_Road_is_end) l48 c48 k48
  have b48 := F48.binds (ps := ["self", "station"]) fun _ _ _ _ _ _ us hl => match us, hl with | [_, _], _ => rfl
  have F49 := fun_mk (st := s_ifgrade) l49 c49 k49
  have b49 := F49.binds (ps := ["road", "grade"]) fun _ _ _ _ _ _ us hl => match us, hl with | [_, _], _ => rfl
  have F50 := fun_mk (st := s_through) l50 c50 k50
  have b50 := F50.binds (ps := ["road", "station", "height"]) fun _ _ _ _ _ _ us hl => match us, hl with | [_, _, _], _ => rfl
  have F51 := fun_mk (st := s_worth) l51 c51 k51
  have b51 := F51.binds (ps := ["road", "station"]) fun _ _ _ _ _ _ us hl => match us, hl with | [_, _], _ => rfl
  have F52 := fun_mk (st := s_answers) l52 c52 k52
  have b52 := F52.binds (ps := ["calls"]) fun _ _ _ _ _ _ us hl => match us, hl with | [_], _ => rfl
  have F53 := fun_mk (st := s_takes_row) l53 c53 k53
  have b53 := F53.binds (ps := ["call"]) fun _ _ _ _ _ _ us hl => match us, hl with | [_], _ => rfl
  have F54 := fun_mk (st := s_first_argument) l54 c54 k54
  have b54 := F54.binds (ps := ["calls", "start"]) fun _ _ _ _ _ _ us hl => match us, hl with | [_, _], _ => rfl
  have F55 := fun_mk (st := s_call_end) l55 c55 k55
  have b55 := F55.binds (ps := ["calls", "start"]) fun _ _ _ _ _ _ us hl => match us, hl with | [_, _], _ => rfl
  have F56 := fun_mk (st := s_answer_call) l56 c56 k56
  have b56 := F56.binds (ps := ["road", "call", "given"]) fun _ _ _ _ _ _ us hl => match us, hl with | [_, _, _], _ => rfl
  have F57 := fun_mk (st := s_answer_change) l57 c57 k57
  have b57 := F57.binds (ps := ["road", "call", "given"]) fun _ _ _ _ _ _ us hl => match us, hl with | [_, _, _], _ => rfl
  have F58 := fun_mk (st := s_answer_look) l58 c58 k58
  have b58 := F58.binds (ps := ["road", "call", "given"]) fun _ _ _ _ _ _ us hl => match us, hl with | [_, _, _], _ => rfl
  have F59 := fun_mk (st := s_answer_bare_look) l59 c59 k59
  have b59 := F59.binds (ps := ["road", "call"]) fun _ _ _ _ _ _ us hl => match us, hl with | [_, _], _ => rfl
  have T : Txt K mg { C_Road := C, f_is_height := f0, d_is_height := PySem.W.fnOf "is_height" "is_height" (defArgs s_is_height) (defBody s_is_height) (defScope s_is_height) .none kV0 dc0 pm0 an0 cd0 ct0, f_are_heights := f1, d_are_heights := PySem.W.fnOf "are_heights" "are_heights" (defArgs s_are_heights) (defBody s_are_heights) (defScope s_are_heights) .none kV1 dc1 pm1 an1 cd1 ct1, f_is_price := f2, d_is_price := PySem.W.fnOf "is_price" "is_price" (defArgs s_is_price) (defBody s_is_price) (defScope s_is_price) .none kV2 dc2 pm2 an2 cd2 ct2, f_why := f3, d_why := PySem.W.fnOf "why" "why" (defArgs s_why) (defBody s_why) (defScope s_why) .none kV3 dc3 pm3 an3 cd3 ct3, f_leastgrade := f4, d_leastgrade := PySem.W.fnOf "leastgrade" "leastgrade" (defArgs s_leastgrade) (defBody s_leastgrade) (defScope s_leastgrade) .none kV4 dc4 pm4 an4 cd4 ct4, f_between := f5, d_between := PySem.W.fnOf "between" "between" (defArgs s_between) (defBody s_between) (defScope s_between) .none kV5 dc5 pm5 an5 cd5 ct5, f_first_too_far := f6, d_first_too_far := PySem.W.fnOf "first_too_far" "first_too_far" (defArgs s_first_too_far) (defBody s_first_too_far) (defScope s_first_too_far) .none kV6 dc6 pm6 an6 cd6 ct6, f_is_too_far := f7, d_is_too_far := PySem.W.fnOf "is_too_far" "is_too_far" (defArgs s_is_too_far) (defBody s_is_too_far) (defScope s_is_too_far) .none kV7 dc7 pm7 an7 cd7 ct7, f_lowest := f8, d_lowest := PySem.W.fnOf "lowest" "lowest" (defArgs s_lowest) (defBody s_lowest) (defScope s_lowest) .none kV8 dc8 pm8 an8 cd8 ct8, f_highest := f9, d_highest := PySem.W.fnOf "highest" "highest" (defArgs s_highest) (defBody s_highest) (defScope s_highest) .none kV9 dc9 pm9 an9 cd9 ct9, f_reach := f10, d_reach := PySem.W.fnOf "reach" "reach" (defArgs s_reach) (defBody s_reach) (defScope s_reach) .none kV10 dc10 pm10 an10 cd10 ct10, f_is_line := f11, d_is_line := PySem.W.fnOf "is_line" "is_line" (defArgs s_is_line) (defBody s_is_line) (defScope s_is_line) .none kV11 dc11 pm11 an11 cd11 ct11, f_keeps_told := f12, d_keeps_told := PySem.W.fnOf "keeps_told" "keeps_told" (defArgs s_keeps_told) (defBody s_keeps_told) (defScope s_keeps_told) .none kV12 dc12 pm12 an12 cd12 ct12, f_keeps_grade := f13, d_keeps_grade := PySem.W.fnOf "keeps_grade" "keeps_grade" (defArgs s_keeps_grade) (defBody s_keeps_grade) (defScope s_keeps_grade) .none kV13 dc13 pm13 an13 cd13 ct13, f_cut_of := f14, d_cut_of := PySem.W.fnOf "cut_of" "cut_of" (defArgs s_cut_of) (defBody s_cut_of) (defScope s_cut_of) .none kV14 dc14 pm14 an14 cd14 ct14, f_filled_of := f15, d_filled_of := PySem.W.fnOf "filled_of" "filled_of" (defArgs s_filled_of) (defBody s_filled_of) (defScope s_filled_of) .none kV15 dc15 pm15 an15 cd15 ct15, f_cost_of := f16, d_cost_of := PySem.W.fnOf "cost_of" "cost_of" (defArgs s_cost_of) (defBody s_cost_of) (defScope s_cost_of) .none kV16 dc16 pm16 an16 cd16 ct16, f_least_cost := f17, d_least_cost := PySem.W.fnOf "least_cost" "least_cost" (defArgs s_least_cost) (defBody s_least_cost) (defScope s_least_cost) .none kV17 dc17 pm17 an17 cd17 ct17, f_cheapest := f18, d_cheapest := PySem.W.fnOf "cheapest" "cheapest" (defArgs s_cheapest) (defBody s_cheapest) (defScope s_cheapest) .none kV18 dc18 pm18 an18 cd18 ct18, f_costs_onward := f19, d_costs_onward := PySem.W.fnOf "costs_onward" "costs_onward" (defArgs s_costs_onward) (defBody s_costs_onward) (defScope s_costs_onward) .none kV19 dc19 pm19 an19 cd19 ct19, f_costs_at := f20, d_costs_at := PySem.W.fnOf "costs_at" "costs_at" (defArgs s_costs_at) (defBody s_costs_at) (defScope s_costs_at) .none kV20 dc20 pm20 an20 cd20 ct20, f_cost_at := f21, d_cost_at := PySem.W.fnOf "cost_at" "cost_at" (defArgs s_cost_at) (defBody s_cost_at) (defScope s_cost_at) .none kV21 dc21 pm21 an21 cd21 ct21, f_costs_with_rest := f22, d_costs_with_rest := PySem.W.fnOf "costs_with_rest" "costs_with_rest" (defArgs s_costs_with_rest) (defBody s_costs_with_rest) (defScope s_costs_with_rest) .none kV22 dc22 pm22 an22 cd22 ct22, f_best_step := f23, d_best_step := PySem.W.fnOf "best_step" "best_step" (defArgs s_best_step) (defBody s_best_step) (defScope s_best_step) .none kV23 dc23 pm23 an23 cd23 ct23, f_can := f24, d_can := PySem.W.fnOf "can" "can" (defArgs s_can) (defBody s_can) (defScope s_can) .none kV24 dc24 pm24 an24 cd24 ct24, f_cost := f25, d_cost := PySem.W.fnOf "cost" "cost" (defArgs s_cost) (defBody s_cost) (defScope s_cost) .none kV25 dc25 pm25 an25 cd25 ct25, f_line := f26, d_line := PySem.W.fnOf "line" "line" (defArgs s_line) (defBody s_line) (defScope s_line) .none kV26 dc26 pm26 an26 cd26 ct26, f_earth := f27, d_earth := PySem.W.fnOf "earth" "earth" (defArgs s_earth) (defBody s_earth) (defScope s_earth) .none kV27 dc27 pm27 an27 cd27 ct27, f_tried := f28, d_tried := PySem.W.fnOf "tried" "tried" (defArgs s_tried) (defBody s_tried) (defScope s_tried) .none kV28 dc28 pm28 an28 cd28 ct28, f_steep := f29, d_steep := PySem.W.fnOf "steep" "steep" (defArgs s_steep) (defBody s_steep) (defScope s_steep) .none kV29 dc29 pm29 an29 cd29 ct29, f_flat := f30, d_flat := PySem.W.fnOf "flat" "flat" (defArgs s_flat) (defBody s_flat) (defScope s_flat) .none kV30 dc30 pm30 an30 cd30 ct30, f_longest_level := f31, d_longest_level := PySem.W.fnOf "longest_level" "longest_level" (defArgs s_longest_level) (defBody s_longest_level) (defScope s_longest_level) .none kV31 dc31 pm31 an31 cd31 ct31, f_station := f32, d_station := PySem.W.fnOf "station" "station" (defArgs s_station) (defBody s_station) (defScope s_station) .none kV32 dc32 pm32 an32 cd32 ct32, f_profile := f33, d_profile := PySem.W.fnOf "profile" "profile" (defArgs s_profile) (defBody s_profile) (defScope s_profile) .none kV33 dc33 pm33 an33 cd33 ct33, f_state := f34, d_state := PySem.W.fnOf "state" "state" (defArgs s_state) (defBody s_state) (defScope s_state) .none kV34 dc34 pm34 an34 cd34 ct34, f_Road_init := f35, d_Road_init := PySem.W.fnOf "__init__" "Road.__init__" (defArgs s_Road_init) (defBody s_Road_init) (defScope s_Road_init) .none kV35 dc35 pm35 an35 cd35 ct35, f_Road_begun := f36, d_Road_begun := PySem.W.fnOf "begun" "Road.begun" (defArgs s_Road_begun) (defBody s_Road_begun) (defScope s_Road_begun) .none kV36 dc36 pm36 an36 cd36 ct36, f_Road_begin := f37, d_Road_begin := PySem.W.fnOf "begin" "Road.begin" (defArgs s_Road_begin) (defBody s_Road_begin) (defScope s_Road_begin) .none kV37 dc37 pm37 an37 cd37 ct37, f_Road_tell_ends := f38, d_Road_tell_ends := PySem.W.fnOf "tell_ends" "Road.tell_ends" (defArgs s_Road_tell_ends) (defBody s_Road_tell_ends) (defScope s_Road_tell_ends) .none kV38 dc38 pm38 an38 cd38 ct38, f_Road_change_grade := f39, d_Road_change_grade := PySem.W.fnOf "change_grade" "Road.change_grade" (defArgs s_Road_change_grade) (defBody s_Road_change_grade) (defScope s_Road_change_grade) .none kV39 dc39 pm39 an39 cd39 ct39, f_Road_change_prices := f40, d_Road_change_prices := PySem.W.fnOf "change_prices" "Road.change_prices" (defArgs s_Road_change_prices) (defBody s_Road_change_prices) (defScope s_Road_change_prices) .none kV40 dc40 pm40 an40 cd40 ct40, f_Road_change_ground := f41, d_Road_change_ground := PySem.W.fnOf "change_ground" "Road.change_ground" (defArgs s_Road_change_ground) (defBody s_Road_change_ground) (defScope s_Road_change_ground) .none kV41 dc41 pm41 an41 cd41 ct41, f_Road_fix := f42, d_Road_fix := PySem.W.fnOf "fix" "Road.fix" (defArgs s_Road_fix) (defBody s_Road_fix) (defScope s_Road_fix) .none kV42 dc42 pm42 an42 cd42 ct42, f_Road_free := f43, d_Road_free := PySem.W.fnOf "free" "Road.free" (defArgs s_Road_free) (defBody s_Road_free) (defScope s_Road_free) .none kV43 dc43 pm43 an43 cd43 ct43, f_Road_copied := f44, d_Road_copied := PySem.W.fnOf "copied" "Road.copied" (defArgs s_Road_copied) (defBody s_Road_copied) (defScope s_Road_copied) .none kV44 dc44 pm44 an44 cd44 ct44, f_Road_told_stations := f45, d_Road_told_stations := PySem.W.fnOf "told_stations" "Road.told_stations" (defArgs s_Road_told_stations) (defBody s_Road_told_stations) (defScope s_Road_told_stations) .none kV45 dc45 pm45 an45 cd45 ct45, f_Road_one_more_than_told := f46, d_Road_one_more_than_told := PySem.W.fnOf "one_more_than_told" "Road.one_more_than_told" (defArgs s_Road_one_more_than_told) (defBody s_Road_one_more_than_told) (defScope s_Road_one_more_than_told) .none kV46 dc46 pm46 an46 cd46 ct46, f_Road_has_station := f47, d_Road_has_station := PySem.W.fnOf "has_station" "Road.has_station" (defArgs s_Road_has_station) (defBody s_Road_has_station) (defScope s_Road_has_station) .none kV47 dc47 pm47 an47 cd47 ct47, f_Road_is_end := f48, d_Road_is_end := PySem.W.fnOf "is_end" "Road.is_end" (defArgs s_Road_is_end) (defBody s_Road_is_end) (defScope s_Road_is_end) .none kV48 dc48 pm48 an48 cd48 ct48, f_ifgrade := f49, d_ifgrade := PySem.W.fnOf "ifgrade" "ifgrade" (defArgs s_ifgrade) (defBody s_ifgrade) (defScope s_ifgrade) .none kV49 dc49 pm49 an49 cd49 ct49, f_through := f50, d_through := PySem.W.fnOf "through" "through" (defArgs s_through) (defBody s_through) (defScope s_through) .none kV50 dc50 pm50 an50 cd50 ct50, f_worth := f51, d_worth := PySem.W.fnOf "worth" "worth" (defArgs s_worth) (defBody s_worth) (defScope s_worth) .none kV51 dc51 pm51 an51 cd51 ct51, f_answers := f52, d_answers := PySem.W.fnOf "answers" "answers" (defArgs s_answers) (defBody s_answers) (defScope s_answers) .none kV52 dc52 pm52 an52 cd52 ct52, f_takes_row := f53, d_takes_row := PySem.W.fnOf "takes_row" "takes_row" (defArgs s_takes_row) (defBody s_takes_row) (defScope s_takes_row) .none kV53 dc53 pm53 an53 cd53 ct53, f_first_argument := f54, d_first_argument := PySem.W.fnOf "first_argument" "first_argument" (defArgs s_first_argument) (defBody s_first_argument) (defScope s_first_argument) .none kV54 dc54 pm54 an54 cd54 ct54, f_call_end := f55, d_call_end := PySem.W.fnOf "call_end" "call_end" (defArgs s_call_end) (defBody s_call_end) (defScope s_call_end) .none kV55 dc55 pm55 an55 cd55 ct55, f_answer_call := f56, d_answer_call := PySem.W.fnOf "answer_call" "answer_call" (defArgs s_answer_call) (defBody s_answer_call) (defScope s_answer_call) .none kV56 dc56 pm56 an56 cd56 ct56, f_answer_change := f57, d_answer_change := PySem.W.fnOf "answer_change" "answer_change" (defArgs s_answer_change) (defBody s_answer_change) (defScope s_answer_change) .none kV57 dc57 pm57 an57 cd57 ct57, f_answer_look := f58, d_answer_look := PySem.W.fnOf "answer_look" "answer_look" (defArgs s_answer_look) (defBody s_answer_look) (defScope s_answer_look) .none kV58 dc58 pm58 an58 cd58 ct58, f_answer_bare_look := f59, d_answer_bare_look := PySem.W.fnOf "answer_bare_look" "answer_bare_look" (defArgs s_answer_bare_look) (defBody s_answer_bare_look) (defScope s_answer_bare_look) .none kV59 dc59 pm59 an59 cd59 ct59, a_HOW_MANY_NUMBERS := ta35 } := { F_is_height := F0, b_is_height := b0, m_is_height := PySem.W.mg_of X G a0, F_are_heights := F1, b_are_heights := b1, m_are_heights := PySem.W.mg_of X G a1, F_is_price := F2, b_is_price := b2, m_is_price := PySem.W.mg_of X G a2, F_why := F3, b_why := b3, m_why := PySem.W.mg_of X G a3, F_leastgrade := F4, b_leastgrade := b4, m_leastgrade := PySem.W.mg_of X G a4, F_between := F5, b_between := b5, m_between := PySem.W.mg_of X G a5, F_first_too_far := F6, b_first_too_far := b6, m_first_too_far := PySem.W.mg_of X G a6, F_is_too_far := F7, b_is_too_far := b7, m_is_too_far := PySem.W.mg_of X G a7, F_lowest := F8, b_lowest := b8, m_lowest := PySem.W.mg_of X G a8, F_highest := F9, b_highest := b9, m_highest := PySem.W.mg_of X G a9, F_reach := F10, b_reach := b10, m_reach := PySem.W.mg_of X G a10, F_is_line := F11, b_is_line := b11, m_is_line := PySem.W.mg_of X G a11, F_keeps_told := F12, b_keeps_told := b12, m_keeps_told := PySem.W.mg_of X G a12, F_keeps_grade := F13, b_keeps_grade := b13, m_keeps_grade := PySem.W.mg_of X G a13, F_cut_of := F14, b_cut_of := b14, m_cut_of := PySem.W.mg_of X G a14, F_filled_of := F15, b_filled_of := b15, m_filled_of := PySem.W.mg_of X G a15, F_cost_of := F16, b_cost_of := b16, m_cost_of := PySem.W.mg_of X G a16, F_least_cost := F17, b_least_cost := b17, m_least_cost := PySem.W.mg_of X G a17, F_cheapest := F18, b_cheapest := b18, m_cheapest := PySem.W.mg_of X G a18, F_costs_onward := F19, b_costs_onward := b19, m_costs_onward := PySem.W.mg_of X G a19, F_costs_at := F20, b_costs_at := b20, m_costs_at := PySem.W.mg_of X G a20, F_cost_at := F21, b_cost_at := b21, m_cost_at := PySem.W.mg_of X G a21, F_costs_with_rest := F22, b_costs_with_rest := b22, m_costs_with_rest := PySem.W.mg_of X G a22, F_best_step := F23, b_best_step := b23, m_best_step := PySem.W.mg_of X G a23, F_can := F24, b_can := b24, m_can := PySem.W.mg_of X G a24, F_cost := F25, b_cost := b25, m_cost := PySem.W.mg_of X G a25, F_line := F26, b_line := b26, m_line := PySem.W.mg_of X G a26, F_earth := F27, b_earth := b27, m_earth := PySem.W.mg_of X G a27, F_tried := F28, b_tried := b28, m_tried := PySem.W.mg_of X G a28, F_steep := F29, b_steep := b29, m_steep := PySem.W.mg_of X G a29, F_flat := F30, b_flat := b30, m_flat := PySem.W.mg_of X G a30, F_longest_level := F31, b_longest_level := b31, m_longest_level := PySem.W.mg_of X G a31, F_station := F32, b_station := b32, m_station := PySem.W.mg_of X G a32, F_profile := F33, b_profile := b33, m_profile := PySem.W.mg_of X G a33, F_state := F34, b_state := b34, m_state := PySem.W.mg_of X G a34, F_Road_init := F35, b_Road_init := b35, F_Road_begun := F36, b_Road_begun := b36, x_Road_begun := ⟨a36, i36, k36⟩, F_Road_begin := F37, b_Road_begin := b37, x_Road_begin := ⟨a37, i37, k37⟩, F_Road_tell_ends := F38, b_Road_tell_ends := b38, x_Road_tell_ends := ⟨a38, i38, k38⟩, F_Road_change_grade := F39, b_Road_change_grade := b39, x_Road_change_grade := ⟨a39, i39, k39⟩, F_Road_change_prices := F40, b_Road_change_prices := b40, x_Road_change_prices := ⟨a40, i40, k40⟩, F_Road_change_ground := F41, b_Road_change_ground := b41, x_Road_change_ground := ⟨a41, i41, k41⟩, F_Road_fix := F42, b_Road_fix := b42, x_Road_fix := ⟨a42, i42, k42⟩, F_Road_free := F43, b_Road_free := b43, x_Road_free := ⟨a43, i43, k43⟩, F_Road_copied := F44, b_Road_copied := b44, x_Road_copied := ⟨a44, i44, k44⟩, F_Road_told_stations := F45, b_Road_told_stations := b45, x_Road_told_stations := ⟨a45, i45, k45⟩, F_Road_one_more_than_told := F46, b_Road_one_more_than_told := b46, x_Road_one_more_than_told := ⟨a46, i46, k46⟩, F_Road_has_station := F47, b_Road_has_station := b47, x_Road_has_station := ⟨a47, i47, k47⟩, F_Road_is_end := F48, b_Road_is_end := b48, x_Road_is_end := ⟨a48, i48, k48⟩, F_ifgrade := F49, b_ifgrade := b49, m_ifgrade := PySem.W.mg_of X G a49, F_through := F50, b_through := b50, m_through := PySem.W.mg_of X G a50, F_worth := F51, b_worth := b51, m_worth := PySem.W.mg_of X G a51, F_answers := F52, b_answers := b52, m_answers := PySem.W.mg_of X G a52, F_takes_row := F53, b_takes_row := b53, m_takes_row := PySem.W.mg_of X G a53, F_first_argument := F54, b_first_argument := b54, m_first_argument := PySem.W.mg_of X G a54, F_call_end := F55, b_call_end := b55, m_call_end := PySem.W.mg_of X G a55, F_answer_call := F56, b_answer_call := b56, m_answer_call := PySem.W.mg_of X G a56, F_answer_change := F57, b_answer_change := b57, m_answer_change := PySem.W.mg_of X G a57, F_answer_look := F58, b_answer_look := b58, m_answer_look := PySem.W.mg_of X G a58, F_answer_bare_look := F59, b_answer_bare_look := b59, m_answer_bare_look := PySem.W.mg_of X G a59, cl_Road := ⟨pg, hd, po, sa⟩, m_Road := PySem.W.mg_of X G aC, k_Road := ⟨mk, a35, i35, kc⟩, a_Road_cut_price := n_cut_price, a_Road_fill_price := n_fill_price, a_Road_grade := n_grade, a_Road_ground := n_ground, a_Road_told := n_told, c_FEWEST_STATIONS := ⟨_, PySem.W.mg_of X G q0⟩, c_MOST_STATIONS := ⟨_, PySem.W.mg_of X G q1⟩, c_HIGHEST := ⟨_, PySem.W.mg_of X G q2⟩, c_STEEPEST := ⟨_, PySem.W.mg_of X G q3⟩, c_LEAST_PRICE := ⟨_, PySem.W.mg_of X G q4⟩, c_DEAREST := ⟨_, PySem.W.mg_of X G q5⟩, c_NO_STATION := ⟨_, PySem.W.mg_of X G q6⟩, c_NONE_TOLD := ⟨_, PySem.W.mg_of X G q7⟩, c_NOT_BEGUN := ⟨_, PySem.W.mg_of X G q8⟩, c_AN_END := ⟨_, PySem.W.mg_of X G q9⟩, c_NONE_TOO_FAR := ⟨_, PySem.W.mg_of X G q10⟩, c_OUT_OF_RANGE := ⟨_, PySem.W.mg_of X G q11⟩, c_NO_LINE := ⟨_, PySem.W.mg_of X G q12⟩, c_BEGIN := ⟨_, PySem.W.mg_of X G q13⟩, c_ENDS := ⟨_, PySem.W.mg_of X G q14⟩, c_GRADE := ⟨_, PySem.W.mg_of X G q15⟩, c_PRICE := ⟨_, PySem.W.mg_of X G q16⟩, c_GROUND := ⟨_, PySem.W.mg_of X G q17⟩, c_FIX := ⟨_, PySem.W.mg_of X G q18⟩, c_FREE := ⟨_, PySem.W.mg_of X G q19⟩, c_CAN := ⟨_, PySem.W.mg_of X G q20⟩, c_COST := ⟨_, PySem.W.mg_of X G q21⟩, c_LINE := ⟨_, PySem.W.mg_of X G q22⟩, c_EARTH := ⟨_, PySem.W.mg_of X G q23⟩, c_TRIED := ⟨_, PySem.W.mg_of X G q24⟩, c_WHY := ⟨_, PySem.W.mg_of X G q25⟩, c_LEASTGRADE := ⟨_, PySem.W.mg_of X G q26⟩, c_IFGRADE := ⟨_, PySem.W.mg_of X G q27⟩, c_BETWEEN := ⟨_, PySem.W.mg_of X G q28⟩, c_THROUGH := ⟨_, PySem.W.mg_of X G q29⟩, c_WORTH := ⟨_, PySem.W.mg_of X G q30⟩, c_STEEP := ⟨_, PySem.W.mg_of X G q31⟩, c_FLAT := ⟨_, PySem.W.mg_of X G q32⟩, c_STATION := ⟨_, PySem.W.mg_of X G q33⟩, c_PROFILE := ⟨_, PySem.W.mg_of X G q34⟩, c_HOW_MANY_NUMBERS := PySem.W.mg_of X G q35, t_HOW_MANY_NUMBERS := fun H => .inr ⟨_, _, _, w35, rfl, rfl, by show 23 ≤ sizeLine; decide, .cons ⟨_, rfl⟩ (.cons ⟨_, rfl⟩ (.cons ⟨_, rfl⟩ (.cons ⟨_, rfl⟩ (.cons ⟨_, rfl⟩ (.cons ⟨_, rfl⟩ (.cons ⟨_, rfl⟩ (.cons ⟨_, rfl⟩ (.cons ⟨_, rfl⟩ (.cons ⟨_, rfl⟩ (.cons ⟨_, rfl⟩ (.cons ⟨_, rfl⟩ (.cons ⟨_, rfl⟩ (.cons ⟨_, rfl⟩ (.cons ⟨_, rfl⟩ (.cons ⟨_, rfl⟩ (.cons ⟨_, rfl⟩ (.cons ⟨_, rfl⟩ (.cons ⟨_, rfl⟩ (.cons ⟨_, rfl⟩ (.cons ⟨_, rfl⟩ (.cons ⟨_, rfl⟩ (.cons ⟨_, rfl⟩ (.nil)))))))))))))))))))))))⟩, n_abs := PySem.W.mg_none_of X G b_abs, n_all := PySem.W.mg_none_of X G b_all, n_enumerate := PySem.W.mg_none_of X G b_enumerate, n_len := PySem.W.mg_none_of X G b_len, n_list := PySem.W.mg_none_of X G b_list, n_max := PySem.W.mg_none_of X G b_max, n_min := PySem.W.mg_none_of X G b_min, n_range := PySem.W.mg_none_of X G b_range, n_sum := PySem.W.mg_none_of X G b_sum, n_zip := PySem.W.mg_none_of X G b_zip }
  exact ⟨_, fun s us hu => match us, hu with | [_], _ => .of_eq rfl, fun base _ _ => ok_answers T (ok_answer_call T (ok_answer_look T))⟩
end LL
open PySem PySem.W PyProof.Rows
set_option maxRecDepth 100000 in
set_option maxHeartbeats 0 in
theorem PySem.Challenge.cw_linelaid_s01_answers_holds : PySem.Challenge.rw_linelaid_s01_answers.Holds := by
  refine holds_os (q := HD.q0) (loose := []) (Xt := fun s => xlAt HD.q0 [] s && recOk [] s) (XP := XL HD.q0 []) (Yf := Hook.obs HD.hk) (Ya := Hook.val HD.hk) (YP := Hook.says HD.hk)
    (N := 5084) HD.left (Hook.of HD.hk) (Hook.keeps HD.hk) (fun s e => xl_of s (Bool.and_eq_true_iff.mp e).1) XL.keeps (by rfl) (by rfl) (by rfl) (fun s e => recFacts_of (Bool.and_eq_true_iff.mp e).2)
    os_shapes (by decide +kernel) (by decide +kernel) ⟨rfl, rfl, rfl, rfl, rfl, by decide +kernel⟩ ⟨[.list [.int 7]], by decide +kernel, by decide +kernel⟩ ?hc
  refine L2.walk_specK (r := PySem.Challenge.rw_linelaid_s01_answers) (k := 10) (CX := L2.CX0) (ps := ["calls"]) (sp := LL.spAns) (by decide +kernel) rfl rfl ⟨rfl, by decide, by decide⟩ (fun w h Y => PySem.W.kIn_of Y) ?F ?S (fun _ _ _ _ z => z)
  case F =>
    intro w mg fa h Y KX G hmg
    refine LL.all_mk KX G hmg
      (C := 345)
      (f0 := 21) (od0 := none) (an0 := none) (sl0 := #[]) (oc0 := .type "function") (kV0 := .none) (dc0 := .none) (pm0 := .str (PySem.Str.ofString "linelaid.limits") 187) (cd0 := .ref 20) (ct0 := .none)
      (f1 := 26) (od1 := none) (an1 := none) (sl1 := #[]) (oc1 := .type "function") (kV1 := .none) (dc1 := .none) (pm1 := .str (PySem.Str.ofString "linelaid.limits") 187) (cd1 := .ref 25) (ct1 := .none)
      (f2 := 33) (od2 := none) (an2 := none) (sl2 := #[]) (oc2 := .type "function") (kV2 := .none) (dc2 := .none) (pm2 := .str (PySem.Str.ofString "linelaid.limits") 187) (cd2 := .ref 32) (ct2 := .none)
      (f3 := 40) (od3 := none) (an3 := none) (sl3 := #[]) (oc3 := .type "function") (kV3 := .none) (dc3 := .none) (pm3 := .str (PySem.Str.ofString "linelaid.bounds") 242) (cd3 := .ref 39) (ct3 := .none)
      (f4 := 47) (od4 := none) (an4 := none) (sl4 := #[]) (oc4 := .type "function") (kV4 := .none) (dc4 := .none) (pm4 := .str (PySem.Str.ofString "linelaid.bounds") 242) (cd4 := .ref 46) (ct4 := .none)
      (f5 := 54) (od5 := none) (an5 := none) (sl5 := #[]) (oc5 := .type "function") (kV5 := .none) (dc5 := .none) (pm5 := .str (PySem.Str.ofString "linelaid.bounds") 242) (cd5 := .ref 53) (ct5 := .none)
      (f6 := 61) (od6 := none) (an6 := none) (sl6 := #[]) (oc6 := .type "function") (kV6 := .none) (dc6 := .none) (pm6 := .str (PySem.Str.ofString "linelaid.bounds") 242) (cd6 := .ref 60) (ct6 := .none)
      (f7 := 68) (od7 := none) (an7 := none) (sl7 := #[]) (oc7 := .type "function") (kV7 := .none) (dc7 := .none) (pm7 := .str (PySem.Str.ofString "linelaid.bounds") 242) (cd7 := .ref 67) (ct7 := .none)
      (f8 := 73) (od8 := none) (an8 := none) (sl8 := #[]) (oc8 := .type "function") (kV8 := .none) (dc8 := .none) (pm8 := .str (PySem.Str.ofString "linelaid.bounds") 242) (cd8 := .ref 72) (ct8 := .none)
      (f9 := 78) (od9 := none) (an9 := none) (sl9 := #[]) (oc9 := .type "function") (kV9 := .none) (dc9 := .none) (pm9 := .str (PySem.Str.ofString "linelaid.bounds") 242) (cd9 := .ref 77) (ct9 := .none)
      (f10 := 85) (od10 := none) (an10 := none) (sl10 := #[]) (oc10 := .type "function") (kV10 := .none) (dc10 := .none) (pm10 := .str (PySem.Str.ofString "linelaid.bounds") 242) (cd10 := .ref 84) (ct10 := .none)
      (f11 := 92) (od11 := none) (an11 := none) (sl11 := #[]) (oc11 := .type "function") (kV11 := .none) (dc11 := .none) (pm11 := .str (PySem.Str.ofString "linelaid.lines") 310) (cd11 := .ref 91) (ct11 := .none)
      (f12 := 97) (od12 := none) (an12 := none) (sl12 := #[]) (oc12 := .type "function") (kV12 := .none) (dc12 := .none) (pm12 := .str (PySem.Str.ofString "linelaid.lines") 310) (cd12 := .ref 96) (ct12 := .none)
      (f13 := 102) (od13 := none) (an13 := none) (sl13 := #[]) (oc13 := .type "function") (kV13 := .none) (dc13 := .none) (pm13 := .str (PySem.Str.ofString "linelaid.lines") 310) (cd13 := .ref 101) (ct13 := .none)
      (f14 := 107) (od14 := none) (an14 := none) (sl14 := #[]) (oc14 := .type "function") (kV14 := .none) (dc14 := .none) (pm14 := .str (PySem.Str.ofString "linelaid.lines") 310) (cd14 := .ref 106) (ct14 := .none)
      (f15 := 112) (od15 := none) (an15 := none) (sl15 := #[]) (oc15 := .type "function") (kV15 := .none) (dc15 := .none) (pm15 := .str (PySem.Str.ofString "linelaid.lines") 310) (cd15 := .ref 111) (ct15 := .none)
      (f16 := 119) (od16 := none) (an16 := none) (sl16 := #[]) (oc16 := .type "function") (kV16 := .none) (dc16 := .none) (pm16 := .str (PySem.Str.ofString "linelaid.lines") 310) (cd16 := .ref 118) (ct16 := .none)
      (f17 := 126) (od17 := none) (an17 := none) (sl17 := #[]) (oc17 := .type "function") (kV17 := .none) (dc17 := .none) (pm17 := .str (PySem.Str.ofString "linelaid.lines") 310) (cd17 := .ref 125) (ct17 := .none)
      (f18 := 133) (od18 := none) (an18 := none) (sl18 := #[]) (oc18 := .type "function") (kV18 := .none) (dc18 := .none) (pm18 := .str (PySem.Str.ofString "linelaid.lines") 310) (cd18 := .ref 132) (ct18 := .none)
      (f19 := 140) (od19 := none) (an19 := none) (sl19 := #[]) (oc19 := .type "function") (kV19 := .none) (dc19 := .none) (pm19 := .str (PySem.Str.ofString "linelaid.lines") 310) (cd19 := .ref 139) (ct19 := .none)
      (f20 := 145) (od20 := none) (an20 := none) (sl20 := #[]) (oc20 := .type "function") (kV20 := .none) (dc20 := .none) (pm20 := .str (PySem.Str.ofString "linelaid.lines") 310) (cd20 := .ref 144) (ct20 := .none)
      (f21 := 152) (od21 := none) (an21 := none) (sl21 := #[]) (oc21 := .type "function") (kV21 := .none) (dc21 := .none) (pm21 := .str (PySem.Str.ofString "linelaid.lines") 310) (cd21 := .ref 151) (ct21 := .none)
      (f22 := 159) (od22 := none) (an22 := none) (sl22 := #[]) (oc22 := .type "function") (kV22 := .none) (dc22 := .none) (pm22 := .str (PySem.Str.ofString "linelaid.lines") 310) (cd22 := .ref 158) (ct22 := .none)
      (f23 := 166) (od23 := none) (an23 := none) (sl23 := #[]) (oc23 := .type "function") (kV23 := .none) (dc23 := .none) (pm23 := .str (PySem.Str.ofString "linelaid.lines") 310) (cd23 := .ref 165) (ct23 := .none)
      (f24 := 173) (od24 := none) (an24 := none) (sl24 := #[]) (oc24 := .type "function") (kV24 := .none) (dc24 := .none) (pm24 := .str (PySem.Str.ofString "linelaid.looks") 422) (cd24 := .ref 172) (ct24 := .none)
      (f25 := 180) (od25 := none) (an25 := none) (sl25 := #[]) (oc25 := .type "function") (kV25 := .none) (dc25 := .none) (pm25 := .str (PySem.Str.ofString "linelaid.looks") 422) (cd25 := .ref 179) (ct25 := .none)
      (f26 := 187) (od26 := none) (an26 := none) (sl26 := #[]) (oc26 := .type "function") (kV26 := .none) (dc26 := .none) (pm26 := .str (PySem.Str.ofString "linelaid.looks") 422) (cd26 := .ref 186) (ct26 := .none)
      (f27 := 194) (od27 := none) (an27 := none) (sl27 := #[]) (oc27 := .type "function") (kV27 := .none) (dc27 := .none) (pm27 := .str (PySem.Str.ofString "linelaid.looks") 422) (cd27 := .ref 193) (ct27 := .none)
      (f28 := 201) (od28 := none) (an28 := none) (sl28 := #[]) (oc28 := .type "function") (kV28 := .none) (dc28 := .none) (pm28 := .str (PySem.Str.ofString "linelaid.looks") 422) (cd28 := .ref 200) (ct28 := .none)
      (f29 := 206) (od29 := none) (an29 := none) (sl29 := #[]) (oc29 := .type "function") (kV29 := .none) (dc29 := .none) (pm29 := .str (PySem.Str.ofString "linelaid.looks") 422) (cd29 := .ref 205) (ct29 := .none)
      (f30 := 213) (od30 := none) (an30 := none) (sl30 := #[]) (oc30 := .type "function") (kV30 := .none) (dc30 := .none) (pm30 := .str (PySem.Str.ofString "linelaid.looks") 422) (cd30 := .ref 212) (ct30 := .none)
      (f31 := 220) (od31 := none) (an31 := none) (sl31 := #[]) (oc31 := .type "function") (kV31 := .none) (dc31 := .none) (pm31 := .str (PySem.Str.ofString "linelaid.looks") 422) (cd31 := .ref 219) (ct31 := .none)
      (f32 := 227) (od32 := none) (an32 := none) (sl32 := #[]) (oc32 := .type "function") (kV32 := .none) (dc32 := .none) (pm32 := .str (PySem.Str.ofString "linelaid.records") 490) (cd32 := .ref 226) (ct32 := .none)
      (f33 := 234) (od33 := none) (an33 := none) (sl33 := #[]) (oc33 := .type "function") (kV33 := .none) (dc33 := .none) (pm33 := .str (PySem.Str.ofString "linelaid.records") 490) (cd33 := .ref 233) (ct33 := .none)
      (f34 := 241) (od34 := none) (an34 := none) (sl34 := #[]) (oc34 := .type "function") (kV34 := .none) (dc34 := .none) (pm34 := .str (PySem.Str.ofString "linelaid.records") 490) (cd34 := .ref 240) (ct34 := .none)
      (f35 := 255) (od35 := none) (an35 := none) (sl35 := #[]) (oc35 := .type "function") (kV35 := .none) (dc35 := .none) (pm35 := .str (PySem.Str.ofString "linelaid.roads") 514) (cd35 := .ref 254) (ct35 := .none)
      (f36 := 262) (od36 := none) (an36 := none) (sl36 := #[]) (oc36 := .type "function") (kV36 := .none) (dc36 := .none) (pm36 := .str (PySem.Str.ofString "linelaid.roads") 514) (cd36 := .ref 261) (ct36 := .none)
      (f37 := 267) (od37 := none) (an37 := none) (sl37 := #[]) (oc37 := .type "function") (kV37 := .none) (dc37 := .none) (pm37 := .str (PySem.Str.ofString "linelaid.roads") 514) (cd37 := .ref 266) (ct37 := .none)
      (f38 := 274) (od38 := none) (an38 := none) (sl38 := #[]) (oc38 := .type "function") (kV38 := .none) (dc38 := .none) (pm38 := .str (PySem.Str.ofString "linelaid.roads") 514) (cd38 := .ref 273) (ct38 := .none)
      (f39 := 281) (od39 := none) (an39 := none) (sl39 := #[]) (oc39 := .type "function") (kV39 := .none) (dc39 := .none) (pm39 := .str (PySem.Str.ofString "linelaid.roads") 514) (cd39 := .ref 280) (ct39 := .none)
      (f40 := 288) (od40 := none) (an40 := none) (sl40 := #[]) (oc40 := .type "function") (kV40 := .none) (dc40 := .none) (pm40 := .str (PySem.Str.ofString "linelaid.roads") 514) (cd40 := .ref 287) (ct40 := .none)
      (f41 := 295) (od41 := none) (an41 := none) (sl41 := #[]) (oc41 := .type "function") (kV41 := .none) (dc41 := .none) (pm41 := .str (PySem.Str.ofString "linelaid.roads") 514) (cd41 := .ref 294) (ct41 := .none)
      (f42 := 302) (od42 := none) (an42 := none) (sl42 := #[]) (oc42 := .type "function") (kV42 := .none) (dc42 := .none) (pm42 := .str (PySem.Str.ofString "linelaid.roads") 514) (cd42 := .ref 301) (ct42 := .none)
      (f43 := 309) (od43 := none) (an43 := none) (sl43 := #[]) (oc43 := .type "function") (kV43 := .none) (dc43 := .none) (pm43 := .str (PySem.Str.ofString "linelaid.roads") 514) (cd43 := .ref 308) (ct43 := .none)
      (f44 := 316) (od44 := none) (an44 := none) (sl44 := #[]) (oc44 := .type "function") (kV44 := .none) (dc44 := .none) (pm44 := .str (PySem.Str.ofString "linelaid.roads") 514) (cd44 := .ref 315) (ct44 := .none)
      (f45 := 321) (od45 := none) (an45 := none) (sl45 := #[]) (oc45 := .type "function") (kV45 := .none) (dc45 := .none) (pm45 := .str (PySem.Str.ofString "linelaid.roads") 514) (cd45 := .ref 320) (ct45 := .none)
      (f46 := 328) (od46 := none) (an46 := none) (sl46 := #[]) (oc46 := .type "function") (kV46 := .none) (dc46 := .none) (pm46 := .str (PySem.Str.ofString "linelaid.roads") 514) (cd46 := .ref 327) (ct46 := .none)
      (f47 := 335) (od47 := none) (an47 := none) (sl47 := #[]) (oc47 := .type "function") (kV47 := .none) (dc47 := .none) (pm47 := .str (PySem.Str.ofString "linelaid.roads") 514) (cd47 := .ref 334) (ct47 := .none)
      (f48 := 342) (od48 := none) (an48 := none) (sl48 := #[]) (oc48 := .type "function") (kV48 := .none) (dc48 := .none) (pm48 := .str (PySem.Str.ofString "linelaid.roads") 514) (cd48 := .ref 341) (ct48 := .none)
      (f49 := 356) (od49 := none) (an49 := none) (sl49 := #[]) (oc49 := .type "function") (kV49 := .none) (dc49 := .none) (pm49 := .str (PySem.Str.ofString "linelaid.what_if") 658) (cd49 := .ref 355) (ct49 := .none)
      (f50 := 363) (od50 := none) (an50 := none) (sl50 := #[]) (oc50 := .type "function") (kV50 := .none) (dc50 := .none) (pm50 := .str (PySem.Str.ofString "linelaid.what_if") 658) (cd50 := .ref 362) (ct50 := .none)
      (f51 := 370) (od51 := none) (an51 := none) (sl51 := #[]) (oc51 := .type "function") (kV51 := .none) (dc51 := .none) (pm51 := .str (PySem.Str.ofString "linelaid.what_if") 658) (cd51 := .ref 369) (ct51 := .none)
      (f52 := 378) (od52 := none) (an52 := none) (sl52 := #[]) (oc52 := .type "function") (kV52 := .none) (dc52 := .none) (pm52 := .str (PySem.Str.ofString "linelaid.stations") 692) (cd52 := .ref 377) (ct52 := .none)
      (f53 := 385) (od53 := none) (an53 := none) (sl53 := #[]) (oc53 := .type "function") (kV53 := .none) (dc53 := .none) (pm53 := .str (PySem.Str.ofString "linelaid.stations") 692) (cd53 := .ref 384) (ct53 := .none)
      (f54 := 392) (od54 := none) (an54 := none) (sl54 := #[]) (oc54 := .type "function") (kV54 := .none) (dc54 := .none) (pm54 := .str (PySem.Str.ofString "linelaid.stations") 692) (cd54 := .ref 391) (ct54 := .none)
      (f55 := 399) (od55 := none) (an55 := none) (sl55 := #[]) (oc55 := .type "function") (kV55 := .none) (dc55 := .none) (pm55 := .str (PySem.Str.ofString "linelaid.stations") 692) (cd55 := .ref 398) (ct55 := .none)
      (f56 := 406) (od56 := none) (an56 := none) (sl56 := #[]) (oc56 := .type "function") (kV56 := .none) (dc56 := .none) (pm56 := .str (PySem.Str.ofString "linelaid.stations") 692) (cd56 := .ref 405) (ct56 := .none)
      (f57 := 413) (od57 := none) (an57 := none) (sl57 := #[]) (oc57 := .type "function") (kV57 := .none) (dc57 := .none) (pm57 := .str (PySem.Str.ofString "linelaid.stations") 692) (cd57 := .ref 412) (ct57 := .none)
      (f58 := 420) (od58 := none) (an58 := none) (sl58 := #[]) (oc58 := .type "function") (kV58 := .none) (dc58 := .none) (pm58 := .str (PySem.Str.ofString "linelaid.stations") 692) (cd58 := .ref 419) (ct58 := .none)
      (f59 := 427) (od59 := none) (an59 := none) (sl59 := #[]) (oc59 := .type "function") (kV59 := .none) (dc59 := .none) (pm59 := .str (PySem.Str.ofString "linelaid.stations") 692) (cd59 := .ref 426) (ct59 := .none)
      (t0 := 189)
      (t1 := 191)
      (t2 := 193)
      (t3 := 195)
      (t4 := 197)
      (t5 := 199)
      (t6 := 222)
      (t7 := 225)
      (t8 := 228)
      (t9 := 231)
      (t10 := 234)
      (t11 := 237)
      (t12 := 240)
      (t13 := 694)
      (t14 := 696)
      (t15 := 698)
      (t16 := 700)
      (t17 := 702)
      (t18 := 704)
      (t19 := 706)
      (t20 := 708)
      (t21 := 710)
      (t22 := 712)
      (t23 := 714)
      (t24 := 716)
      (t25 := 718)
      (t26 := 720)
      (t27 := 722)
      (t28 := 724)
      (t29 := 726)
      (t30 := 728)
      (t31 := 730)
      (t32 := 732)
      (t33 := 734)
      (t34 := 736)
      (ta35 := 371) (oda35 := none) (sla35 := #[]) (na35 := 0) (t35_0 := 738) (t35_1 := 739) (t35_2 := 740) (t35_3 := 741) (t35_4 := 742) (t35_5 := 743) (t35_6 := 744) (t35_7 := 745) (t35_8 := 746) (t35_9 := 747) (t35_10 := 748) (t35_11 := 749) (t35_12 := 750) (t35_13 := 751) (t35_14 := 752) (t35_15 := 753) (t35_16 := 754) (t35_17 := 755) (t35_18 := 756) (t35_19 := 757) (t35_20 := 758) (t35_21 := 759) (t35_22 := 760)
      ?_ ?_ ?_ ?_ ?_ ?_ ?_ ?_ ?_ ?_ ?_ ?_ ?_ ?_ ?_ ?_ ?_ ?_ ?_ ?_ ?_ ?_ ?_ ?_ ?_ ?_ ?_ ?_ ?_ ?_ ?_ ?_ ?_ ?_ ?_ ?_ ?_ ?_ ?_ ?_ ?_ ?_ ?_ ?_ ?_ ?_ ?_ ?_ ?_ ?_ ?_ ?_ ?_ ?_ ?_ ?_ ?_ ?_ ?_ ?_ ?_ ?_ ?_ ?_ ?_ ?_ ?_ ?_ ?_ ?_ ?_ ?_ ?_ ?_ ?_ ?_ ?_ ?_ ?_ ?_ ?_ ?_ ?_ ?_ ?_ ?_ ?_ ?_ ?_ ?_ ?_ ?_ ?_ ?_ ?_ ?_ ?_ ?_ ?_ ?_ ?_ ?_ ?_ ?_ ?_ ?_ ?_ ?_ ?_ ?_ ?_ ?_ ?_ ?_ ?_ ?_ ?_ ?_ ?_ ?_ ?_ ?_ ?_ ?_ ?_ ?_ ?_ ?_ ?_ ?_ ?_ ?_ ?_ ?_ ?_ ?_ ?_ ?_ ?_ ?_ ?_ ?_ ?_ ?_ ?_ ?_ ?_ ?_ ?_ ?_ ?_ ?_ ?_ ?_ ?_ ?_ ?_ ?_ ?_ ?_ ?_ ?_ ?_ ?_ ?_ ?_ ?_ ?_ ?_ ?_ ?_ ?_ ?_ ?_ ?_ ?_ ?_ ?_ ?_ ?_ ?_ ?_ ?_ ?_ ?_ ?_ ?_ ?_ ?_ ?_ ?_ ?_ ?_ ?_ ?_ ?_ ?_ ?_ ?_ ?_ ?_ ?_ ?_ ?_ ?_ ?_ ?_ ?_ ?_ ?_ ?_ ?_ ?_ ?_ ?_ ?_ ?_ ?_ ?_ ?_ ?_ ?_ ?_ ?_ ?_ ?_ ?_ ?_ ?_ ?_ ?_ ?_ ?_ ?_ ?_ ?_ ?_ ?_ ?_ ?_ ?_ ?_ ?_ ?_ ?_ ?_ ?_ ?_ ?_ ?_ ?_ ?_ ?_ ?_ ?_ ?_ ?_ ?_ ?_ ?_ ?_ ?_ ?_ ?_ ?_ ?_ ?_ ?_ ?_ ?_ ?_ ?_ ?_ ?_ ?_ ?_ ?_ ?_ ?_ ?_ ?_ ?_ ?_ ?_ ?_ ?_ ?_ ?_ ?_ ?_ ?_ ?_ ?_ ?_ ?_ ?_ ?_ ?_ ?_ ?_ ?_ ?_ ?_ ?_ ?_ ?_ ?_ ?_ ?_ ?_ ?_ ?_ ?_
    all_goals kernel_rfl
  case S =>
    intro K H xs a hO hwi hask hx
    cases hx with
    | cons h1 h2 =>
      cases h2
      cases h1 with
      | lst hs ha =>
        have e := L2.ints_dw a.1 _ ha
        subst e
        have q : ((Codec.inLen 0 30000 a.1 && a.1.all (Codec.inInt 0 4294967295)) && true) = true := hwi
        have q2 : PyKv363.answers_asked a.1 = true := hask
        rw [Bool.and_eq_true, Bool.and_eq_true] at q
        obtain ⟨cs, raw, ec, h3, h4⟩ := LL.asked_of (l := a.1) (fun x hx => (Codec.inInt_iff.mp (List.all_eq_true.mp q.1.2 x hx)).1) q2
        refine ⟨_, cs, raw, rfl, ?_, h3, h4, fun H' p hp => ?_⟩
        · rw [ec, LL.ofN_nv] at hs
          exact hs
        · rw [← ec] at hp
          exact .lst (L2.SqL.of hp) (L2.dw_ints _)

