import PyProof.Rows.All
import Wide.All
import OpenK.AllK
import Wide.FinOn
import Lean
import PyProof.EqAt
import PyProof.EqKinds
import PyProof.TupleCall
import PySem.Challenge.RW_ringbase_k13_whole_even_sets
set_option Elab.async false
set_option linter.all false
set_option maxRecDepth 100000
namespace L2
open PySem PySem.Spec PyProof.Rows

abbrev Key := Sum Int Str
def keyIs : Key → Value → Bool
  | .inl k, v => Value.isInt k v
  | .inr x, v => Value.isStrOf x v
def keyH (w : World) : Key → Int
  | .inl k => hashInt k
  | .inr x => hashStr w x
theorem keyIs_shape : ∀ {k : Key} {v : Value}, keyIs k v = true → (∃ i t, k = Sum.inl i ∧ v = Value.int i t) ∨ (∃ x t, k = Sum.inr x ∧ v = Value.str x t)
  | .inl i, v, h => by
    obtain ⟨t, e⟩ := Value.isInt_shape (k := i) (v := v) h
    exact .inl ⟨i, t, rfl, e⟩
  | .inr x, v, h => by
    obtain ⟨t, e⟩ := Value.isStrOf_shape (x := x) (v := v) h
    exact .inr ⟨x, t, rfl, e⟩
theorem key_ll (a b : Int) : decide ((Sum.inl a : Key) = Sum.inl b) = (a == b) := by
  by_cases e : a = b
  · subst e; simp
  · have h : ¬ (Sum.inl a : Key) = Sum.inl b := fun q => e (Sum.inl.inj q)
    rw [decide_eq_false h]
    exact (beq_eq_false_iff_ne.mpr e).symm
theorem key_rr (a b : Str) : decide ((Sum.inr a : Key) = Sum.inr b) = decide (a = b) := by
  by_cases e : a = b
  · subst e; simp
  · have h : ¬ (Sum.inr a : Key) = Sum.inr b := fun q => e (Sum.inr.inj q)
    rw [decide_eq_false h, decide_eq_false e]
theorem key_lr (a : Int) (b : Str) : decide ((Sum.inl a : Key) = Sum.inr b) = false := decide_eq_false (fun q => nomatch q)
theorem key_rl (a : Str) (b : Int) : decide ((Sum.inr a : Key) = Sum.inl b) = false := decide_eq_false (fun q => nomatch q)

def mixKind (prog : Program) (w : World) : PySem.KeyKind prog w Key where
  is := keyIs
  hash := keyH w
  inj := fun v a b ha hb => by
    rcases keyIs_shape ha with ⟨i, t, rfl, rfl⟩ | ⟨x, t, rfl, rfl⟩
    · rcases keyIs_shape hb with ⟨j, u, rfl, e⟩ | ⟨y, u, rfl, e⟩
      · injection e with e1 _; rw [e1]
      · exact nomatch e
    · rcases keyIs_shape hb with ⟨j, u, rfl, e⟩ | ⟨y, u, rfl, e⟩
      · exact nomatch e
      · injection e with e1 _; rw [e1]
  byValue := fun k v h => by
    rcases keyIs_shape h with ⟨i, t, rfl, rfl⟩ | ⟨x, t, rfl, rfl⟩ <;> rfl
  pyHash := fun hv h => by
    rcases keyIs_shape hv with ⟨i, t, rfl, rfl⟩ | ⟨x, t, rfl, rfl⟩
    · exact wpAny_pyHash_int h
    · exact wpAny_pyHash_str h
  eqBool := fun hu hv h => by
    rcases keyIs_shape hu with ⟨i, t, rfl, rfl⟩ | ⟨x, t, rfl, rfl⟩
    · rcases keyIs_shape hv with ⟨j, u, rfl, rfl⟩ | ⟨y, u, rfl, rfl⟩
      · rw [key_ll] at h; exact wpAny_eqBool_int h
      · rw [key_lr] at h; exact SeqAt.EqAt.int_str i t y u _ _ _ _ h
    · rcases keyIs_shape hv with ⟨j, u, rfl, rfl⟩ | ⟨y, u, rfl, rfl⟩
      · rw [key_rl] at h; exact SeqAt.EqAt.str_int x t j u _ _ _ _ h
      · rw [key_rr] at h; exact wpAny_eqBool_str h
  «strs» := fun k x t v h => by
    rcases keyIs_shape h with ⟨i, u, rfl, e⟩ | ⟨y, u, rfl, e⟩
    · exact nomatch e
    · injection e with e1 _
      subst e1
      cases v <;> rfl

end L2

namespace L2
open PySem PySem.Spec PyProof.Rows

inductive V where
  | non | bl (b : Bool) | int (i : Int) | str (x : Str) | byt (b : Array UInt8) | flt (b : UInt64) | ref (a : Addr) | ty (n : String)
  deriving DecidableEq

def RelV : V → Value → Prop
  | .non, u => u = Value.none
  | .bl b, u => u = Value.bool b
  | .int i, u => ∃ t, u = Value.int i t
  | .str x, u => ∃ t, u = Value.str x t
  | .byt b, u => ∃ t, u = Value.bytes b t
  | .flt b, u => ∃ t, u = Value.float b t
  | .ref a, u => u = Value.ref a
  | .ty n, u => u = Value.type n

abbrev Vals : List V → List Value → Prop := Paired RelV
theorem Vals.length {xs : List V} {us : List Value} (r : Vals xs us) : xs.length = us.length := Paired.length r
theorem Vals.get : ∀ {xs : List V} {us : List Value} {i : Nat} {x : V}, Vals xs us → xs[i]? = some x → ∃ u, us[i]? = some u ∧ RelV x u
  | _, _, _, _, .nil, e => by simp at e
  | _, _, 0, _, .cons r _, e => by simp at e; subst e; exact ⟨_, rfl, r⟩
  | _, _, i + 1, x, .cons _ t, e => by
    obtain ⟨u, h1, h2⟩ := Vals.get (i := i) (x := x) t (by simpa using e)
    exact ⟨u, by simpa using h1, h2⟩
theorem Vals.set {x : V} {u : Value} (r : RelV x u) : ∀ {xs : List V} {us : List Value} (i : Nat), Vals xs us → Vals (xs.set i x) (us.set i u)
  | _, _, _, .nil => .nil
  | _, _, 0, .cons _ t => .cons r t
  | _, _, i + 1, .cons q t => .cons q (Vals.set r i t)
theorem Vals.append : ∀ {xs ys : List V} {us ws : List Value}, Vals xs us → Vals ys ws → Vals (xs ++ ys) (us ++ ws)
  | _, _, _, _, .nil, s => s
  | _, _, _, _, .cons r t, s => .cons r (Vals.append t s)
theorem Vals.take : ∀ {xs : List V} {us : List Value} (n : Nat), Vals xs us → Vals (xs.take n) (us.take n)
  | _, _, 0, _ => .nil
  | _, _, _ + 1, .nil => .nil
  | _, _, n + 1, .cons r t => .cons r (Vals.take n t)
theorem Vals.drop : ∀ {xs : List V} {us : List Value} (n : Nat), Vals xs us → Vals (xs.drop n) (us.drop n)
  | _, _, 0, r => r
  | _, _, _ + 1, .nil => .nil
  | _, _, n + 1, .cons _ t => Vals.drop n t
def RelO : Option V → Option Value → Prop
  | some v, some u => RelV v u
  | none, none => True
  | _, _ => False
def KV {κ : Type} : List (κ × V) → List (κ × Value) → Prop := Paired fun (p : κ × V) (q : κ × Value) => p.1 = q.1 ∧ RelV p.2 q.2

def kV : Key → V
  | .inl i => .int i
  | .inr x => .str x

inductive HO where
  /-- a list -/
  | lst (xs : List V)
  /-- a tuple (never changes) -/
  | tup (xs : List V)
  /-- a dict whose keys are ints and texts; one whose keys are tuples of ints and texts (the empty one is both) -/
  | dK (kvs : List (Key × V)) | dT (kvs : List (List Key × V))
  /-- a set of ints: its members, its size -/
  | set (S : Int → Bool) (n : Nat)
  /-- an instance of the class at C, its dict at dx, its attributes -/
  | ins (C dx : Addr) (fs : List (Str × V))
  /-- the dict of the instance at x -/
  | own (x : Addr)
  /-- the dict of an exception -/
  | xd (fs : List (Str × V))
  /-- a bound method, f of x -/
  | met (f x : Addr)
  /-- a range object lo, lo + 1, .. below hi -/
  | rng (lo hi : Int)
  /-- a thing that is known to the object (the script; a dict while a loop walks it): read, never written while it is so -/
  | frz (o : Obj) (u : HO)
  /-- a code object's table -/
  | tbl (ps : Array Value)
  /-- any other thing, by what is true of its one object (a def of one's own: SetO a S n := HO.ext fun h => ..) -/
  | ext (φ : Heap → Prop)

abbrev Hp := Addr → Option HO
def upd (H : Hp) (a : Addr) (o : HO) : Hp := fun b => if b = a then some o else H b
theorem upd_same {H : Hp} {a : Addr} {o : HO} : upd H a o a = some o := by unfold upd; rw [if_pos rfl]
theorem upd_ne {H : Hp} {a b : Addr} {o : HO} (h : b ≠ a) : upd H a o b = H b := by unfold upd; rw [if_neg h]
theorem ne_of {H : Hp} {a b : Addr} {o u : HO} (h : H a = some o) (h' : H b = some u) (d : o ≠ u) : a ≠ b := by
  intro e; subst e; rw [h] at h'; exact d (Option.some.inj h')
theorem ne_of_none {H : Hp} {a b : Addr} {o : HO} (h : H a = some o) (h' : H b = none) : a ≠ b := by
  intro e; subst e; rw [h] at h'; cases h'

section
variable (P : Program) (w : World)
def ObjOk (H : Hp) (h : Heap) (a : Addr) : HO → Prop
  | .lst xs => xs.length ≤ sizeLine ∧ ∃ (its : List Value) (n : Nat), Vals xs its ∧ h.get? a = some { cls := .type "list", data := .seq its.toArray n }
  | .tup xs => xs.length ≤ sizeLine ∧ ∃ its : List Value, Vals xs its ∧ IsTup h a its.toArray
  | .dK kvs => kvs.length ≤ sizeLine ∧ (a == sysModules) = false ∧ ∃ vs, KV kvs vs ∧ h.DictOf (mixKind P w) a vs
  | .dT kvs => kvs.length ≤ sizeLine ∧ (a == sysModules) = false ∧ ∃ xs : List (List Key × Addr × Value),
      Paired (fun (p : List Key × V) (q : List Key × Addr × Value) => p.1 = q.1 ∧ H q.2.1 = some (.tup (p.1.map kV)) ∧ RelV p.2 q.2.2) kvs xs ∧
      ∃ o es ep, h.get? a = some o ∧ o.ExactDict ∧ o.data = .dict es ep ∧ es.toList = xs.map (entryOfKey (tupleKind (mixKind P w))) ∧ (xs.map (·.1)).Nodup
  | .set S n => h.SetOf (intKind P w) a S n
  | .ins C dx fs => H dx = some (.own a) ∧ fs.length ≤ 1000 ∧ dx ≠ a ∧ h.get? a = some (PySem.W.instObj C dx) ∧
      ∃ mA, h.Ns1 dx mA ∧ (∀ f, RelO (fs.lookup f) (mA f)) ∧ PySem.Within mA (fs.map (·.1))
  | .own _ => ∃ o, h.get? a = some o
  | .xd fs => ∃ mA, h.Ns1 a mA ∧ ∀ f, RelO (fs.lookup f) (mA f)
  | .rng lo hi => ∃ t u v, h.get? a = some { cls := .type "range", data := .fields #[.int lo t, .int hi u, .int 1 v] }
  | .frz o u => h.get? a = some o ∧ ObjOk H h a u
  | .tbl ps => h.get? a = some { cls := .none, data := .fields ps }
  | .met f x => h.get? a = some (PySem.W.methodObj (.ref f) (.ref x))
  | .ext φ => φ h ∧ (∃ o, h.get? a = some o) ∧ ∀ h1 h2 : Heap, φ h1 → (∀ o, h1.get? a = some o → h2.get? a = some o) → φ h2
def HOk (H : Hp) (h : Heap) : Prop := ∀ a o, H a = some o → ObjOk P w H h a o
end

section
variable {P : Program} {w : World} {H H' : Hp} {h h' : Heap} {a : Addr} {o : HO}
theorem ObjOk.lt (x : ObjOk P w H h a o) : a < h.objs.size := by
  cases o with
  | lst xs => obtain ⟨_, _, _, _, e⟩ := x; exact Heap.lt_size e
  | tup xs => obtain ⟨_, _, _, p⟩ := x; exact p.lt
  | dK kvs => obtain ⟨_, _, _, _, o, _, _, e, _⟩ := x; exact Heap.lt_size e
  | dT kvs => obtain ⟨_, _, _, _, o, _, _, e, _⟩ := x; exact Heap.lt_size e
  | set S n => obtain ⟨o, _, _, _, e, _⟩ := x; exact Heap.lt_size e
  | ins C dx fs => obtain ⟨_, _, _, e, _⟩ := x; exact Heap.lt_size e
  | own y => obtain ⟨_, e⟩ := x; exact Heap.lt_size e
  | xd fs => obtain ⟨_, ⟨_, _, _, e, _⟩, _⟩ := x; exact Heap.lt_size e
  | rng lo hi => obtain ⟨_, _, _, e⟩ := x; exact Heap.lt_size e
  | frz ob u => obtain ⟨e, _⟩ := x; exact Heap.lt_size e
  | tbl ps => exact Heap.lt_size (show h.get? a = some _ from x)
  | met f y => exact Heap.lt_size (show h.get? a = some _ from x)
  | ext φ => obtain ⟨_, ⟨_, e⟩, _⟩ := x; exact Heap.lt_size e
theorem Paired.mapP {α β : Type} {F G : α → β → Prop} : ∀ {l₁ : List α} {l₂ : List β}, Paired F l₁ l₂ → (∀ a b, F a b → G a b) → Paired G l₁ l₂
  | _, _, .nil, _ => .nil
  | _, _, .cons r t, f => .cons (f _ _ r) (Paired.mapP t f)
theorem Paired.imp' {α β : Type} {F G : α → β → Prop} (f : ∀ a b, F a b → G a b) {l₁ : List α} {l₂ : List β} (r : Paired F l₁ l₂) : Paired G l₁ l₂ := Paired.mapP r f
theorem ObjOk.stay (x : ObjOk P w H h a o) (k : ∀ b u, (b = a ∨ H b = some (.own a)) → h.get? b = some u → h'.get? b = some u)
    (ho : ∀ b, H b = some (.own a) → H' b = some (.own a)) (ht : ∀ b xs, H b = some (.tup xs) → H' b = some (.tup xs)) : ObjOk P w H' h' a o := by
  induction o with
  | lst xs => obtain ⟨z, its, n, r, e⟩ := x; exact ⟨z, its, n, r, k _ _ (.inl rfl) e⟩
  | tup xs => obtain ⟨z, its, r, ob, e, c⟩ := x; exact ⟨z, its, r, ob, k _ _ (.inl rfl) e, c⟩
  | dK kvs => obtain ⟨z, y, vs, r, ob, es, ep, e, c⟩ := x; exact ⟨z, y, vs, r, ob, es, ep, k _ _ (.inl rfl) e, c⟩
  | dT kvs =>
    obtain ⟨z, y, xs, r, ob, es, ep, e, c⟩ := x
    exact ⟨z, y, xs, Paired.mapP r fun p q z => ⟨z.1, ht _ _ z.2.1, z.2.2⟩, ob, es, ep, k _ _ (.inl rfl) e, c⟩
  | set S n => obtain ⟨ob, es, ep, t, e, c⟩ := x; exact ⟨ob, es, ep, t, k _ _ (.inl rfl) e, c⟩
  | ins C dx fs =>
    obtain ⟨d, z, ne, e, mA, ⟨od, es, ep, e2, c⟩, r⟩ := x
    exact ⟨ho _ d, z, ne, k _ _ (.inl rfl) e, mA, ⟨od, es, ep, k _ _ (.inr d) e2, c⟩, r⟩
  | own y => obtain ⟨ob, e⟩ := x; exact ⟨ob, k _ _ (.inl rfl) e⟩
  | xd fs => obtain ⟨mA, ⟨od, es, ep, e, c⟩, r⟩ := x; exact ⟨mA, ⟨od, es, ep, k _ _ (.inl rfl) e, c⟩, r⟩
  | rng lo hi => obtain ⟨t, u, v, e⟩ := x; exact ⟨t, u, v, k _ _ (.inl rfl) e⟩
  | frz ob u ih => obtain ⟨e, q⟩ := x; exact ⟨k _ _ (.inl rfl) e, ih q⟩
  | tbl ps =>
    have e : h.get? a = some { cls := .none, data := .fields ps } := x
    show h'.get? a = some { cls := .none, data := .fields ps }
    exact k a _ (.inl rfl) e
  | met f y =>
    have e : h.get? a = some (PySem.W.methodObj (.ref f) (.ref y)) := x
    show h'.get? a = some (PySem.W.methodObj (.ref f) (.ref y))
    exact k a _ (.inl rfl) e
  | ext φ => obtain ⟨p, ⟨o, e⟩, st⟩ := x; exact ⟨st _ _ p fun o q => k _ _ (.inl rfl) q, ⟨o, k _ _ (.inl rfl) e⟩, st⟩
theorem HOk.lt (x : HOk P w H h) (e : H a = some o) : a < h.objs.size := (x a o e).lt
theorem HOk.fresh (x : HOk P w H h) (e : h.objs.size ≤ a) : H a = none := by
  cases q : H a with
  | none => rfl
  | some u => exact absurd (Nat.lt_of_lt_of_le (x.lt q) e) (Nat.lt_irrefl _)
theorem HOk.kept (x : HOk P w H h) (k : ∀ b u, h.get? b = some u → h'.get? b = some u) : HOk P w H h' := fun a o e =>
  (x a o e).stay (fun b u _ q => k b u q) (fun _ q => q) fun _ _ q => q
theorem HOk.laid (x : HOk P w H h) (k : ∀ b u, h.get? b = some u → h'.get? b = some u) (hp : h.objs.size ≤ a) (new : ObjOk P w (upd H a o) h' a o) : HOk P w (upd H a o) h' := fun b u e => by
  have hn := x.fresh hp
  by_cases hb : b = a
  · subst hb; rw [upd_same] at e; cases e; exact new
  · rw [upd_ne hb] at e
    exact (x b u e).stay (fun c v _ q => k c v q) (fun c q => by rw [upd_ne (ne_of_none q hn)]; exact q) fun c xs q => by rw [upd_ne (ne_of_none q hn)]; exact q
end

def Rd (H : Hp) (a : Addr) (u : HO) : Prop := H a = some u ∨ ∃ o, H a = some (.frz o u)
theorem Rd.ok {P : Program} {w : World} {H : Hp} {h : Heap} {a : Addr} {u : HO} (r : Rd H a u) (x : HOk P w H h) : ObjOk P w H h a u := by
  rcases r with r | ⟨o, r⟩
  · exact x a u r
  · obtain ⟨_, q⟩ := x a _ r
    exact q
def Mut : Option HO → Prop
  | some (.lst _) => True
  | some (.dK _) => True
  | some (.dT _) => True
  | some (.set _ _) => True
  | some (.ins _ _ _) => True
  | some (.ext _) => True
  | _ => False
section
variable {P : Program} {w : World} {H : Hp} {h h' : Heap} {x e : Addr} {o' : HO}
theorem HOk.write (ok : HOk P w H h) (mu : Mut (H x)) (he : e = x ∨ H e = some (.own x)) (k : ∀ b u, b ≠ e → h.get? b = some u → h'.get? b = some u) (heo : ∃ u, h'.get? e = some u)
    (new : ObjOk P w (upd H x o') h' x o') : HOk P w (upd H x o') h' := fun b u q => by
  have nown : ∀ c y, H c = some (.own y) → c ≠ x := fun c y r z => by subst z; rw [r] at mu; exact mu
  have ntup : ∀ c xs, H c = some (.tup xs) → c ≠ x := fun c xs r z => by subst z; rw [r] at mu; exact mu
  by_cases hb : b = x
  · subst hb; rw [upd_same] at q; cases q; exact new
  · rw [upd_ne hb] at q
    by_cases hbe : b = e
    · have q' : H b = some (.own x) := by
        rcases he with z | z
        · exact absurd (hbe.trans z) hb
        · rw [hbe]; exact z
      rw [q] at q'; cases q'
      obtain ⟨v, hv⟩ := heo
      exact ⟨v, by rw [hbe]; exact hv⟩
    · refine (ok b u q).stay (fun c v hc r => k c v ?_ r) (fun c r => by rw [upd_ne (nown c b r)]; exact r) fun c xs r => by rw [upd_ne (ntup c xs r)]; exact r
      rcases hc with rfl | hc
      · exact hbe
      · rintro rfl
        rcases he with z | z
        · exact nown c b hc z
        · rw [hc] at z; cases z; exact hb rfl
end

structure Un (fs ex : List Addr) (H H' : Hp) (h h' : Heap) : Prop where
  keep : ∀ b o, h.get? b = some o → H b = none → b ∉ fs → b ∉ ex → h'.get? b = some o
  slot : ∀ b o, h.get? b = some o → H b = none → b ∈ fs → b ∉ ex → ∃ sl, h'.get? b = some { o with slots := sl }
  free : ∀ b o, h.get? b = some o → H b = none → b ∉ ex → H' b = none
  there : ∀ b o, h.get? b = some o → b ∉ ex → ∃ o', h'.get? b = some o'
  tups : ∀ b xs, H b = some (.tup xs) → H' b = some (.tup xs)
  frzs : ∀ b o u, H b = some (.frz o u) → H' b = some (.frz o u)
  tbls : ∀ b ps, H b = some (.tbl ps) → ∃ more, H' b = some (.tbl (ps ++ more))
section
variable {fs fs' ex ex' : List Addr} {H H1 H2 : Hp} {h h1 h2 h' : Heap} {a x e : Addr} {o : HO}
theorem Un.any (u : Un fs ex H H1 h h1) {b : Addr} {ob : Obj} (q : h.get? b = some ob) (n : H b = none) (hx : b ∉ ex) : ∃ sl, h1.get? b = some { ob with slots := sl } := by
  by_cases hb : b ∈ fs
  · exact u.slot b ob q n hb hx
  · exact ⟨ob.slots, u.keep b ob q n hb hx⟩
theorem Un.kept (k : ∀ b u, h.get? b = some u → h'.get? b = some u) : Un fs ex H H h h' :=
  ⟨fun b ob q _ _ _ => k b ob q, fun b ob q _ _ _ => ⟨ob.slots, k b ob q⟩, fun _ _ _ n _ => n, fun b ob q _ => ⟨ob, k b ob q⟩, fun _ _ q => q, fun _ _ _ q => q, fun _ ps q => ⟨#[], by rw [q]; simp⟩⟩
theorem Un.refl : Un fs ex H H h h := Un.kept fun _ _ q => q
theorem Un.laid (k : ∀ b u, h.get? b = some u → h'.get? b = some u) (hp : h.objs.size ≤ a) (hn : H a = none) : Un fs ex H (upd H a o) h h' where
  keep := fun b u q _ _ _ => k b u q
  slot := fun b u q _ _ _ => ⟨u.slots, k b u q⟩
  free := fun b u q n _ => by rw [upd_ne (Nat.ne_of_lt (Nat.lt_of_lt_of_le (Heap.lt_size q) hp))]; exact n
  there := fun b u q _ => ⟨u, k b u q⟩
  tups := fun b xs q => by rw [upd_ne (ne_of_none q hn)]; exact q
  frzs := fun b u xs q => by rw [upd_ne (ne_of_none q hn)]; exact q
  tbls := fun b ps q => ⟨#[], by rw [upd_ne (ne_of_none q hn), q]; simp⟩
theorem Un.write (mu : Mut (H x)) (he : e = x ∨ H e = some (.own x)) (k : ∀ b u, b ≠ e → h.get? b = some u → h'.get? b = some u) (heo : ∃ u, h'.get? e = some u) : Un fs ex H (upd H x o) h h' := by
  have hx : ∀ b, H b = none → b ≠ x := fun b n z => by subst z; rw [n] at mu; exact mu
  have hb : ∀ b, H b = none → b ≠ e := fun b n z => by
    subst z
    rcases he with r | r
    · exact hx b n r
    · rw [n] at r; cases r
  have hm : ∀ b u, H b = some u → ¬ Mut (some u) → b ≠ x := fun b u q nm z => by subst z; rw [q] at mu; exact nm mu
  refine ⟨fun b u q n _ _ => k b u (hb b n) q, fun b u q n _ _ => ⟨u.slots, k b u (hb b n) q⟩, fun b u q n _ => by rw [upd_ne (hx b n)]; exact n, fun b u q _ => ?_,
    fun b xs q => by rw [upd_ne (hm b _ q fun z => z)]; exact q, fun b u xs q => by rw [upd_ne (hm b _ q fun z => z)]; exact q, fun b ps q => ⟨#[], by rw [upd_ne (hm b _ q fun z => z), q]; simp⟩⟩
  by_cases hbe : b = e
  · subst hbe; exact heo
  · exact ⟨u, k b u hbe q⟩
end

def trk (h : Heap) (H : Hp) : List Addr := (List.range h.objs.size).filter fun a => (H a).isSome
def hidT (h : Heap) (H : Hp) : Heap := PySem.W.hideAll h (trk h H)
theorem hidT_size (h : Heap) (H : Hp) : (hidT h H).objs.size = h.objs.size := PySem.W.hideAll_size _ _
theorem hidT_get {h : Heap} {H : Hp} {b : Addr} {o : Obj} (e : h.get? b = some o) (n : H b = none) : (hidT h H).get? b = some o :=
  PySem.W.hideAll_get _ e fun hm => by
    have q : (H b).isSome = true := (List.mem_filter.mp hm).2
    rw [n] at q; simp at q
theorem of_hidT {h : Heap} {H : Hp} {b : Addr} {o : Obj} (e : (hidT h H).get? b = some o) : h.get? b = some o ∧ H b = none := by
  have e' : h.get? b = some o := PySem.W.of_hideAll (trk h H) e
  refine ⟨e', ?_⟩
  cases q : H b with
  | none => rfl
  | some x =>
    have hm : b ∈ trk h H := List.mem_filter.mpr ⟨List.mem_range.mpr (Heap.lt_size e'), by simp [q]⟩
    have z : (hidT h H).get? b = none := PySem.W.hideAll_none (trk h H) hm
    rw [z] at e; cases e

end L2

namespace L2
open PySem PySem.Spec PyProof.Rows

structure Mod (K : PySem.W.Frag) (mg : Str → Option Value) (base : Heap) : Prop where
  kin : K.In base
  glob : base.Ns mainGlobals mg
  blt : ∃ mb, base.Ns builtinsNs mb ∧ ∀ x : Str, x ≠ "__name__" → mb x = bootBuiltins x
  nolimit : base.NoLimit

structure Cx where
  prog : Program
  w : World
  K : PySem.W.Frag
  mg : Str → Option Value
  base : Heap
  A : Around
  N : List Str
  s₀ : Shared
  H₀ : Hp
  env : Env
  outer : List Env
  stack : List Env
  ex : List Addr
  fn : Str → Bool
  calm : Bool
  pn : List (Addr × Obj)
  xe : Value → Shared → Prop
def frs (l : List Env) : List Addr := l.filterMap (·.frame)
abbrev Cx.fs (X : Cx) : List Addr := frs X.outer

def Vis (sc : Scope) (x : Str) : Prop := sc.names.lookup x = some .local ∨ sc.names.lookup x = some .cell ∨ sc.names.lookup x = some .free
def Loc (sc : Scope) (x : Str) : Prop := sc.names.lookup x = some .local ∨ sc.names.lookup x = some .cell
def Look (env : Env) (h : Heap) (m : Str → Option Value) (x : Str) (u : Value) : Prop :=
  (env.kindOf x = some .local ∧ m x = some u) ∨ ((env.kindOf x = some .cell ∨ env.kindOf x = some .free) ∧ ∃ c, env.cells.lookup x = some c ∧ h.IsCell c (some u))

structure Cx.Ok (X : Cx) : Prop where
  mod : Mod X.K X.mg X.base
  kind : X.env.scope.kind = .function
  glob : X.env.globals = mainGlobals
  blt : X.env.builtins = builtinsNs
  above : X.s₀.heap.objs.size ≤ X.env.locals
  inj : ∀ x y c, X.env.cells.lookup x = some c → X.env.cells.lookup y = some c → x = y
  has : ∀ x, (X.env.kindOf x = some .cell ∨ X.env.kindOf x = some .free) → ∃ c, X.env.cells.lookup x = some c
  cab : ∀ x c, X.fn x = true → X.env.cells.lookup x = some c → X.s₀.heap.objs.size ≤ c
  hd : X.calm = true → X.A.handled = none
  frames : X.A.frames = some X.stack
  stk : X.stack = X.outer ∨ (X.stack = X.env :: X.outer ∧ X.env.frame = some X.env.locals)
  exf : ∀ b ∈ X.ex, b ≠ X.env.locals ∧ ∀ x c, X.env.cells.lookup x = some c → c ≠ b
  bs : ∀ b o, X.base.get? b = some o → X.s₀.heap.get? b = some o ∧ X.H₀ b = none
  bsz : X.base.objs.size ≤ X.s₀.heap.objs.size
  noex : ∀ b o, X.base.get? b = some o → b ∉ X.ex
  exfs : ∀ b ∈ X.ex, b ∉ X.fs
  funs : X.s₀.heap.FunFrames X.base X.outer
  frf : ∀ b ∈ X.fs, X.H₀ b = none

structure Inv (X : Cx) (pins : List (Addr × Obj)) (σ : List (Option V)) (H : Hp) (s : Shared) : Prop where
  ok : X.Ok
  os : s.os = X.s₀.os
  bare : AllBare s.gens
  base : Un X.fs X.ex X.H₀ H X.s₀.heap s.heap
  loc : ∃ m, s.heap.Ns X.env.locals m ∧ ∀ (i : Nat) (x : Str) (v : V), X.N[i]? = some x → σ[i]? = some (some v) → Vis X.env.scope x → ∃ u, RelV v u ∧ Look X.env s.heap m x u
  cell : ∀ x c, X.env.cells.lookup x = some c → ∃ v, s.heap.IsCell c v
  free : H X.env.locals = none
  freeC : ∀ x c, X.env.cells.lookup x = some c → H c = none
  pin : ∀ p ∈ X.pn ++ pins, s.heap.get? p.1 = some p.2 ∧ H p.1 = none ∧ p.1 ≠ X.env.locals ∧ p.1 ∉ X.fs ∧ ∀ v, p.2.data ≠ .cell v
  hok : HOk X.prog X.w H s.heap
  len : σ.length = X.N.length

section
variable {X : Cx} {pins : List (Addr × Obj)} {σ : List (Option V)} {H H' : Hp} {s : Shared} {h' : Heap}

theorem Cx.Ok.nofr (ok : X.Ok) {b : Addr} {o : Obj} (e : X.base.get? b = some o) : b ∉ X.fs := fun hb => by
  have := (ok.funs.mem hb).1
  rw [e] at this; cases this
theorem Inv.bs (I : Inv X pins σ H s) : ∀ b o, X.base.get? b = some o → s.heap.get? b = some o ∧ H b = none := fun b o e =>
  ⟨I.base.keep b o (I.ok.bs b o e).1 (I.ok.bs b o e).2 (I.ok.nofr e) (I.ok.noex b o e), I.base.free b o (I.ok.bs b o e).1 (I.ok.bs b o e).2 (I.ok.noex b o e)⟩
theorem Inv.bk (I : Inv X pins σ H s) : ∀ b o, X.base.get? b = some o → s.heap.get? b = some o := fun b o e => (I.bs b o e).1
theorem Inv.mod (I : Inv X pins σ H s) : Mod X.K X.mg X.base := I.ok.mod
theorem Inv.kIn (I : Inv X pins σ H s) : X.K.In s.heap := I.ok.mod.kin.keeps I.bk
theorem Inv.lt (I : Inv X pins σ H s) : X.env.locals < s.heap.objs.size := let ⟨_, hn, _⟩ := I.loc; hn.lt
theorem Inv.sz (I : Inv X pins σ H s) : X.s₀.heap.objs.size ≤ s.heap.objs.size := Nat.le_trans I.ok.above (Nat.le_of_lt I.lt)
theorem Inv.nofs (I : Inv X pins σ H s) {a : Addr} (h : s.heap.objs.size ≤ a) : a ∉ X.fs := fun hb => by
  obtain ⟨_, o, ho, _⟩ := I.ok.funs.mem hb
  exact absurd (Nat.lt_of_lt_of_le (Heap.lt_size ho) (Nat.le_trans I.sz h)) (Nat.lt_irrefl _)
theorem Inv.cne (I : Inv X pins σ H s) : ∀ x c, X.env.cells.lookup x = some c → c ≠ X.env.locals := fun x c e z => by
  obtain ⟨v, o, ho, hd⟩ := I.cell x c e
  obtain ⟨m, ⟨o', es, ep, ho', hd', _⟩, _⟩ := I.loc
  rw [z, ho'] at ho; cases ho; rw [hd'] at hd; cases hd
theorem Inv.funs (I : Inv X pins σ H s) : s.heap.FunFrames X.base X.outer := by
  have all : ∀ (l : List Env), (∀ b ∈ frs l, b ∈ X.fs) → X.s₀.heap.FunFrames X.base l → s.heap.FunFrames X.base l := by
    intro l
    induction l with
    | nil => intro _ _; trivial
    | cons env r ih =>
      intro hs hl
      obtain ⟨hk, ⟨L, o, hf, hn, ho, hd⟩, hr⟩ := hl
      have hL : L ∈ X.fs := hs L (by unfold frs; rw [List.filterMap_cons, hf]; exact List.mem_cons_self)
      obtain ⟨sl, e⟩ := I.base.slot L o ho (I.ok.frf L hL) hL fun z => I.ok.exfs L z hL
      exact ⟨hk, ⟨L, _, hf, hn, e, hd⟩, ih (fun b hb => hs b (by unfold frs; rw [List.filterMap_cons, hf]; exact List.mem_cons_of_mem _ hb)) hr⟩
  exact all X.outer (fun _ hb => hb) I.ok.funs

theorem Inv.stack (I : Inv X pins σ H s) : s.heap.FunFrames X.base X.stack := by
  rcases I.ok.stk with e | ⟨e, hf⟩
  · rw [e]; exact I.funs
  · rw [e]
    obtain ⟨m, hn, _⟩ := I.loc
    refine .cons (by rw [I.ok.kind]; decide) hf hn ?_ I.funs
    exact Heap.get?_none_of_le (Nat.le_trans I.ok.bsz I.ok.above)
theorem Inv.stkSub (I : Inv X pins σ H s) : ∀ b ∈ frs X.stack, b ∈ X.env.locals :: X.fs := fun b hb => by
  rcases I.ok.stk with e | ⟨e, hf⟩
  · rw [e] at hb; exact List.mem_cons_of_mem _ hb
  · rw [e] at hb
    unfold frs at hb
    rw [List.filterMap_cons, hf] at hb
    exact hb
theorem Inv.stkFree (I : Inv X pins σ H s) : ∀ b ∈ frs X.stack, H b = none := fun b hb => by
  rcases List.mem_cons.mp (I.stkSub b hb) with e | hb
  · rw [e]; exact I.free
  · obtain ⟨_, o, ho, _⟩ := I.ok.funs.mem hb
    exact I.base.free b o ho (I.ok.frf b hb) fun z => I.ok.exfs b z hb

theorem Inv.step {g' : Array GenState} {t' : Nat} {d' : Drawn} {ch : List Addr} (I : Inv X pins σ H s)
    (hch : ∀ b ∈ ch, (b ∈ X.ex ∨ X.s₀.heap.objs.size ≤ b) ∧ b ≠ X.env.locals ∧ (∀ x c, X.env.cells.lookup x = some c → c ≠ b) ∧ ∀ p ∈ X.pn ++ pins, p.1 ≠ b)
    (keep : ∀ b o, b ≠ X.env.locals → b ∉ X.fs → b ∉ ch → s.heap.get? b = some o → H b = none → h'.get? b = some o)
    (slot : ∀ b o, b ≠ X.env.locals → b ∈ X.fs → b ∉ ch → s.heap.get? b = some o → H b = none → ∃ sl, h'.get? b = some { o with slots := sl }) (free : ∀ b o, b ∉ ch → s.heap.get? b = some o → H b = none → H' b = none)
    (there : ∀ b o, b ∉ ch → s.heap.get? b = some o → ∃ o', h'.get? b = some o')
    (tups : ∀ b xs, H b = some (.tup xs) → H' b = some (.tup xs)) (frzs : ∀ b o u, H b = some (.frz o u) → H' b = some (.frz o u)) (tbls : ∀ b ps, H b = some (.tbl ps) → ∃ more, H' b = some (.tbl (ps ++ more)))
    (ns : ∀ m, s.heap.Ns X.env.locals m → h'.Ns X.env.locals m) (hok : HOk X.prog X.w H' h') (hg : AllBare g') :
    Inv X pins σ H' { s with heap := h', gens := g', drawn := d', toks := t' } := by
  have neL : ∀ b o, X.s₀.heap.get? b = some o → b ≠ X.env.locals := fun b o e => Nat.ne_of_lt (Nat.lt_of_lt_of_le (Heap.lt_size e) I.ok.above)
  have neC : ∀ b o, X.s₀.heap.get? b = some o → b ∉ X.ex → b ∉ ch := fun b o e hx hb => by
    rcases (hch b hb).1 with z | z
    · exact hx z
    · exact absurd (Nat.lt_of_lt_of_le (Heap.lt_size e) z) (Nat.lt_irrefl _)
  have cellK : ∀ x c, X.env.cells.lookup x = some c → ∀ v, s.heap.IsCell c v → h'.IsCell c v := fun x c e v ⟨o, ho, hd⟩ => by
    have nch : c ∉ ch := fun z => (hch c z).2.2.1 x c e rfl
    by_cases hc : c ∈ X.fs
    · obtain ⟨sl, q⟩ := slot c o (I.cne x c e) hc nch ho (I.freeC x c e)
      exact ⟨_, q, hd⟩
    · exact ⟨o, keep c o (I.cne x c e) hc nch ho (I.freeC x c e), hd⟩
  refine ⟨I.ok, I.os, hg, ⟨fun b o e n hb hx => ?_, fun b o e n hb hx => ?_, fun b o e n hx => ?_, fun b o e hx => ?_, fun b xs e => tups b xs (I.base.tups b xs e), fun b o xs e => frzs b o xs (I.base.frzs b o xs e), fun b ps e => ?_⟩, ?_, fun x c e => ?_, ?_, fun x c e => ?_, fun p hp => ?_, hok, I.len⟩
  · exact keep b o (neL b o e) hb (neC b o e hx) (I.base.keep b o e n hb hx) (I.base.free b o e n hx)
  · obtain ⟨sl, e1⟩ := I.base.slot b o e n hb hx
    obtain ⟨sl', e2⟩ := slot b _ (neL b o e) hb (neC b o e hx) e1 (I.base.free b o e n hx)
    exact ⟨sl', e2⟩
  · obtain ⟨o', e1⟩ := I.base.there b o e hx
    exact free b o' (neC b o e hx) e1 (I.base.free b o e n hx)
  · obtain ⟨o', e1⟩ := I.base.there b o e hx
    exact there b o' (neC b o e hx) e1
  · obtain ⟨m1, e1⟩ := I.base.tbls b ps e
    obtain ⟨m2, e2⟩ := tbls b _ e1
    exact ⟨m1 ++ m2, by rw [e2, Array.append_assoc]⟩
  · obtain ⟨m, hn, hl⟩ := I.loc
    refine ⟨m, ns m hn, fun i x v e1 e2 e3 => ?_⟩
    obtain ⟨u, r, l⟩ := hl i x v e1 e2 e3
    refine ⟨u, r, ?_⟩
    rcases l with l | ⟨k, c, e, z⟩
    · exact .inl l
    · exact .inr ⟨k, c, e, cellK x c e _ z⟩
  · obtain ⟨v, z⟩ := I.cell x c e
    exact ⟨v, cellK x c e v z⟩
  · obtain ⟨m, ⟨o, _, _, ho, _⟩, _⟩ := I.loc
    exact free _ o (fun z => (hch _ z).2.1 rfl) ho I.free
  · obtain ⟨v, o, ho, hd⟩ := I.cell x c e
    exact free c o (fun z => (hch c z).2.2.1 x c e rfl) ho (I.freeC x c e)
  · obtain ⟨e, n, ne, nf, d⟩ := I.pin p hp
    have nch : p.1 ∉ ch := fun z => (hch p.1 z).2.2.2 p hp rfl
    exact ⟨keep p.1 p.2 ne nf nch e n, free p.1 p.2 nch e n, ne, nf, d⟩
theorem Inv.un {t' : Nat} (I : Inv X pins σ H s) (u : Un X.fs [] H H' s.heap h') (hok : HOk X.prog X.w H' h') : Inv X pins σ H' { s with heap := h', toks := t' } := by
  obtain ⟨m, ⟨o, es, ep, ho, r⟩, _⟩ := id I.loc
  obtain ⟨sl, hL⟩ := u.any ho I.free (by simp)
  exact I.step (g' := s.gens) (d' := s.drawn) (ch := []) (fun _ z => nomatch z) (fun b o _ hb _ e n => u.keep b o e n hb (by simp)) (fun b o _ hb _ e n => u.slot b o e n hb (by simp)) (fun b o _ e n => u.free b o e n (by simp)) (fun b o _ e => u.there b o e (by simp)) u.tups u.frzs u.tbls (fun m' hm => by
    obtain ⟨o', es', ep', ho', r'⟩ := hm
    rw [ho] at ho'; cases ho'
    exact ⟨_, es', ep', hL, r'⟩) hok I.bare
theorem Inv.call {g' : Array GenState} {t' : Nat} {d' : Drawn} {ch : List Addr} (I : Inv X pins σ H s) (u : Un (frs X.stack) ch H H' s.heap h') (hok : HOk X.prog X.w H' h') (hg : AllBare g')
    (hch : ∀ b ∈ ch, (b ∈ X.ex ∨ X.s₀.heap.objs.size ≤ b) ∧ b ≠ X.env.locals ∧ (∀ x c, X.env.cells.lookup x = some c → c ≠ b) ∧ ∀ p ∈ X.pn ++ pins, p.1 ≠ b) :
    Inv X pins σ H' { s with heap := h', gens := g', drawn := d', toks := t' } := by
  obtain ⟨m, ⟨o, es, ep, ho, r⟩, _⟩ := id I.loc
  obtain ⟨sl, hL⟩ := u.any ho I.free fun z => (hch _ z).2.1 rfl
  exact I.step (ch := ch) hch (fun b o hL hb hc e n => u.keep b o e n (fun z => (List.mem_cons.mp (I.stkSub b z)).elim hL hb) hc) (fun b o _ _ hc e n => u.any e n hc) (fun b o hc e n => u.free b o e n hc) (fun b o hc e => u.there b o e hc) u.tups u.frzs u.tbls (fun m' hm => by
    obtain ⟨o', es', ep', ho', r'⟩ := hm
    rw [ho] at ho'; cases ho'
    exact ⟨_, es', ep', hL, r'⟩) hok hg
theorem Inv.turned {t' : Nat} {it : Addr} (I : Inv X pins σ H s) (k : ∀ b o, b ≠ it → s.heap.get? b = some o → h'.get? b = some o) (hn : H it = none) (hL : it ≠ X.env.locals)
    (h1 : it ∈ X.ex ∨ X.s₀.heap.objs.size ≤ it) (h2 : ∀ x c, X.env.cells.lookup x = some c → c ≠ it) (h3 : ∀ p ∈ X.pn ++ pins, p.1 ≠ it) : Inv X pins σ H { s with heap := h', toks := t' } := by
  have nit : ∀ b u, H b = some u → b ≠ it := fun b u e z => by rw [z, hn] at e; cases e
  refine I.step (g' := s.gens) (d' := s.drawn) (ch := [it]) (fun b hb => ?_) (fun b o _ _ hc e _ => k b o (fun z => hc (by simp [z])) e) (fun b o _ _ hc e _ => ⟨o.slots, k b o (fun z => hc (by simp [z])) e⟩) (fun _ _ _ _ n => n)
    (fun b o hc e => ⟨o, k b o (fun z => hc (by simp [z])) e⟩) (fun _ _ e => e) (fun _ _ _ e => e) (fun b ps e => ⟨#[], by rw [e]; simp⟩) (fun m hm => ?_) (fun b u e => ?_) I.bare
  · have e : b = it := by simpa using hb
    subst e
    exact ⟨h1, hL, h2, h3⟩
  · obtain ⟨o, es, ep, ho, r⟩ := hm
    exact ⟨o, es, ep, k _ o (Ne.symm hL) ho, r⟩
  · refine (I.hok b u e).stay (fun c v hc q => k c v ?_ q) (fun _ q => q) fun _ _ q => q
    rcases hc with z | z
    · rw [z]; exact nit b u e
    · exact nit c _ z
theorem Inv.tok (I : Inv X pins σ H s) (t : Nat) : Inv X pins σ H { s with toks := t } := I.un (h' := s.heap) (t' := t) Un.refl I.hok
theorem Inv.kept {t' : Nat} (I : Inv X pins σ H s) (k : ∀ b u, s.heap.get? b = some u → h'.get? b = some u) : Inv X pins σ H { s with heap := h', toks := t' } := I.un (Un.kept k) (I.hok.kept k)
theorem Inv.laid {a : Addr} {o : HO} {t' : Nat} (I : Inv X pins σ H s) (k : ∀ b u, s.heap.get? b = some u → h'.get? b = some u) (hp : s.heap.objs.size ≤ a) (new : ObjOk X.prog X.w (upd H a o) h' a o) :
    Inv X pins σ (upd H a o) { s with heap := h', toks := t' } := I.un (Un.laid k hp (I.hok.fresh hp)) (I.hok.laid k hp new)
theorem Inv.write {x e : Addr} {o : HO} {t' : Nat} (I : Inv X pins σ H s) (mu : Mut (H x)) (he : e = x ∨ H e = some (.own x)) (k : ∀ b u, b ≠ e → s.heap.get? b = some u → h'.get? b = some u) (heo : ∃ u, h'.get? e = some u)
    (new : ObjOk X.prog X.w (upd H x o) h' x o) : Inv X pins σ (upd H x o) { s with heap := h', toks := t' } := I.un (Un.write mu he k heo) (I.hok.write mu he k heo new)
theorem Inv.weak {σ' : List (Option V)} (I : Inv X pins σ H s) (hl : σ'.length = σ.length) (w : ∀ (i : Nat) v, σ'[i]? = some (some v) → σ[i]? = some (some v)) : Inv X pins σ' H s :=
  ⟨I.ok, I.os, I.bare, I.base, let ⟨m, hn, hl'⟩ := I.loc; ⟨m, hn, fun i x v e1 e2 e3 => hl' i x v e1 (w i v e2) e3⟩, I.cell, I.free, I.freeC, I.pin, I.hok, hl.trans I.len⟩
theorem Inv.pins_of {pins' : List (Addr × Obj)} (I : Inv X pins σ H s) (h : ∀ p ∈ pins', s.heap.get? p.1 = some p.2 ∧ H p.1 = none ∧ p.1 ≠ X.env.locals ∧ p.1 ∉ X.fs ∧ ∀ v, p.2.data ≠ .cell v) : Inv X pins' σ H s :=
  ⟨I.ok, I.os, I.bare, I.base, I.loc, I.cell, I.free, I.freeC, fun p hp => (List.mem_append.mp hp).elim (fun z => I.pin p (List.mem_append_left _ z)) (h p), I.hok, I.len⟩

theorem nodup_ix {N : List Str} (hN : N.Nodup) {i j : Nat} {x : Str} (a : N[i]? = some x) (b : N[j]? = some x) : i = j := by
  obtain ⟨h1, e1⟩ := List.getElem?_eq_some_iff.mp a
  obtain ⟨h2, e2⟩ := List.getElem?_eq_some_iff.mp b
  exact (List.getElem_inj hN).mp (e1.trans e2.symm)

theorem store_ok2 {M : Model} {A : Around} {E : Value → Shared → Prop} {i : Nat} {x : Str} {v : V} {u : Value} {Q : Unit → Shared → Prop} (I : Inv X pins σ H s) (hN : X.N.Nodup) (hi : X.N[i]? = some x) (hx : Loc X.env.scope x) (r : RelV v u)
    (h : ∀ s', Inv X pins (σ.set i (some v)) H s' → (∃ a, Heap.SameBut a s.heap s'.heap ∧ (a = X.env.locals ∨ X.env.cells.lookup x = some a)) → Q () s') (hf : X.fn x = true ∨ X.env.scope.names.lookup x = some .local := by first | exact .inl rfl | exact .inr rfl | assumption) : wpAny M A (storeName X.env x u) Q E s := by
  obtain ⟨m, hn, hl⟩ := id I.loc
  have hcls : (X.env.scope.kind == .class || (X.env.scope.kind == .module && X.env.locals != X.env.globals)) = false := by rw [I.ok.kind]; rfl
  have hiσ : i < σ.length := by rw [I.len]; exact (List.getElem?_eq_some_iff.mp hi).1
  have cne := I.cne
  have tracked : ∀ {a : Addr} {h' : Heap}, (∃ o, s.heap.get? a = some o ∧ H a = none) → Heap.SameBut a s.heap h' → HOk X.prog X.w H h' := fun {a h'} ha hs b ob e => by
    obtain ⟨_, _, hfree⟩ := ha
    refine (I.hok b ob e).stay (fun c w' hc q => (hs.2 c ?_).trans q) (fun _ q => q) fun _ _ q => q
    rintro rfl
    rcases hc with rfl | hc
    · rw [hfree] at e; cases e
    · rw [hfree] at hc; cases hc
  rcases hx with hk | hk
  · refine wpAny_storeName_local hk hn (fun h' hn' hs => ?_) hcls
    obtain ⟨oL, _, _, hoL, _⟩ := id hn
    refine h _ ⟨I.ok, I.os, I.bare, ⟨fun b o e n hb hx => ?_, fun b o e n hb hx => ?_, I.base.free, fun b o e hx => ?_, I.base.tups, I.base.frzs, I.base.tbls⟩, ⟨_, hn', fun j y v' e1 e2 e3 => ?_⟩, fun y c e => ?_, I.free, I.freeC, fun p hp => ?_, tracked ⟨oL, hoL, I.free⟩ hs, by simpa using I.len⟩ ⟨_, hs, .inl rfl⟩
    · exact (hs.2 b (Nat.ne_of_lt (Nat.lt_of_lt_of_le (Heap.lt_size e) I.ok.above))).trans (I.base.keep b o e n hb hx)
    · obtain ⟨sl, e1⟩ := I.base.slot b o e n hb hx
      exact ⟨sl, (hs.2 b (Nat.ne_of_lt (Nat.lt_of_lt_of_le (Heap.lt_size e) I.ok.above))).trans e1⟩
    · obtain ⟨o', e1⟩ := I.base.there b o e hx
      exact ⟨o', (hs.2 b (Nat.ne_of_lt (Nat.lt_of_lt_of_le (Heap.lt_size e) I.ok.above))).trans e1⟩
    · by_cases hj : j = i
      · subst hj
        rw [hi] at e1; cases e1
        rw [List.getElem?_set_self hiσ] at e2
        cases e2
        exact ⟨u, r, .inl ⟨hk, by simp⟩⟩
      · rw [List.getElem?_set_ne (Ne.symm hj)] at e2
        obtain ⟨u', r', q⟩ := hl j y v' e1 e2 e3
        refine ⟨u', r', ?_⟩
        rcases q with ⟨k, e⟩ | ⟨k, c, e, z⟩
        · refine .inl ⟨k, ?_⟩
          have : y ≠ x := fun e => hj (nodup_ix hN e1 (e ▸ hi))
          simp [this, e]
        · exact .inr ⟨k, c, e, z.sameBut hs (cne y c e)⟩
    · obtain ⟨w', z⟩ := I.cell y c e
      exact ⟨w', z.sameBut hs (cne y c e)⟩
    · obtain ⟨e, n, ne, nf, d⟩ := I.pin p hp
      exact ⟨(hs.2 p.1 ne).trans e, n, ne, nf, d⟩
  · have hfn : X.fn x = true := by
      rcases hf with z | z
      · exact z
      · rw [z] at hk; cases hk
    obtain ⟨c, hc⟩ := I.ok.has x (.inl hk)
    obtain ⟨w', z⟩ := I.cell x c hc
    refine wpAny_storeName_cell I.ok.kind hk hc z (fun h' hc' hs => ?_)
    obtain ⟨oc, hoc, hocd⟩ := id z
    refine h { s with heap := h' } ⟨I.ok, I.os, I.bare, ⟨fun b o e n hb hx => ?_, fun b o e n hb hx => ?_, I.base.free, fun b o e hx => ?_, I.base.tups, I.base.frzs, I.base.tbls⟩, ⟨m, hn.sameBut hs (Ne.symm (cne x c hc)), fun j y v' e1 e2 e3 => ?_⟩, fun y c' e => ?_, I.free, I.freeC, fun p hp => ?_, tracked ⟨oc, hoc, I.freeC x c hc⟩ hs, by simpa using I.len⟩ ⟨c, hs, .inr hc⟩
    · exact (hs.2 b (Nat.ne_of_lt (Nat.lt_of_lt_of_le (Heap.lt_size e) (I.ok.cab x c hfn hc)))).trans (I.base.keep b o e n hb hx)
    · obtain ⟨sl, e1⟩ := I.base.slot b o e n hb hx
      exact ⟨sl, (hs.2 b (Nat.ne_of_lt (Nat.lt_of_lt_of_le (Heap.lt_size e) (I.ok.cab x c hfn hc)))).trans e1⟩
    · obtain ⟨o', e1⟩ := I.base.there b o e hx
      exact ⟨o', (hs.2 b (Nat.ne_of_lt (Nat.lt_of_lt_of_le (Heap.lt_size e) (I.ok.cab x c hfn hc)))).trans e1⟩
    · by_cases hj : j = i
      · subst hj
        rw [hi] at e1; cases e1
        rw [List.getElem?_set_self hiσ] at e2
        cases e2
        exact ⟨u, r, .inr ⟨.inl hk, c, hc, hc'⟩⟩
      · rw [List.getElem?_set_ne (Ne.symm hj)] at e2
        obtain ⟨u', r', q⟩ := hl j y v' e1 e2 e3
        refine ⟨u', r', ?_⟩
        rcases q with q | ⟨k, c', e, z'⟩
        · exact .inl q
        · refine .inr ⟨k, c', e, z'.sameBut hs ?_⟩
          rintro rfl
          exact hj (nodup_ix hN e1 (I.ok.inj _ _ _ e hc ▸ hi))
    · by_cases hcc : c' = c
      · subst hcc; exact ⟨_, hc'⟩
      · obtain ⟨w2, z2⟩ := I.cell y c' e
        exact ⟨w2, z2.sameBut hs hcc⟩
    · obtain ⟨e, n, ne, nf, d⟩ := I.pin p hp
      refine ⟨(hs.2 p.1 ?_).trans e, n, ne, nf, d⟩
      intro q
      rw [q, hoc] at e
      have q' : oc = p.2 := Option.some.inj e
      exact d w' (by rw [← q']; exact hocd)
theorem store_ok {M : Model} {A : Around} {E : Value → Shared → Prop} {i : Nat} {x : Str} {v : V} {u : Value} {Q : Unit → Shared → Prop} (I : Inv X pins σ H s) (hN : X.N.Nodup) (hi : X.N[i]? = some x) (hx : Loc X.env.scope x) (r : RelV v u)
    (h : ∀ s', Inv X pins (σ.set i (some v)) H s' → Q () s') (hf : X.fn x = true ∨ X.env.scope.names.lookup x = some .local := by first | exact .inl rfl | exact .inr rfl | assumption) : wpAny M A (storeName X.env x u) Q E s :=
  store_ok2 I hN hi hx r (fun s' I' _ => h s' I') hf
theorem Inv.call' {s' : Shared} {ch : List Addr} (I : Inv X pins σ H s) (ho : s'.os = s.os) (u : Un (frs X.stack) ch H H' s.heap s'.heap) (hok : HOk X.prog X.w H' s'.heap) (hg : AllBare s'.gens)
    (hch : ∀ b ∈ ch, (b ∈ X.ex ∨ X.s₀.heap.objs.size ≤ b) ∧ b ≠ X.env.locals ∧ (∀ x c, X.env.cells.lookup x = some c → c ≠ b) ∧ ∀ p ∈ X.pn ++ pins, p.1 ≠ b) : Inv X pins σ H' s' := by
  obtain ⟨h', g', d', t', o'⟩ := s'
  have e : o' = s.os := ho
  subst e
  exact I.call (g' := g') (t' := t') (d' := d') u hok hg hch
end

abbrev XK := Value → Option Addr → Hp → Prop
abbrev St := List (Option V)
abbrev VK := V → Hp → Prop
abbrev TE := St → Hp → VK → Prop
abbrev TT := St → Hp → (Bool → Hp → Prop) → Prop
abbrev TA := St → Hp → (List V → Hp → Prop) → Prop
structure Ends where
  nx : St → Hp → Prop
  rt : VK
  bk : St → Hp → Prop := fun _ _ => False
  ct : St → Hp → Prop := fun _ _ => False
abbrev TS := Ends → St → Hp → Prop

def EP (X : Cx) (pins : List (Addr × Obj)) (σ : St) (Q : VK) (u : Value) (s' : Shared) : Prop := ∃ v H', Inv X pins σ H' s' ∧ RelV v u ∧ Q v H'
def TP (X : Cx) (pins : List (Addr × Obj)) (σ : St) (Q : Bool → Hp → Prop) (b : Bool) (s' : Shared) : Prop := ∃ H', Inv X pins σ H' s' ∧ Q b H'
def AP (X : Cx) (pins : List (Addr × Obj)) (σ : St) (Q : List V → Hp → Prop) (us : List Value) (s' : Shared) : Prop := ∃ vs H', Inv X pins σ H' s' ∧ Vals vs us ∧ Q vs H'
def SP (X : Cx) (pins : List (Addr × Obj)) (D : Ends) (f : Flow) (s' : Shared) : Prop :=
  match f with
  | .next => ∃ σ' H', Inv X pins σ' H' s' ∧ D.nx σ' H'
  | .brk => ∃ σ' H', Inv X pins σ' H' s' ∧ D.bk σ' H'
  | .cont => ∃ σ' H', Inv X pins σ' H' s' ∧ D.ct σ' H'
  | .ret u => ∃ v σ' H', Inv X pins σ' H' s' ∧ RelV v u ∧ D.rt v H'

def PE (X : Cx) (e : Expr) (t : TE) : Prop :=
  ∀ (pins : List (Addr × Obj)) (s : Shared) (σ : St) (H : Hp) (Q : VK), Inv X pins σ H s → t σ H Q → wpAny (model X.prog X.w) X.A (eval e X.env) (EP X pins σ Q) X.xe s
def PT (X : Cx) (e : Expr) (t : TT) : Prop :=
  ∀ (pins : List (Addr × Obj)) (s : Shared) (σ : St) (H : Hp) (Q : Bool → Hp → Prop), Inv X pins σ H s → t σ H Q → wpAny (model X.prog X.w) X.A (isTrue e X.env (eval e X.env)) (TP X pins σ Q) X.xe s
def PW (X : Cx) (e : Expr) (t : TT) : Prop :=
  ∀ (whole : Sem Value) (pins : List (Addr × Obj)) (s : Shared) (σ : St) (H : Hp) (Q : Bool → Hp → Prop), Inv X pins σ H s → t σ H Q → wpAny (model X.prog X.w) X.A (isTrue e X.env whole) (TP X pins σ Q) X.xe s
theorem PW.pt {X : Cx} {e : Expr} {t : TT} (h : PW X e t) : PT X e t := h _
def PA (X : Cx) (es : List Expr) (t : TA) : Prop :=
  ∀ (pos : Pos) (pins : List (Addr × Obj)) (s : Shared) (σ : St) (H : Hp) (Q : List V → Hp → Prop), Inv X pins σ H s → t σ H Q → wpAny (model X.prog X.w) X.A (spliced (backTo pos (starEach es X.env))) (AP X pins σ Q) X.xe s
def PS (X : Cx) (st : Stmt) (t : TS) : Prop :=
  ∀ (pins : List (Addr × Obj)) (s : Shared) (σ : St) (H : Hp) (D : Ends), Inv X pins σ H s → t D σ H → wpAny (model X.prog X.w) X.A (exec st X.env) (SP X pins D) X.xe s
def PSs (X : Cx) (st : List Stmt) (t : TS) : Prop :=
  ∀ (pins : List (Addr × Obj)) (s : Shared) (σ : St) (H : Hp) (D : Ends), Inv X pins σ H s → t D σ H → wpAny (model X.prog X.w) X.A (execs st X.env) (SP X pins D) X.xe s
theorem thn {α : Type} {t : Sem α} {Q Q' : α → Shared → Prop} {M : Model} {A : Around} {E : Value → Shared → Prop} {s : Shared} (h : wpAny M A t Q E s) (hQ : ∀ a s, Q a s → Q' a s) : wpAny M A t Q' E s := wpAny_mono h hQ fun _ _ x => x
end L2

namespace L2
open PySem PySem.Spec PyProof.Rows
section
variable {X : Cx}

def tVar (i : Nat) : TE := fun σ H Q => ∃ v, σ[i]? = some (some v) ∧ Q v H
def tC (v : V) : TE := fun _ H Q => Q v H
theorem pe_var {i : Nat} {x : Str} {pos : Pos} (hN : X.N[i]? = some x) (hv : Vis X.env.scope x) (hd : (x == ("__debug__" : Str)) = false := by decide) (hcd : (x == ("__classdict__" : Str)) = false := by decide) : PE X (.Name x pos) (tVar i) := by
  intro pins s σ H Q I h
  obtain ⟨v, e, h⟩ := h
  obtain ⟨m, hn, hl⟩ := I.loc
  obtain ⟨u, r, l⟩ := hl i x v hN e hv
  have fin : EP X pins σ Q u s := ⟨v, H, I, r, h⟩
  rcases l with ⟨hk, hm⟩ | ⟨hk, c, hc, hcell⟩
  · exact wpAny_Name (wpAny_loadName_local I.ok.kind hk hn hm fin) hd
  · rcases hk with hk | hk
    · exact wpAny_Name (wpAny_loadName_cell I.ok.kind hk hc hcell fin) hd
    · exact wpAny_Name (wpAny_loadName_free I.ok.kind hk hc hcell fin hcd) hd
theorem pe_int {i j pos} : PE X (.Constant (.int i) j pos) (tC (.int i)) := fun _ _ _ H _ I h => wpAny_Constant_int ⟨.int i, H, I.tok _, ⟨_, rfl⟩, h⟩
theorem pe_bl {b j pos} : PE X (.Constant (.bool b) j pos) (tC (.bl b)) := fun _ _ _ H _ I h => Constant_bool ⟨.bl b, H, I, rfl, h⟩
theorem pe_str {x j pos} : PE X (.Constant (.str x) j pos) (tC (.str x)) := fun _ _ _ H _ I h => Calls.Constant_str ⟨.str x, H, I.tok _, ⟨_, rfl⟩, h⟩

def Gl (X : Cx) (x : Str) : Prop := X.env.kindOf x = some .globalImplicit
theorem ld_glob {E : Value → Shared → Prop} {pins : List (Addr × Obj)} {s : Shared} {σ : St} {H : Hp} {x : Str} {u : Value} {pos : Pos} {Q : Value → Shared → Prop} (I : Inv X pins σ H s) (hg : Gl X x) (hm : X.mg x = some u) (h : Q u s)
    (hd : (x == ("__debug__" : Str)) = false := by decide) : wpAny (model X.prog X.w) X.A (eval (.Name x pos) X.env) Q E s :=
  Calls.Name_function_global I.ok.kind hg (Calls.loadGlobal_global (by rw [I.ok.glob]; exact I.mod.glob.keeps I.bk) hm h) hd
theorem ld_blt {E : Value → Shared → Prop} {pins : List (Addr × Obj)} {s : Shared} {σ : St} {H : Hp} {x : Str} {u : Value} {pos : Pos} {Q : Value → Shared → Prop} (I : Inv X pins σ H s) (hg : Gl X x) (hm : X.mg x = none) (hv : bootBuiltins x = some u) (h : Q u s)
    (hn : x ≠ "__name__" := by decide) (hd : (x == ("__debug__" : Str)) = false := by decide) : wpAny (model X.prog X.w) X.A (eval (.Name x pos) X.env) Q E s := by
  obtain ⟨mb, h1, h2⟩ := I.mod.blt
  exact Calls.Name_function_global I.ok.kind hg (Calls.loadGlobal_builtin (by rw [I.ok.glob]; exact I.mod.glob.keeps I.bk) hm (by rw [I.ok.blt]; exact h1.keeps I.bk) ((h2 x hn).trans hv) h) hd
variable {a b : Expr} {ta tb : TE} {pos : Pos}
def tB (t : TE) : TT := fun σ H Q => t σ H fun x H1 => ∃ c, x = .bl c ∧ Q c H1
theorem pt_val {e : Expr} {t : TE} (h : PE X e t) (he : ∀ whole, isTrue e X.env whole = (do let v ← whole; standAt e.pos; holding [v] (truthy v)) := by intro _; rfl) : PT X e (tB t) := by
  intro pins s σ H Q I hw
  refine isTrue_plain (thn (h pins s σ H _ I hw) fun v s1 ⟨x, H1, I1, r1, q1⟩ => ?_) (he _)
  obtain ⟨d, rfl, q⟩ := q1
  cases r1
  exact wpAny_truthy_bool ⟨H1, I1, q⟩

variable {tA tB' : TT} {rest : List Expr}
def tAnd (t u : TT) : TT := fun σ H Q => t σ H fun c H1 => if c = true then u σ H1 Q else Q false H1
def tOr (t u : TT) : TT := fun σ H Q => t σ H fun c H1 => if c = true then Q true H1 else u σ H1 Q
def tNot (t : TT) : TT := fun σ H Q => t σ H fun c H1 => Q (!c) H1
theorem pw_and1 (ha : PT X a tA) : PW X (.BoolOp .And [a] pos) tA := by
  intro wh pins s σ H Q I h
  refine isTrue_and (thn (ha pins s σ H Q I h) fun c s1 e => ?_)
  cases c with
  | true => exact isTrue_and_nil e
  | false => exact e
theorem pw_or1 (ha : PT X a tA) : PW X (.BoolOp .Or [a] pos) tA := by
  intro wh pins s σ H Q I h
  refine isTrue_or (thn (ha pins s σ H Q I h) fun c s1 e => ?_)
  cases c with
  | false => exact isTrue_or_nil e
  | true => exact e
theorem pw_and (ha : PT X a tA) (hb : PW X (.BoolOp .And (b :: rest) pos) tB') : PW X (.BoolOp .And (a :: b :: rest) pos) (tAnd tA tB') := by
  intro wh pins s σ H Q I h
  refine isTrue_and (thn (ha pins s σ H _ I h) fun c s1 ⟨H1, I1, q1⟩ => ?_)
  cases c with
  | true => exact hb wh pins s1 σ H1 Q I1 q1
  | false => exact ⟨H1, I1, q1⟩
theorem pw_or (ha : PT X a tA) (hb : PW X (.BoolOp .Or (b :: rest) pos) tB') : PW X (.BoolOp .Or (a :: b :: rest) pos) (tOr tA tB') := by
  intro wh pins s σ H Q I h
  refine isTrue_or (thn (ha pins s σ H _ I h) fun c s1 ⟨H1, I1, q1⟩ => ?_)
  cases c with
  | true => exact ⟨H1, I1, q1⟩
  | false => exact hb wh pins s1 σ H1 Q I1 q1
theorem pt_not (ha : PT X a tA) : PT X (.UnaryOp .Not a pos) (tNot tA) := by
  intro pins s σ H Q I h
  exact isTrue_not (ha pins s σ H (fun c H1 => Q (!c) H1) I h)
def tAndV (ta tb : TE) : TE := fun σ H Q => ta σ H fun x H1 => ∃ c, x = .bl c ∧ if c = true then tb σ H1 Q else Q (.bl false) H1
theorem pe_one {op} {t : TE} (h : PE X a t) : PE X (.BoolOp op [a] pos) t := fun pins s σ H Q I hw => BoolOp_one (h pins s σ H Q I hw)
theorem pe_and (ha : PE X a ta) (hb : PE X (.BoolOp .And (b :: rest) pos) tb) : PE X (.BoolOp .And (a :: b :: rest) pos) (tAndV ta tb) := by
  intro pins s σ H Q I h
  refine BoolOp_and (thn (ha pins s σ H _ I h) fun v s1 ⟨x, H1, I1, r1, q1⟩ => ?_)
  obtain ⟨c, rfl, q1⟩ := q1
  cases r1
  refine wpAny_truthy_bool ?_
  cases c with
  | true => exact hb pins s1 σ H1 Q I1 q1
  | false => exact ⟨.bl false, H1, I1, rfl, q1⟩
def tIf (t : TT) (ta tb : TE) : TE := fun σ H Q => t σ H fun c H1 => if c = true then ta σ H1 Q else tb σ H1 Q
theorem pe_ifExp {c : Expr} (hc : PT X c tA) (ha : PE X a ta) (hb : PE X b tb) : PE X (.IfExp c a b pos) (tIf tA ta tb) := by
  intro pins s σ H Q I h
  refine wpAny_IfExp (thn (hc pins s σ H _ I h) fun d s1 ⟨H1, I1, q1⟩ => ?_)
  cases d with
  | true => exact ha pins s1 σ H1 Q I1 q1
  | false => exact hb pins s1 σ H1 Q I1 q1
end
end L2

namespace L2
open PySem PySem.Spec PyProof.Rows

def SqL (K : PySem.W.Frag) (H : Hp) (a : Addr) (xs : List V) : Prop :=
  Rd H a (.lst xs) ∨
    ∃ (o : Obj) (its : Array Value) (n : Nat), K.lookup a = some o ∧ o.cls = .type "list" ∧ o.dict = none ∧ o.data = .seq its n ∧ its.size ≤ sizeLine ∧ Vals xs its.toList
def SqT (K : PySem.W.Frag) (H : Hp) (a : Addr) (xs : List V) : Prop :=
  Rd H a (.tup xs) ∨
    ∃ (o : Obj) (its : Array Value) (n : Nat), K.lookup a = some o ∧ o.cls = .type "tuple" ∧ o.data = .seq its n ∧ its.size ≤ sizeLine ∧ Vals xs its.toList
def absV : Value → Option V
  | .none => some .non
  | .bool b => some (.bl b)
  | .int i _ => some (.int i)
  | .str x _ => some (.str x)
  | .bytes b _ => some (.byt b)
  | .float b _ => some (.flt b)
  | .ref a => some (.ref a)
  | .type n => some (.ty n)
  | _ => none
theorem RelV.abs {x : V} {u : Value} (r : RelV x u) : absV u = some x := by
  cases x with
  | non => cases r; rfl
  | bl _ => cases r; rfl
  | int _ => obtain ⟨t, rfl⟩ := r; rfl
  | str _ => obtain ⟨t, rfl⟩ := r; rfl
  | byt _ => obtain ⟨t, rfl⟩ := r; rfl
  | flt _ => obtain ⟨t, rfl⟩ := r; rfl
  | ref _ => cases r; rfl
  | ty _ => cases r; rfl
theorem RelV.inj {x y : V} {u : Value} (r : RelV x u) (q : RelV y u) : x = y := Option.some.inj (r.abs.symm.trans q.abs)
theorem Vals.inj : ∀ {xs ys : List V} {us : List Value}, Vals xs us → Vals ys us → xs = ys
  | _, _, _, .nil, .nil => rfl
  | _, _, _, .cons r t, .cons r' t' => by rw [r.inj r', Vals.inj t t']
section
variable {X : Cx} {pins : List (Addr × Obj)} {σ : St} {H : Hp} {s : Shared} {a : Addr} {xs ys : List V}
theorem SqL.of {K : PySem.W.Frag} (h : H a = some (.lst xs)) : SqL K H a xs := .inl (.inl h)
theorem SqT.of {K : PySem.W.Frag} (h : H a = some (.tup xs)) : SqT K H a xs := .inl (.inl h)
theorem Inv.list (I : Inv X pins σ H s) (h : SqL X.K H a xs) : ∃ its : List Value, Vals xs its ∧ PlainL s.heap a its.toArray ∧ xs.length ≤ sizeLine := by
  rcases h with h | ⟨o, its, n, hk, hc, hd, hs, hz, r⟩
  · obtain ⟨z, its, n, r, e⟩ := h.ok I.hok
    exact ⟨its, r, ⟨_, n, e, rfl, rfl, rfl⟩, z⟩
  · refine ⟨its.toList, r, ⟨o, n, I.kIn a o hk, hc, hd, by simpa using hs⟩, ?_⟩
    have e := r.length
    simp only [Array.length_toList] at e
    (first | lia | omega)
theorem Inv.tuple (I : Inv X pins σ H s) (h : SqT X.K H a xs) : ∃ its : List Value, Vals xs its ∧ IsTup s.heap a its.toArray ∧ xs.length ≤ sizeLine := by
  rcases h with h | ⟨o, its, n, hk, hc, hs, hz, r⟩
  · obtain ⟨z, its, r, p⟩ := h.ok I.hok
    exact ⟨its, r, p, z⟩
  · refine ⟨its.toList, r, ⟨o, I.kIn a o hk, hc, n, by simpa using hs⟩, ?_⟩
    have e := r.length
    simp only [Array.length_toList] at e
    (first | lia | omega)
theorem Inv.list_inj (I : Inv X pins σ H s) (h : SqL X.K H a xs) (h' : SqL X.K H a ys) : xs = ys := by
  obtain ⟨its, r, ⟨o, n, e, _, _, d⟩, _⟩ := I.list h
  obtain ⟨its', r', ⟨o', n', e', _, _, d'⟩, _⟩ := I.list h'
  rw [e] at e'; cases e'
  rw [d] at d'
  injection d' with d1 _
  have : its = its' := by simpa using congrArg Array.toList d1
  subst this
  exact r.inj r'
theorem Inv.tuple_inj (I : Inv X pins σ H s) (h : SqT X.K H a xs) (h' : SqT X.K H a ys) : xs = ys := by
  obtain ⟨its, r, ⟨o, e, _, n, d⟩, _⟩ := I.tuple h
  obtain ⟨its', r', ⟨o', e', _, n', d'⟩, _⟩ := I.tuple h'
  rw [e] at e'; cases e'
  rw [d] at d'
  injection d' with d1 _
  have : its = its' := by simpa using congrArg Array.toList d1
  subst this
  exact r.inj r'
end

abbrev Cx.wish (X : Cx) (E : Value → Shared → Prop) : Cx := { X with xe := E }
abbrev Cx.nox (X : Cx) : Cx := X.wish fun _ _ => False
theorem Cx.Ok.wish {X : Cx} (ok : X.Ok) (E : Value → Shared → Prop) : (X.wish E).Ok :=
  ⟨ok.mod, ok.kind, ok.glob, ok.blt, ok.above, ok.inj, ok.has, ok.cab, ok.hd, ok.frames, ok.stk, ok.exf, ok.bs, ok.bsz, ok.noex, ok.exfs, ok.funs, ok.frf⟩
theorem Cx.Ok.unwish {X : Cx} {E : Value → Shared → Prop} (ok : (X.wish E).Ok) : X.Ok :=
  ⟨ok.mod, ok.kind, ok.glob, ok.blt, ok.above, ok.inj, ok.has, ok.cab, ok.hd, ok.frames, ok.stk, ok.exf, ok.bs, ok.bsz, ok.noex, ok.exfs, ok.funs, ok.frf⟩
section
variable {X : Cx} {pins : List (Addr × Obj)} {σ : St} {H : Hp} {s : Shared} {E : Value → Shared → Prop}
theorem Inv.wish (I : Inv X pins σ H s) (E : Value → Shared → Prop) : Inv (X.wish E) pins σ H s := ⟨I.ok.wish E, I.os, I.bare, I.base, I.loc, I.cell, I.free, I.freeC, I.pin, I.hok, I.len⟩
theorem Inv.unwish (I : Inv (X.wish E) pins σ H s) : Inv X pins σ H s := ⟨I.ok.unwish, I.os, I.bare, I.base, I.loc, I.cell, I.free, I.freeC, I.pin, I.hok, I.len⟩
theorem SP.unwish {D : Ends} {f : Flow} {s' : Shared} (h : SP (X.wish E) pins D f s') : SP X pins D f s' := by
  cases f with
  | next => obtain ⟨σ', H', I, q⟩ := h; exact ⟨σ', H', I.unwish, q⟩
  | brk => obtain ⟨σ', H', I, q⟩ := h; exact ⟨σ', H', I.unwish, q⟩
  | cont => obtain ⟨σ', H', I, q⟩ := h; exact ⟨σ', H', I.unwish, q⟩
  | ret u => obtain ⟨v, σ', H', I, r, q⟩ := h; exact ⟨v, σ', H', I.unwish, r, q⟩
theorem PSs.nox {st : List Stmt} {t : TS} (h : PSs X.nox st t) : PSs X st t := fun pins s σ H D I hw =>
  wpAny_mono (h pins s σ H D (I.wish _) hw) (fun _ _ q => q.unwish) fun _ _ z => False.elim z
end

section
variable {X : Cx} {st : Stmt} {rest : List Stmt} {t u : TS} {e : Expr} {te : TE} {pos : Pos}
def tNext : TS := fun D σ H => D.nx σ H
def Ends.on (D : Ends) (u : TS) : Ends := { D with nx := u D }
def tSeq (t u : TS) : TS := fun D σ H => t (D.on u) σ H
theorem pss_nil : PSs X [] tNext := fun _ _ σ H _ I h => wpAny_execs_nil ⟨σ, H, I, h⟩
theorem pss_cons (h1 : PS X st t) (h2 : PSs X rest u) : PSs X (st :: rest) (tSeq t u) := by
  intro pins s σ H D I h
  refine wpAny_execs_cons (thn (h1 pins s σ H { D with nx := u D } I h) fun f s1 q => ?_)
  cases f with
  | next =>
    obtain ⟨σ', H', I', q⟩ := q
    exact h2 pins s1 σ' H' D I' q
  | ret v => exact q
  | brk => exact q
  | cont => exact q
theorem pss_one (h1 : PS X st t) : PSs X [st] t := by
  intro pins s σ H D I h
  refine wpAny_execs_cons (thn (h1 pins s σ H D I h) fun f s1 q => ?_)
  cases f with
  | next => exact wpAny_execs_nil q
  | ret v => exact q
  | brk => exact q
  | cont => exact q
theorem Inv.quiet {pins : List (Addr × Obj)} {σ : St} {H : Hp} {s : Shared} (I : Inv X pins σ H s) : interactive X.env = false := by simp [interactive, I.ok.kind]
def tDrop (te : TE) : TS := fun D σ H => te σ H fun _ H1 => D.nx σ H1
theorem ps_expr (he : PE X e te) (hs : swapsWith e none pos.line X.env = pure false := by rfl) : PS X (.Expr e pos) (tDrop te) := by
  intro pins s σ H D I h
  exact wpAny_Expr_any (thn (he pins s σ H _ I h) fun v s1 ⟨x, H1, I1, r1, q1⟩ => ⟨σ, H1, I1, q1⟩) I.quiet hs
def tRet (te : TE) : TS := fun D σ H => te σ H D.rt
theorem ps_ret (he : PE X e te) : PS X (.Return (some e) pos) (tRet te) := by
  intro pins s σ H D I h
  exact wpAny_Return_some (thn (he pins s σ H _ I h) fun v s1 ⟨x, H1, I1, r1, q1⟩ => ⟨x, σ, H1, I1, r1, q1⟩)
def tIfS (c : TT) (t u : TS) : TS := fun D σ H => c σ H fun b H1 => if b = true then t D σ H1 else u D σ H1
theorem ps_if {c : Expr} {a b : List Stmt} {tc : TT} (hc : PT X c tc) (ha : PSs X a t) (hb : PSs X b u) : PS X (.If c a b pos) (tIfS tc t u) := by
  intro pins s σ H D I h
  refine wpAny_If (thn (hc pins s σ H _ I h) fun d s1 ⟨H1, I1, q1⟩ => ?_)
  cases d with
  | true => exact ha pins s1 σ H1 D I1 q1
  | false => exact hb pins s1 σ H1 D I1 q1
def tNever : TS := fun _ _ _ => False
theorem pss_never {sts : List Stmt} : PSs X sts tNever := fun _ _ _ _ _ _ h => h.elim
end

abbrev TG := V → St → Hp → (St → Hp → Prop) → Prop
abbrev TGs := List V → St → Hp → (St → Hp → Prop) → Prop
def PG (X : Cx) (target : Expr) (t : TG) : Prop :=
  ∀ (pins : List (Addr × Obj)) (s : Shared) (σ : St) (H : Hp) (v : V) (u : Value) (Q : St → Hp → Prop), Inv X pins σ H s → RelV v u → t v σ H Q →
    wpAny (model X.prog X.w) X.A (assign target X.env u) (fun _ s' => ∃ σ' H', Inv X pins σ' H' s' ∧ Q σ' H') X.xe s
def PGs (X : Cx) (ts : List Expr) (t : TGs) : Prop :=
  ∀ (pins : List (Addr × Obj)) (s : Shared) (σ : St) (H : Hp) (vs : List V) (us : List Value) (Q : St → Hp → Prop), Inv X pins σ H s → Vals vs us → t vs σ H Q →
    wpAny (model X.prog X.w) X.A (assignInOrder ((assignEach ts X.env).map (·.2)) us) (fun _ s' => ∃ σ' H', Inv X pins σ' H' s' ∧ Q σ' H') X.xe s
abbrev TSet := V → V → V → Hp → (Hp → Prop) → Prop
def PSet (X : Cx) (t : TSet) : Prop :=
  ∀ (pins : List (Addr × Obj)) (s : Shared) (σ : St) (H : Hp) (o i v : V) (ov iv u : Value) (Q : Hp → Prop), Inv X pins σ H s → RelV o ov → RelV i iv → RelV v u → t o i v H Q →
    wpAny (model X.prog X.w) X.A (setItem ov iv u) (fun _ s' => ∃ H', Inv X pins σ H' s' ∧ Q H') X.xe s
abbrev TIp := V → V → Hp → VK → Prop
def PIp (X : Cx) (op : Operator) (t : TIp) : Prop :=
  ∀ (pins : List (Addr × Obj)) (s : Shared) (σ : St) (H : Hp) (x y : V) (v u : Value) (Q : VK), Inv X pins σ H s → RelV x v → RelV y u → t x y H Q →
    wpAny (model X.prog X.w) X.A (inplaceOp op v u) (EP X pins σ Q) X.xe s
section
variable {X : Cx} {pos : Pos}
def gName (i : Nat) : TG := fun v σ H Q => Q (σ.set i (some v)) H
theorem pg_name {i : Nat} {x : Str} (hN : X.N.Nodup) (hi : X.N[i]? = some x) (hx : Loc X.env.scope x) (hf : X.fn x = true ∨ X.env.scope.names.lookup x = some .local := by first | exact .inl rfl | exact .inr rfl | assumption) : PG X (.Name x pos) (gName i) := by
  intro pins s σ H v u Q I r h
  exact wpAny_assign_Name (store_ok I hN hi hx r (fun s' I' => ⟨_, H, I', h⟩) hf)
def gNil : TGs := fun vs σ H Q => vs = [] ∧ Q σ H
def gCons (t : TG) (u : TGs) : TGs := fun vs σ H Q => ∃ v r, vs = v :: r ∧ t v σ H fun σ' H' => u r σ' H' Q
theorem pgs_nil : PGs X [] gNil := by
  intro pins s σ H vs us Q I r h
  obtain ⟨e, h⟩ := h
  subst e
  cases r
  exact assignInOrder_nil ⟨σ, H, I, h⟩
theorem pgs_cons {e : Expr} {es : List Expr} {t : TG} {u : TGs} (h1 : PG X e t) (h2 : PGs X es u)
    (hs : (assignEach (e :: es) X.env).map (·.2) = assign e X.env :: (assignEach es X.env).map (·.2) := by rfl) : PGs X (e :: es) (gCons t u) := by
  intro pins s σ H vs us Q I r h
  obtain ⟨v, vr, e1, h⟩ := h
  subst e1
  cases r with
  | cons r rr =>
    rw [hs]
    refine assignInOrder_cons (thn (h1 pins s σ H _ _ _ I r h) fun _ s1 ⟨σ1, H1, I1, q1⟩ => ?_)
    exact h2 pins s1 σ1 H1 _ _ Q I1 rr q1
def gTup (K : PySem.W.Frag) (n : Nat) (t : TGs) : TG := fun v σ H Q => ∃ a xs, v = .ref a ∧ SqT K H a xs ∧ xs.length = n ∧ t xs σ H Q
theorem pg_tup {es : List Expr} {k : Nat} {t : TGs} {n : Nat} (hc : X.calm = true) (h : PGs X es t)
    (hn : (assignEach es X.env).length = n := by rfl) (hst : (assignEach es X.env).findIdx? (·.1) = none := by rfl) : PG X (.Tuple es k pos) (gTup X.K n t) := by
  intro pins s σ H v u Q I r hw
  obtain ⟨a, xs, e1, hq, hl, hw⟩ := hw
  subst e1
  cases r
  obtain ⟨its, rv, ht, hz⟩ := I.tuple hq
  refine assign_Tuple_tuple (I.ok.hd hc) ht (by simp [hn, ← hl, rv.length]) hst fun h' hx => ?_
  have I1 : Inv X pins σ H { s with heap := h' } := I.kept (t' := s.toks) fun b o e => hx b o (Nat.ne_of_lt (Heap.lt_size e)) e
  exact h pins _ σ H xs _ Q I1 (by simpa using rv) hw
def gSub (to ti : TE) (t : TSet) : TG := fun v σ H Q => to σ H fun o H1 => ti σ H1 fun i H2 => t o i v H2 fun H3 => Q σ H3
theorem pg_sub {o i : Expr} {to ti : TE} {t : TSet} (ho : PE X o to) (hi : PE X i ti) (hs : PSet X t)
    (ha : ∀ v, assign (.Subscript o i pos) X.env v = (do
      let ov ← holding [v] (eval o X.env)
      let iv ← holding [v, ov] (eval i X.env)
      standAt pos
      holding [v, ov, iv] (setItem ov iv v)
      release [v, ov, iv] []) := by intro _; rfl) : PG X (.Subscript o i pos) (gSub to ti t) := by
  intro pins s σ H v u Q I r h
  rw [ha]
  refine wpAny_bind (wpAny_holding (thn (ho pins s σ H _ I h) fun ov s1 ⟨x, H1, I1, r1, q1⟩ => ?_))
  refine wpAny_bind (wpAny_holding (thn (hi pins s1 σ H1 _ I1 q1) fun iv s2 ⟨y, H2, I2, r2, q2⟩ => ?_))
  refine wpAny_bind (wpAny_standAt (wpAny_bind (wpAny_holding (thn (hs pins s2 σ H2 x y v ov iv u _ I2 r1 r2 r q2) fun _ s3 ⟨H3, I3, q3⟩ => ?_))))
  exact wpAny_release ⟨σ, H3, I3, q3⟩
def tAsg (te : TE) (g : TG) : TS := fun D σ H => te σ H fun x H1 => g x σ H1 D.nx
theorem ps_asg {tg e : Expr} {te : TE} {g : TG} (he : PE X e te) (hg : PG X tg g) (hs : swapsWithSole [tg] e pos.line X.env = pure false := by rfl) (hw : swappedStores [tg] e X.env = pure none := by rfl)
    (h1 : (assignEach [tg] X.env).map (·.2) = [assign tg X.env] := by rfl) : PS X (.Assign [tg] e pos) (tAsg te g) := by
  intro pins s σ H D I h
  refine wpAny_Assign_stores (thn (he pins s σ H _ I h) fun v s1 ⟨x, H1, I1, r1, q1⟩ => ?_) hs hw
  rw [h1]
  exact thn (hg pins s1 σ H1 x v _ I1 r1 q1) fun _ s2 q => q
theorem ps_set {i : Nat} {x : Str} {e : Expr} {te : TE} {pos' : Pos} (hN : X.N.Nodup) (hi : X.N[i]? = some x) (hx : Loc X.env.scope x) (he : PE X e te) (hs : swapsWith e (some (.Name x pos')) pos.line X.env = pure false := by rfl) (hf : X.fn x = true ∨ X.env.scope.names.lookup x = some .local := by first | exact .inl rfl | exact .inr rfl | assumption) :
    PS X (.Assign [.Name x pos'] e pos) (tAsg te (gName i)) := by
  intro pins s σ H D I h
  refine wpAny_Assign_Name (thn (he pins s σ H _ I h) fun v s1 ⟨y, H1, I1, r1, q1⟩ => ?_) hs
  exact store_ok I1 hN hi hx r1 (fun s2 I2 => ⟨_, H1, I2, q1⟩) hf
def tAug (i : Nat) (te : TE) (ti : TIp) : TS := fun D σ H => ∃ x, σ[i]? = some (some x) ∧ te σ H fun y H1 => ti x y H1 fun z H2 => D.nx (σ.set i (some z)) H2
theorem ps_aug {i : Nat} {x : Str} {e : Expr} {te : TE} {op : Operator} {ti : TIp} {pos' : Pos} (hN : X.N.Nodup) (hi : X.N[i]? = some x) (hx : Loc X.env.scope x) (he : PE X e te) (ho : PIp X op ti) (hf : X.fn x = true ∨ X.env.scope.names.lookup x = some .local := by first | exact .inl rfl | exact .inr rfl | assumption) :
    PS X (.AugAssign (.Name x pos') op e pos) (tAug i te ti) := by
  intro pins s σ H D I h
  obtain ⟨v, e1, h⟩ := h
  obtain ⟨m, hn, hl⟩ := I.loc
  have vis : Vis X.env.scope x := by rcases hx with k | k; exact .inl k; exact .inr (.inl k)
  obtain ⟨u, r, l⟩ := hl i x v hi e1 vis
  refine wpAny_AugAssign_Name ?_
  have go : wpAny (model X.prog X.w) X.A (eval e X.env) (fun w s₂ => wpAny (model X.prog X.w) X.A (inplaceOp op u w) (fun r s₃ => wpAny (model X.prog X.w) X.A (storeName X.env x r) (fun _ => SP X pins D .next) X.xe s₃) X.xe s₂) X.xe s := by
    refine thn (he pins s σ H _ I h) fun w s1 ⟨y, H1, I1, r1, q1⟩ => ?_
    refine thn (ho pins s1 σ H1 v y u w _ I1 r r1 q1) fun z s2 ⟨zv, H2, I2, r2, q2⟩ => ?_
    exact store_ok I2 hN hi hx r2 (fun s3 I3 => ⟨_, H2, I3, q2⟩) hf
  rcases l with ⟨hk, hm⟩ | ⟨hk, c, hc, hcell⟩
  · exact wpAny_loadName_local I.ok.kind hk hn hm go
  · rcases hk with hk | hk
    · exact wpAny_loadName_cell I.ok.kind hk hc hcell go
    · rcases hx with k | k
      · have : X.env.scope.names.lookup x = some .free := hk
        rw [k] at this; cases this
      · have : X.env.scope.names.lookup x = some .free := hk
        rw [k] at this; cases this
def tAugS (to ti te : TE) (tget : V → V → Hp → VK → Prop) (tip : TIp) (tset : TSet) : TS := fun D σ H => to σ H fun o H1 => ti σ H1 fun i H2 => tget o i H2 fun x H3 => te σ H3 fun y H4 => tip x y H4 fun z H5 => tset o i z H5 fun H6 => D.nx σ H6
def PGet (X : Cx) (t : V → V → Hp → VK → Prop) : Prop :=
  ∀ (pins : List (Addr × Obj)) (s : Shared) (σ : St) (H : Hp) (o i : V) (ov iv : Value) (Q : VK), Inv X pins σ H s → RelV o ov → RelV i iv → t o i H Q →
    wpAny (model X.prog X.w) X.A (getItem ov iv) (EP X pins σ Q) X.xe s
theorem ps_augS {o i e : Expr} {to ti te : TE} {tget : V → V → Hp → VK → Prop} {tip : TIp} {tset : TSet} {op : Operator} {tpos : Pos} (ho : PE X o to) (hi : PE X i ti) (hg : PGet X tget) (he : PE X e te) (hp : PIp X op tip) (hs : PSet X tset)
    (ha : ∀ ov iv new, augStore i ov iv new = (do holding [new, ov, iv] (setItem ov iv new); release [new, ov, iv] []; pure .next) := by intros; rfl) : PS X (.AugAssign (.Subscript o i tpos) op e pos) (tAugS to ti te tget tip tset) := by
  intro pins s σ H D I h
  refine wpAny_AugAssign_SubscriptAny (thn (ho pins s σ H _ I h) fun ov s1 ⟨x1, H1, I1, r1, q1⟩ => ?_) ha
  refine thn (hi pins s1 σ H1 _ I1 q1) fun iv s2 ⟨x2, H2, I2, r2, q2⟩ => ?_
  refine thn (hg pins s2 σ H2 x1 x2 ov iv _ I2 r1 r2 q2) fun old s3 ⟨x3, H3, I3, r3, q3⟩ => ?_
  refine thn (he pins s3 σ H3 _ I3 q3) fun v s4 ⟨x4, H4, I4, r4, q4⟩ => ?_
  refine thn (hp pins s4 σ H4 x3 x4 old v _ I4 r3 r4 q4) fun new s5 ⟨x5, H5, I5, r5, q5⟩ => ?_
  exact thn (hs pins s5 σ H5 x1 x2 x5 ov iv new _ I5 r1 r2 r5 q5) fun _ s6 ⟨H6, I6, q6⟩ => ⟨σ, H6, I6, q6⟩
end

section
variable {X : Cx} {pos : Pos}
def tWhile (c : TT) (tb : TS) : TS := fun D σ H => ∃ W : Nat → St → Hp → Prop, (∃ m, W m σ H) ∧ ∀ m σ H, W m σ H →
  c σ H fun b H1 => if b = true then ∃ N : St → Hp → Prop, (∀ σ' H', N σ' H' → ∃ m', m' < m ∧ W m' σ' H') ∧ tb { D with nx := N, ct := N, bk := D.nx } σ H1 else D.nx σ H1
theorem ps_while {c : Expr} {body : List Stmt} {tc : TT} {tb : TS} (hp : PassesOwn (model X.prog X.w) X.A X.env X.xe) (hc : PT X c tc) (hb : PSs X body tb) : PS X (.While c body [] pos) (tWhile tc tb) := by
  intro pins s σ H D I h
  obtain ⟨W, ⟨m0, w0⟩, turn⟩ := h
  refine wpAny_While (codeAny_whileLoop (fun n s' => ∃ σ' H', Inv X pins σ' H' s' ∧ W n σ' H') ?_ m0 ⟨σ, H, I, w0⟩)
  rintro n s1 ⟨σ1, H1, I1, w1⟩
  refine wpAny_passesOwn hp (thn (hc pins s1 σ1 H1 _ I1 (turn n σ1 H1 w1)) fun b s2 ⟨H2, I2, q2⟩ => ?_)
  cases b with
  | true =>
    obtain ⟨N, hN, q2⟩ := q2
    rw [if_pos rfl]
    refine wpAny_passesOwn hp (thn (hb pins s2 σ1 H2 _ I2 q2) fun f s3 q3 => ?_)
    cases f with
    | next =>
      obtain ⟨σ3, H3, I3, n3⟩ := q3
      obtain ⟨m', hm, w3⟩ := hN σ3 H3 n3
      exact ⟨m', hm, σ3, H3, I3, w3⟩
    | cont =>
      obtain ⟨σ3, H3, I3, n3⟩ := q3
      obtain ⟨m', hm, w3⟩ := hN σ3 H3 n3
      exact ⟨m', hm, σ3, H3, I3, w3⟩
    | brk => exact q3
    | ret v => exact q3
  | false =>
    rw [if_neg Bool.false_ne_true]
    exact wpAny_execs_nil ⟨σ1, H2, I2, q2⟩
end

structure It where
  go : Nat → Hp → Prop
  yld : Nat → Hp → V → Hp → Prop
  stop : Nat → Hp → Prop
def FpOk (X : Cx) (pins : List (Addr × Obj)) (H : Hp) (b : Addr) : Prop :=
  H b = none ∧ b ≠ X.env.locals ∧ b ∉ X.fs ∧ (b ∈ X.ex ∨ X.s₀.heap.objs.size ≤ b) ∧ (∀ x c, X.env.cells.lookup x = some c → c ≠ b) ∧ ∀ p ∈ X.pn ++ pins, p.1 ≠ b
theorem Inv.fpOk {X : Cx} {pins : List (Addr × Obj)} {σ : St} {H H' : Hp} {s : Shared} {b : Addr} (I : Inv X pins σ H s) (hb : s.heap.objs.size ≤ b) (hn : H' b = none) : FpOk X pins H' b := by
  refine ⟨hn, Nat.ne_of_gt (Nat.lt_of_lt_of_le I.lt hb), I.nofs hb, .inr (Nat.le_trans I.sz hb), fun x c e z => ?_, fun p hp z => ?_⟩
  · obtain ⟨v, q⟩ := I.cell x c e
    exact absurd (Nat.lt_of_lt_of_le q.lt (by rw [z]; exact hb)) (Nat.lt_irrefl _)
  · exact absurd (Nat.lt_of_lt_of_le (Heap.lt_size (I.pin p hp).1) (by rw [z]; exact hb)) (Nat.lt_irrefl _)
structure Turn (P : Program) (w : World) (K : PySem.W.Frag) (tg : Expr) (J : It) (fp : List Addr) (it : Addr) (tn : Nat → Heap → Prop) : Prop where
  mem : it ∈ fp
  obj : ∀ i h, tn i h → ∀ b ∈ fp, ∃ o, h.get? b = some o ∧ ∀ v, o.data ≠ .cell v
  keep : ∀ i h h', tn i h → (∀ b ∈ fp, ∀ o, h.get? b = some o → h'.get? b = some o) → tn i h'
  item : ∀ (X : Cx), X.prog = P → X.w = w → X.K = K → X.calm = true → ∀ (i : Nat) (pins : List (Addr × Obj)) (s : Shared) (σ : St) (H : Hp) (E : Value → Shared → Prop), Inv X pins σ H s → (∀ b ∈ fp, FpOk X pins H b) → tn i s.heap → J.go i H →
    wpAny (model P w) X.A (pyNext (.ref it)) (fun r s1 => ∃ u, r = some u ∧
      wpAny (model P w) X.A (letOwnedTupleGo tg (.ref it) u) (fun _ s2 => ∃ x H', Inv X pins σ H' s2 ∧ RelV x u ∧ J.yld i H x H' ∧ tn (i + 1) s2.heap ∧ ∀ b ∈ fp, H' b = none) E s1) E s
  done : ∀ (X : Cx), X.prog = P → X.w = w → X.K = K → X.calm = true → ∀ (i : Nat) (pins : List (Addr × Obj)) (s : Shared) (σ : St) (H : Hp) (E : Value → Shared → Prop), Inv X pins σ H s → (∀ b ∈ fp, FpOk X pins H b) → tn i s.heap → J.stop i H →
    wpAny (model P w) X.A (pyNext (.ref it)) (fun r s1 => r = none ∧ Inv X pins σ H s1) E s
  self : ∀ (A : Around) (i : Nat) (s : Shared) (Q : Value → Shared → Prop) (E : Value → Shared → Prop), tn i s.heap → Q (.ref it) s → wpAny (model P w) A (pyIter (.ref it)) Q E s
abbrev TI := St → Hp → (It → Hp → Prop) → Prop
def PIE (X : Cx) (pins : List (Addr × Obj)) (σ : St) (tg : Expr) (R : It → Hp → Prop) (itv : Value) (s2 : Shared) : Prop :=
  ∃ (it : Addr) (fp : List Addr) (tn : Nat → Heap → Prop) (J : It) (H' : Hp), itv = .ref it ∧ Inv X pins σ H' s2 ∧ Turn X.prog X.w X.K tg J fp it tn ∧ tn 0 s2.heap ∧ (∀ b ∈ fp, FpOk X pins H' b) ∧ R J H'
def PI (X : Cx) (tg iter : Expr) (wi : TI) : Prop :=
  ∀ (pins : List (Addr × Obj)) (s : Shared) (σ : St) (H : Hp) (R : It → Hp → Prop), Inv X pins σ H s → wi σ H R →
    wpAny (model X.prog X.w) X.A (eval iter X.env) (fun v s1 => wpAny (model X.prog X.w) X.A (pyIter v) (PIE X pins σ tg R) X.xe s1) X.xe s

theorem go_of {M : Model} {A : Around} {E : Value → Shared → Prop} {s : Shared} {tg : Expr} {it : Addr} {u : Value} {o : Obj} {n : String} {vs : Array Value} {Q : Unit → Shared → Prop} (ho : s.heap.get? it = some o) (hc : o.cls = .type n) (hd : o.data = .fields vs)
    (hn : ["enumerate", "zip", "dict_itemiterator", "dict_reverseitemiterator", "odict_iterator", "itertools.zip_longest", "itertools.pairwise"].contains n = false) (hQ : Q () s) : wpAny M A (letOwnedTupleGo tg (.ref it) u) Q E s := by
  unfold letOwnedTupleGo
  cases tg <;> first
    | exact wpAny_pure hQ
    | (cases u <;> first
        | exact wpAny_pure hQ
        | (refine wpAny_bind (wpAny_load ho ?_)
           rw [hc, hd]
           show wpAny M A (if (["enumerate", "zip", "dict_itemiterator", "dict_reverseitemiterator", "odict_iterator", "itertools.zip_longest", "itertools.pairwise"].contains n && vs[0]? == some (rawInt _)) = true then _ else _) Q E s
           rw [if_neg (by intro h; rw [hn, Bool.false_and] at h; cases h)]
           exact wpAny_pure hQ))

def Itl (K : PySem.W.Frag) (a : Addr) : It :=
  ⟨fun i H => ∃ xs x, SqL K H a xs ∧ xs[i]? = some x, fun i H x H' => H' = H ∧ ∀ xs, SqL K H a xs → xs[i]? = some x, fun i H => ∃ xs, SqL K H a xs ∧ xs.length ≤ i⟩
def Itt (K : PySem.W.Frag) (a : Addr) : It :=
  ⟨fun i H => ∃ xs x, SqT K H a xs ∧ xs[i]? = some x, fun i H x H' => H' = H ∧ ∀ xs, SqT K H a xs → xs[i]? = some x, fun i H => ∃ xs, SqT K H a xs ∧ xs.length ≤ i⟩
def Itr (lo : Int) (n : Nat) : It := ⟨fun i _ => i < n, fun i H x H' => H' = H ∧ x = .int (lo + i), fun i _ => n ≤ i⟩
theorem turn_list {P : Program} {w : World} {K : PySem.W.Frag} {tg : Expr} (a it : Addr) : Turn P w K tg (Itl K a) [it] it (fun i h => h.IsListIter it a i) where
  mem := by simp
  obj := fun i h st b hb => by
    have e : b = it := by simpa using hb
    subst e
    obtain ⟨o, e, c, d⟩ := st
    exact ⟨o, e, fun v z => by rw [d] at z; cases z⟩
  keep := fun i h h' st k => st.at fun o e => k it (by simp) o e
  item := by
    intro X hP hw hK hc i pins s σ H E I hf st hg
    subst hP hw hK
    obtain ⟨xs, x, hq, hx⟩ := hg
    obtain ⟨its, rv, p, hz⟩ := I.list hq
    obtain ⟨u, hu, ru⟩ := rv.get hx
    obtain ⟨f0, f1, f2, f3, f4, f5⟩ := hf it (by simp)
    refine wpAny_pyNext_list_item st p.isList (x := u) (by simpa using hu) fun h' st' sb => ?_
    have I1 : Inv X pins σ H { s with heap := h' } := I.turned (t' := s.toks) (fun b o hb e => (sb.2 b hb).trans e) f0 f1 f3 f4 f5
    obtain ⟨o, e, c, d⟩ := id st'
    exact ⟨u, rfl, go_of (s := { s with heap := h' }) e c d (by decide) ⟨x, H, I1, ru, ⟨rfl, fun ys hy => by rw [I.list_inj hy hq]; exact hx⟩, st', fun b hb => (hf b hb).1⟩⟩
  done := by
    intro X hP hw hK hc i pins s σ H E I hf st hg
    subst hP hw hK
    obtain ⟨xs, hq, hx⟩ := hg
    obtain ⟨its, rv, p, hz⟩ := I.list hq
    obtain ⟨f0, f1, f2, f3, f4, f5⟩ := hf it (by simp)
    have hl := rv.length
    exact wpAny_pyNext_list_end (I.ok.hd hc) st p.isList (by simp; (first | lia | omega)) fun h' eb => ⟨rfl, I.turned (t' := s.toks) (fun b o hb e => eb b o hb e) f0 f1 f3 f4 f5⟩
  self := fun _ _ _ _ _ st h => wpAny_pyIter_listiter st h
theorem turn_tuple {P : Program} {w : World} {K : PySem.W.Frag} {tg : Expr} (a it : Addr) : Turn P w K tg (Itt K a) [it] it (fun i h => h.IsTupleIter it a i) where
  mem := by simp
  obj := fun i h st b hb => by
    have e : b = it := by simpa using hb
    subst e
    obtain ⟨o, e, c, d⟩ := st
    exact ⟨o, e, fun v z => by rw [d] at z; cases z⟩
  keep := fun i h h' st k => st.at fun o e => k it (by simp) o e
  item := by
    intro X hP hw hK hc i pins s σ H E I hf st hg
    subst hP hw hK
    obtain ⟨xs, x, hq, hx⟩ := hg
    obtain ⟨its, rv, p, hz⟩ := I.tuple hq
    obtain ⟨u, hu, ru⟩ := rv.get hx
    obtain ⟨f0, f1, f2, f3, f4, f5⟩ := hf it (by simp)
    refine wpAny_pyNext_tuple_item st (show s.heap.IsTuple a its.toArray from p) (x := u) (by simpa using hu) fun h' st' sb => ?_
    have I1 : Inv X pins σ H { s with heap := h' } := I.turned (t' := s.toks) (fun b o hb e => (sb.2 b hb).trans e) f0 f1 f3 f4 f5
    obtain ⟨o, e, c, d⟩ := id st'
    exact ⟨u, rfl, go_of (s := { s with heap := h' }) e c d (by decide) ⟨x, H, I1, ru, ⟨rfl, fun ys hy => by rw [I.tuple_inj hy hq]; exact hx⟩, st', fun b hb => (hf b hb).1⟩⟩
  done := by
    intro X hP hw hK hc i pins s σ H E I hf st hg
    subst hP hw hK
    obtain ⟨xs, hq, hx⟩ := hg
    obtain ⟨its, rv, p, hz⟩ := I.tuple hq
    obtain ⟨f0, f1, f2, f3, f4, f5⟩ := hf it (by simp)
    have hl := rv.length
    exact wpAny_pyNext_tuple_end (I.ok.hd hc) st (show s.heap.IsTuple a its.toArray from p) (by simp; (first | lia | omega)) fun h' eb => ⟨rfl, I.turned (t' := s.toks) (fun b o hb e => eb b o hb e) f0 f1 f3 f4 f5⟩
  self := fun _ _ _ _ _ st h => wpAny_pyIter_tupleiter st h
theorem turn_range {P : Program} {w : World} {K : PySem.W.Frag} {tg : Expr} (it : Addr) (lo : Int) (n : Nat) : Turn P w K tg (Itr lo n) [it] it (fun i h => IsRangeIter h it (lo + (i : Nat) * 1) ((n : Int) - (i : Nat)) 1) where
  mem := by simp
  obj := fun i h st b hb => by
    have e : b = it := by simpa using hb
    subst e
    exact ⟨_, st, fun v z => by
      have z' : Data.fields _ = Data.cell v := z
      cases z'⟩
  keep := fun i h h' st k => k it (by simp) _ st
  item := by
    intro X hP hw hK hc i pins s σ H E I hf st hg
    subst hP hw hK
    obtain ⟨f0, f1, f2, f3, f4, f5⟩ := hf it (by simp)
    have W := Walks.range (prog := X.prog) (w := X.w) (I.ok.hd hc) it lo 1 n
    refine W.item i s _ _ hg st fun v h' tk hv st' kk => ?_
    obtain ⟨t, rfl⟩ := hv
    have I1 : Inv X pins σ H { s with heap := h', toks := tk } := I.turned (fun b o hb e => kk b o (by simpa using hb) e) f0 f1 f3 f4 f5
    refine ⟨_, rfl, go_of (s := { s with heap := h', toks := tk }) (n := "range_iterator") st' rfl rfl (by decide) ⟨.int (lo + i), H, I1, ⟨t, ?_⟩, ⟨rfl, rfl⟩, st', fun b hb => (hf b hb).1⟩⟩
    rw [Int.mul_one]
  done := by
    intro X hP hw hK hc i pins s σ H E I hf st hg
    subst hP hw hK
    obtain ⟨f0, f1, f2, f3, f4, f5⟩ := hf it (by simp)
    exact wpAny_pyNext_range_end (I.ok.hd hc) st (by have : n ≤ i := hg; (first | lia | omega)) fun h' eb => ⟨rfl, I.turned (t' := s.toks) (fun b o hb e => eb b o hb e) f0 f1 f3 f4 f5⟩
  self := fun _ _ _ _ _ st h => wpAny_pyIter_rangeiter st h
end L2

namespace L2
open PySem PySem.Spec PyProof.Rows
section
variable {X : Cx} {tg : Expr}
def iList (K : PySem.W.Frag) (tl : TE) : TI := fun σ H R => tl σ H fun x H1 => ∃ a, x = .ref a ∧ (∃ xs, SqL K H1 a xs) ∧ R (Itl K a) H1
def iTup (K : PySem.W.Frag) (tl : TE) : TI := fun σ H R => tl σ H fun x H1 => ∃ a, x = .ref a ∧ (∃ xs, SqT K H1 a xs) ∧ R (Itt K a) H1
theorem pi_list {l : Expr} {tl : TE} (hl : PE X l tl) : PI X tg l (iList X.K tl) := by
  intro pins s σ H R I h
  refine thn (hl pins s σ H _ I h) fun v s1 ⟨x, H1, I1, r1, q1⟩ => ?_
  obtain ⟨a, e, ⟨xs, hq⟩, q⟩ := q1
  subst e
  cases r1
  obtain ⟨its, rv, p, hz⟩ := I1.list hq
  refine wpAny_pyIter_list p.isList ?_
  refine ⟨s1.heap.objs.size, [s1.heap.objs.size], _, _, H1, rfl, I1.kept (t' := s1.toks) fun b o e => Heap.get?_push_of_some _ e, turn_list a _, ⟨_, Heap.get?_push_size _ rfl, rfl, rfl⟩, fun b hb => ?_, q⟩
  have e : b = s1.heap.objs.size := by simpa using hb
  subst e
  exact I1.fpOk (Nat.le_refl _) (I1.hok.fresh (Nat.le_refl _))
theorem pi_tup {l : Expr} {tl : TE} (hl : PE X l tl) : PI X tg l (iTup X.K tl) := by
  intro pins s σ H R I h
  refine thn (hl pins s σ H _ I h) fun v s1 ⟨x, H1, I1, r1, q1⟩ => ?_
  obtain ⟨a, e, ⟨xs, hq⟩, q⟩ := q1
  subst e
  cases r1
  obtain ⟨its, rv, p, hz⟩ := I1.tuple hq
  refine wpAny_pyIter_tuple (show s1.heap.IsTuple a its.toArray from p) ?_
  refine ⟨s1.heap.objs.size, [s1.heap.objs.size], _, _, H1, rfl, I1.kept (t' := s1.toks) fun b o e => Heap.get?_push_of_some _ e, turn_tuple a _, ⟨_, Heap.get?_push_size _ rfl, rfl, rfl⟩, fun b hb => ?_, q⟩
  have e : b = s1.heap.objs.size := by simpa using hb
  subst e
  exact I1.fpOk (Nat.le_refl _) (I1.hok.fresh (Nat.le_refl _))
theorem range_it {pins : List (Addr × Obj)} {σ : St} {H : Hp} {s : Shared} {R : It → Hp → Prop} {E : Value → Shared → Prop} {lo hi : Int} {t u v : Tok} {tk : Nat} (I : Inv X pins σ H s) (h1 : -(2 ^ 62) ≤ lo) (h2 : lo < 2 ^ 62) (h3 : -(2 ^ 62) ≤ hi) (h4 : hi < 2 ^ 62)
    (q : R (Itr lo (hi - lo).toNat) H) : wpAny (model X.prog X.w) X.A (pyIter (.ref s.heap.objs.size)) (PIE X pins σ tg R) E { s with heap := s.heap.push { cls := .type "range", data := .fields #[.int lo t, .int hi u, .int 1 v] }, toks := tk } := by
  refine wpAny_pyIter_range (IsRange.new ..) (small_one h1 h2 h3 h4) ?_
  have I1 : Inv X pins σ H { s with heap := s.heap.push { cls := .type "range", data := .fields #[.int lo t, .int hi u, .int 1 v] }, toks := tk } := I.kept fun b o e => Heap.get?_push_of_some _ e
  refine ⟨(s.heap.push { cls := .type "range", data := .fields #[.int lo t, .int hi u, .int 1 v] }).objs.size, [(s.heap.push { cls := .type "range", data := .fields #[.int lo t, .int hi u, .int 1 v] }).objs.size], _, _, H, rfl,
    I1.kept (t' := tk) fun b o e => Heap.get?_push_of_some _ e, turn_range _ lo (hi - lo).toNat, ?_, fun b hb => ?_, q⟩
  · have e1 : lo + ((0 : Nat) : Int) * 1 = lo := by simp
    have e2 : (((hi - lo).toNat : Nat) : Int) - ((0 : Nat) : Int) = Builtin.Range.rangeSize lo hi 1 := by rw [rangeSize_one]; split <;> (first | lia | omega)
    show IsRangeIter _ _ (lo + ((0 : Nat) : Int) * 1) ((((hi - lo).toNat : Nat) : Int) - ((0 : Nat) : Int)) 1
    rw [e1, e2]
    exact Heap.get?_push_size _ rfl
  · have e : b = (s.heap.push { cls := .type "range", data := .fields #[.int lo t, .int hi u, .int 1 v] }).objs.size := by simpa using hb
    subst e
    exact I1.fpOk (Nat.le_refl _) (I1.hok.fresh (Nat.le_refl _))
def iRng1 (ta : TA) : TI := fun σ H R => ta σ H fun vs H1 => ∃ j : Int, vs = [.int j] ∧ -(2 ^ 62) ≤ j ∧ j < 2 ^ 62 ∧ R (Itr 0 j.toNat) H1
def iRng2 (ta : TA) : TI := fun σ H R => ta σ H fun vs H1 => ∃ i j : Int, vs = [.int i, .int j] ∧ (-(2 ^ 62) ≤ i ∧ i < 2 ^ 62 ∧ -(2 ^ 62) ≤ j ∧ j < 2 ^ 62) ∧ R (Itr i (j - i).toNat) H1
theorem pi_range1 {a : Expr} {ta : TA} {p pos : Pos} (hg : Gl X "range") (hm : X.mg "range" = none) (ha : PA X [a] ta) (hs : starEach [a] X.env = [(false, eval a X.env)] := by rfl) : PI X tg (.Call (.Name "range" p) [a] [] pos) (iRng1 ta) := by
  intro pins s σ H R I h
  refine Call_ (ld_blt I hg hm boot_range (PyProof.Rows.callWith_type1 (thn (ha pos pins s σ H _ I h) fun us s1 ⟨vs, H1, I1, r1, q1⟩ => ?_) hs rfl))
  obtain ⟨j, e, q1, q2, q⟩ := q1
  subst e
  cases r1 with
  | cons r rr =>
    cases rr
    obtain ⟨t, rfl⟩ := r
    exact call_range_1 (range_it I1 (by (first | lia | omega)) (by (first | lia | omega)) q1 q2 (by simpa using q))
theorem pi_range2 {a b : Expr} {ta : TA} {p pos : Pos} (hg : Gl X "range") (hm : X.mg "range" = none) (ha : PA X [a, b] ta) (hs : starEach [a, b] X.env = [(false, eval a X.env), (false, eval b X.env)] := by rfl) (hs2 : starEach [b] X.env = [(false, eval b X.env)] := by rfl) :
    PI X tg (.Call (.Name "range" p) [a, b] [] pos) (iRng2 ta) := by
  intro pins s σ H R I h
  refine Call_ (ld_blt I hg hm boot_range (PyProof.Rows.callWith_type1 (thn (ha pos pins s σ H _ I h) fun us s1 ⟨vs, H1, I1, r1, q1⟩ => ?_) (by rw [hs, hs2]) (by rw [hs2]; rfl)))
  obtain ⟨i, j, e, ⟨q1, q2, q3, q4⟩, q⟩ := q1
  subst e
  cases r1 with
  | cons r rr =>
    cases rr with
    | cons r' rr =>
      cases rr
      obtain ⟨t, rfl⟩ := r
      obtain ⟨t', rfl⟩ := r'
      exact call_range_2 (range_it I1 q1 q2 q3 q4 q)

def tFor (wi : TI) (g : TG) (tb : TS) : TS := fun D σ H => wi σ H fun J H1 => ∃ W : Nat → Nat → St → Hp → Prop, (∃ m, W 0 m σ H1) ∧ ∀ i m σ H, W i m σ H →
  (J.stop i H ∧ D.nx σ H) ∨ (J.go i H ∧ ∃ N : St → Hp → Prop, (∀ σ' H', N σ' H' → ∃ m', m' < m ∧ W (i + 1) m' σ' H') ∧ ∀ x H', J.yld i H x H' → g x σ H' fun σ2 H2 => tb { D with nx := N, ct := N, bk := D.nx } σ2 H2)
def pinsAt (fp : List Addr) (h : Heap) : List (Addr × Obj) := fp.filterMap fun b => (h.get? b).map fun o => (b, o)
theorem mem_pinsAt {fp : List Addr} {h : Heap} {b : Addr} {o : Obj} (hb : b ∈ fp) (e : h.get? b = some o) : (b, o) ∈ pinsAt fp h := List.mem_filterMap.mpr ⟨b, hb, by rw [e]; rfl⟩
theorem of_pinsAt {fp : List Addr} {h : Heap} {p : Addr × Obj} (hp : p ∈ pinsAt fp h) : p.1 ∈ fp ∧ h.get? p.1 = some p.2 := by
  obtain ⟨b, hb, e⟩ := List.mem_filterMap.mp hp
  cases q : h.get? b with
  | none => rw [q] at e; cases e
  | some o =>
    rw [q] at e
    have e' : (b, o) = p := Option.some.inj e
    subst e'
    exact ⟨hb, q⟩
theorem Inv.pinned {pins : List (Addr × Obj)} {σ : St} {H : Hp} {s : Shared} {fp : List Addr} (I : Inv X pins σ H s) (hf : ∀ b ∈ fp, FpOk X pins H b) (ho : ∀ b ∈ fp, ∃ o, s.heap.get? b = some o ∧ ∀ v, o.data ≠ .cell v) : Inv X (pins ++ pinsAt fp s.heap) σ H s :=
  I.pins_of fun p hp => (List.mem_append.mp hp).elim (fun z => I.pin p (List.mem_append_right _ z)) fun z => by
    obtain ⟨hb, e⟩ := of_pinsAt z
    obtain ⟨f0, f1, f2, _⟩ := hf p.1 hb
    obtain ⟨o, e', d⟩ := ho p.1 hb
    rw [e] at e'; cases e'
    exact ⟨e, f0, f1, f2, d⟩
theorem Inv.unpinned {pins pl : List (Addr × Obj)} {σ : St} {H : Hp} {s : Shared} (I : Inv X (pins ++ pl) σ H s) : Inv X pins σ H s := I.pins_of fun p hp => I.pin p (List.mem_append_right _ (List.mem_append_left _ hp))
theorem ps_for {iter : Expr} {body : List Stmt} {wi : TI} {g : TG} {tb : TS} {pos : Pos} (hp : PassesOwn (model X.prog X.w) X.A X.env X.xe) (hc : X.calm = true) (hi : PI X tg iter wi) (hg : PG X tg g) (hb : PSs X body tb)
    (hs : ∀ x, foldedSetIterable iter X.env x = pure x := by intro _; rfl) : PS X (.For tg iter body [] pos) (tFor wi g tb) := by
  intro pins s σ H D I h
  refine wpAny_For (thn (hi pins s σ H _ I h) fun v s1 h1 => thn h1 fun itv s2 h2 => ?_) hs
  obtain ⟨it, fp, tn, J, H2, e, I2, T, st2, f2, W, ⟨m0, w0⟩, turn⟩ := h2
  subst e
  -- what stays true of the iterator's objects through the loop
  have stat : ∀ {H' : Hp}, (∀ b ∈ fp, H' b = none) → ∀ b ∈ fp, FpOk X pins H' b := fun hn b hb => ⟨hn b hb, (f2 b hb).2⟩
  refine codeAny_forLoop_any (fun n s' => ∃ i σ' H', Inv X pins σ' H' s' ∧ tn i s'.heap ∧ (∀ b ∈ fp, H' b = none) ∧ W i n σ' H') ?_ m0 ⟨0, σ, H2, I2, st2, fun b hb => (f2 b hb).1, w0⟩
  rintro n s3 ⟨i, σ3, H3, I3, st3, fr3, w3⟩
  rcases turn i n σ3 H3 w3 with ⟨stop, qn⟩ | ⟨go, N, hN, step⟩
  · refine wpAny_passesOwn hp (thn (T.done X rfl rfl rfl hc i pins s3 σ3 H3 X.xe I3 (stat fr3) st3 stop) fun r s4 ⟨hr, I4⟩ => ?_)
    subst hr
    exact wpAny_execs_nil ⟨σ3, H3, I4, qn⟩
  · refine wpAny_passesOwn hp (thn (T.item X rfl rfl rfl hc i pins s3 σ3 H3 X.xe I3 (stat fr3) st3 go) fun r s4 ⟨u, hr, h4⟩ => ?_)
    subst hr
    refine wpAny_passesOwn hp (thn h4 fun _ s5 ⟨x, H5, I5, r5, y5, st5, fr5⟩ => ?_)
    have I5' := I5.pinned (stat fr5) (T.obj _ _ st5)
    refine wpAny_passesOwn hp (thn (hg _ s5 σ3 H5 x u _ I5' r5 (step x H5 y5)) fun _ s6 ⟨σ6, H6, I6, q6⟩ => ?_)
    refine wpAny_passesOwn hp (thn (hb _ s6 σ6 H6 _ I6 q6) fun f s7 q7 => ?_)
    have again : ∀ {σ7 : St} {H7 : Hp}, Inv X (pins ++ pinsAt fp s5.heap) σ7 H7 s7 → N σ7 H7 → ∃ m, m < n ∧ ∃ i σ' H', Inv X pins σ' H' s7 ∧ tn i s7.heap ∧ (∀ b ∈ fp, H' b = none) ∧ W i m σ' H' := fun {σ7 H7} I7 n7 => by
      obtain ⟨m', hm, w7⟩ := hN σ7 H7 n7
      refine ⟨m', hm, i + 1, σ7, H7, I7.unpinned, T.keep _ _ _ st5 fun b hb o e => (I7.pin (b, o) (List.mem_append_right _ (List.mem_append_right _ (mem_pinsAt hb e)))).1, fun b hb => ?_, w7⟩
      obtain ⟨o, e, d⟩ := T.obj _ _ st5 b hb
      exact (I7.pin (b, o) (List.mem_append_right _ (List.mem_append_right _ (mem_pinsAt hb e)))).2.1
    cases f with
    | next => obtain ⟨σ7, H7, I7, n7⟩ := q7; exact again I7 n7
    | cont => obtain ⟨σ7, H7, I7, n7⟩ := q7; exact again I7 n7
    | brk => obtain ⟨σ7, H7, I7, q7⟩ := q7; exact ⟨σ7, H7, I7.unpinned, q7⟩
    | ret v => obtain ⟨x7, σ7, H7, I7, r7, q7⟩ := q7; exact ⟨x7, σ7, H7, I7.unpinned, r7, q7⟩
end

theorem for_list {K : PySem.W.Frag} {a : Addr} {xs : List V} {g : TG} {tb : TS} {D : Ends} {σ : St} {H : Hp} (Pv : Nat → St → Hp → Prop) (h0 : Pv 0 σ H) (hl : ∀ i σ H, i ≤ xs.length → Pv i σ H → SqL K H a xs)
    (hs : ∀ i x σ H, xs[i]? = some x → Pv i σ H → g x σ H fun σ2 H2 => tb { D with nx := Pv (i + 1), ct := Pv (i + 1), bk := D.nx } σ2 H2) (hd : ∀ σ H, Pv xs.length σ H → D.nx σ H) :
    ∃ W : Nat → Nat → St → Hp → Prop, (∃ m, W 0 m σ H) ∧ ∀ i m σ H, W i m σ H →
      ((Itl K a).stop i H ∧ D.nx σ H) ∨ ((Itl K a).go i H ∧ ∃ N : St → Hp → Prop, (∀ σ' H', N σ' H' → ∃ m', m' < m ∧ W (i + 1) m' σ' H') ∧ ∀ x H', (Itl K a).yld i H x H' → g x σ H' fun σ2 H2 => tb { D with nx := N, ct := N, bk := D.nx } σ2 H2) := by
  refine ⟨fun i m σ H => m = xs.length - i ∧ i ≤ xs.length ∧ Pv i σ H, ⟨xs.length, by simp, Nat.zero_le _, h0⟩, ?_⟩
  rintro i m σ H ⟨rfl, hi, p⟩
  have q := hl i σ H hi p
  by_cases hlt : i < xs.length
  · refine .inr ⟨⟨xs, xs[i], q, by simp [hlt]⟩, Pv (i + 1), fun σ' H' p' => ⟨xs.length - (i + 1), by (first | lia | omega), rfl, hlt, p'⟩, fun x H' y => ?_⟩
    obtain ⟨e, y⟩ := y
    subst e
    exact hs i x σ _ (y xs q) p
  · have e : i = xs.length := by (first | lia | omega)
    subst e
    exact .inl ⟨⟨xs, q, Nat.le_refl _⟩, hd σ H p⟩
theorem for_tup {K : PySem.W.Frag} {a : Addr} {xs : List V} {g : TG} {tb : TS} {D : Ends} {σ : St} {H : Hp} (Pv : Nat → St → Hp → Prop) (h0 : Pv 0 σ H) (hl : ∀ i σ H, i ≤ xs.length → Pv i σ H → SqT K H a xs)
    (hs : ∀ i x σ H, xs[i]? = some x → Pv i σ H → g x σ H fun σ2 H2 => tb { D with nx := Pv (i + 1), ct := Pv (i + 1), bk := D.nx } σ2 H2) (hd : ∀ σ H, Pv xs.length σ H → D.nx σ H) :
    ∃ W : Nat → Nat → St → Hp → Prop, (∃ m, W 0 m σ H) ∧ ∀ i m σ H, W i m σ H →
      ((Itt K a).stop i H ∧ D.nx σ H) ∨ ((Itt K a).go i H ∧ ∃ N : St → Hp → Prop, (∀ σ' H', N σ' H' → ∃ m', m' < m ∧ W (i + 1) m' σ' H') ∧ ∀ x H', (Itt K a).yld i H x H' → g x σ H' fun σ2 H2 => tb { D with nx := N, ct := N, bk := D.nx } σ2 H2) := by
  refine ⟨fun i m σ H => m = xs.length - i ∧ i ≤ xs.length ∧ Pv i σ H, ⟨xs.length, by simp, Nat.zero_le _, h0⟩, ?_⟩
  rintro i m σ H ⟨rfl, hi, p⟩
  have q := hl i σ H hi p
  by_cases hlt : i < xs.length
  · refine .inr ⟨⟨xs, xs[i], q, by simp [hlt]⟩, Pv (i + 1), fun σ' H' p' => ⟨xs.length - (i + 1), by (first | lia | omega), rfl, hlt, p'⟩, fun x H' y => ?_⟩
    obtain ⟨e, y⟩ := y
    subst e
    exact hs i x σ _ (y xs q) p
  · have e : i = xs.length := by (first | lia | omega)
    subst e
    exact .inl ⟨⟨xs, q, Nat.le_refl _⟩, hd σ H p⟩
theorem for_range {lo : Int} {n : Nat} {g : TG} {tb : TS} {D : Ends} {σ : St} {H : Hp} (Pv : Nat → St → Hp → Prop) (h0 : Pv 0 σ H)
    (hs : ∀ i σ H, i < n → Pv i σ H → g (.int (lo + i)) σ H fun σ2 H2 => tb { D with nx := Pv (i + 1), ct := Pv (i + 1), bk := D.nx } σ2 H2) (hd : ∀ σ H, Pv n σ H → D.nx σ H) :
    ∃ W : Nat → Nat → St → Hp → Prop, (∃ m, W 0 m σ H) ∧ ∀ i m σ H, W i m σ H →
      ((Itr lo n).stop i H ∧ D.nx σ H) ∨ ((Itr lo n).go i H ∧ ∃ N : St → Hp → Prop, (∀ σ' H', N σ' H' → ∃ m', m' < m ∧ W (i + 1) m' σ' H') ∧ ∀ x H', (Itr lo n).yld i H x H' → g x σ H' fun σ2 H2 => tb { D with nx := N, ct := N, bk := D.nx } σ2 H2) := by
  refine ⟨fun i m σ H => m = n - i ∧ i ≤ n ∧ Pv i σ H, ⟨n, by simp, Nat.zero_le _, h0⟩, ?_⟩
  rintro i m σ H ⟨rfl, hi, p⟩
  by_cases hlt : i < n
  · refine .inr ⟨hlt, Pv (i + 1), fun σ' H' p' => ⟨n - (i + 1), by (first | lia | omega), rfl, hlt, p'⟩, fun x H' y => ?_⟩
    obtain ⟨e, y⟩ := y
    subst e y
    exact hs i σ _ hlt p
  · have e : i = n := by (first | lia | omega)
    subst e
    exact .inl ⟨Nat.le_refl _, hd σ H p⟩
end L2

namespace L2
open PySem PySem.Spec PyProof.Rows

abbrev R2 := V → V → Hp → VK → Prop
def OpR (X : Cx) (f : Value → Value → Sem Value) (r : R2) : Prop :=
  ∀ (pins : List (Addr × Obj)) (s : Shared) (σ : St) (H : Hp) (x y : V) (v u : Value) (Q : VK), Inv X pins σ H s → RelV x v → RelV y u → r x y H Q →
    wpAny (model X.prog X.w) X.A (f v u) (EP X pins σ Q) X.xe s
def UnR (X : Cx) (f : Value → Sem Value) (r : V → Hp → VK → Prop) : Prop :=
  ∀ (pins : List (Addr × Obj)) (s : Shared) (σ : St) (H : Hp) (x : V) (v : Value) (Q : VK), Inv X pins σ H s → RelV x v → r x H Q →
    wpAny (model X.prog X.w) X.A (f v) (EP X pins σ Q) X.xe s
def CallR (X : Cx) (f : Value) (r : List V → Hp → VK → Prop) : Prop :=
  ∀ (pins : List (Addr × Obj)) (s : Shared) (σ : St) (H : Hp) (xs : List V) (us : List Value) (Q : VK), Inv X pins σ H s → Vals xs us → r xs H Q →
    wpAny (model X.prog X.w) X.A (call f us) (EP X pins σ Q) X.xe s
def tOp (r : R2) (ta tb : TE) : TE := fun σ H Q => ta σ H fun x H1 => tb σ H1 fun y H2 => r x y H2 Q
def tUn (r : V → Hp → VK → Prop) (ta : TE) : TE := fun σ H Q => ta σ H fun x H1 => r x H1 Q
def rI (C : Int → Int → Prop) (g : Int → Int → V) : R2 := fun x y H Q => ∃ i j, x = .int i ∧ y = .int j ∧ C i j ∧ Q (g i j) H
def rI0 (g : Int → Int → V) : R2 := fun x y H Q => ∃ i j, x = .int i ∧ y = .int j ∧ Q (g i j) H
def rU (g : Int → V) : V → Hp → VK → Prop := fun x H Q => ∃ i, x = .int i ∧ Q (g i) H

section
variable {X : Cx} {a b c : Expr} {ta tb tc : TE} {pos : Pos}

theorem binT (ha : PE X a ta) (hb : PE X b tb) {pins : List (Addr × Obj)} {s : Shared} {σ : St} {H : Hp} {R : V → V → Hp → Prop} (I : Inv X pins σ H s)
    (h : ta σ H fun x H1 => tb σ H1 fun y H2 => R x y H2) {Q : Value → Shared → Prop} {f : Value → Value → Sem Value}
    (hf : ∀ v u s2 x y H2, Inv X pins σ H2 s2 → RelV x v → RelV y u → R x y H2 → wpAny (model X.prog X.w) X.A (f v u) Q X.xe s2) :
    wpAny (model X.prog X.w) X.A (eval a X.env) (fun v s₁ => wpAny (model X.prog X.w) X.A (eval b X.env) (fun u s₂ => wpAny (model X.prog X.w) X.A (f v u) Q X.xe s₂) X.xe s₁) X.xe s := by
  refine thn (ha pins s σ H _ I h) fun v s1 ⟨x, H1, I1, r1, q1⟩ => ?_
  refine thn (hb pins s1 σ H1 _ I1 q1) fun u s2 ⟨y, H2, I2, r2, q2⟩ => ?_
  exact hf v u s2 x y H2 I2 r1 r2 q2

theorem pe_op {op : Operator} {r : R2} (ho : OpR X (binaryOp op) r) (ha : PE X a ta) (hb : PE X b tb) : PE X (.BinOp a op b pos) (tOp r ta tb) := by
  intro pins s σ H Q I h
  exact wpAny_BinOp (binT ha hb I h fun v u s2 x y H2 I2 rx ry q => ho pins s2 σ H2 x y v u Q I2 rx ry q)
theorem pe_un {op : UnaryOp} {r : V → Hp → VK → Prop} (ho : UnR X (unaryOp op) r) (ha : PE X a ta) : PE X (.UnaryOp op a pos) (tUn r ta) := by
  intro pins s σ H Q I h
  exact UnaryOp_ (thn (ha pins s σ H _ I h) fun v s1 ⟨x, H1, I1, r1, q1⟩ => ho pins s1 σ H1 x v Q I1 r1 q1)
theorem opI {f : Value → Value → Sem Value} {C : Int → Int → Prop} {g : Int → Int → Int}
    (rule : ∀ (i j : Int) (t u : Tok) (s : Shared) (Q : Value → Shared → Prop) (E : Value → Shared → Prop), C i j → Q (.int (g i j) s.toks) { s with toks := s.toks + 1 } → wpAny (model X.prog X.w) X.A (f (.int i t) (.int j u)) Q E s) :
    OpR X f (rI C fun i j => .int (g i j)) := by
  intro pins s σ H x y v u Q I rx ry h
  obtain ⟨i, j, rfl, rfl, hc, q⟩ := h
  obtain ⟨t, rfl⟩ := rx
  obtain ⟨t', rfl⟩ := ry
  exact rule i j t t' s _ _ hc ⟨.int (g i j), H, I.tok _, ⟨_, rfl⟩, q⟩
theorem opI0 {f : Value → Value → Sem Value} {g : Int → Int → Int}
    (rule : ∀ (i j : Int) (t u : Tok) (s : Shared) (Q : Value → Shared → Prop) (E : Value → Shared → Prop), Q (.int (g i j) s.toks) { s with toks := s.toks + 1 } → wpAny (model X.prog X.w) X.A (f (.int i t) (.int j u)) Q E s) :
    OpR X f (rI0 fun i j => .int (g i j)) := by
  intro pins s σ H x y v u Q I rx ry h
  obtain ⟨i, j, rfl, rfl, q⟩ := h
  obtain ⟨t, rfl⟩ := rx
  obtain ⟨t', rfl⟩ := ry
  exact rule i j t t' s _ _ ⟨.int (g i j), H, I.tok _, ⟨_, rfl⟩, q⟩
theorem opB0 {f : Value → Value → Sem Value} {g : Int → Int → Bool}
    (rule : ∀ (i j : Int) (t u : Tok) (s : Shared) (Q : Value → Shared → Prop) (E : Value → Shared → Prop), Q (.bool (g i j)) s → wpAny (model X.prog X.w) X.A (f (.int i t) (.int j u)) Q E s) :
    OpR X f (rI0 fun i j => .bl (g i j)) := by
  intro pins s σ H x y v u Q I rx ry h
  obtain ⟨i, j, rfl, rfl, q⟩ := h
  obtain ⟨t, rfl⟩ := rx
  obtain ⟨t', rfl⟩ := ry
  exact rule i j t t' s _ _ ⟨.bl (g i j), H, I, rfl, q⟩

def CDiv (i j : Int) : Prop := 0 < j ∧ j < 1073741824
def CPow (i j : Int) : Prop := 0 ≤ j ∧ j ≤ 1000000 ∧ i.natAbs < 2 ^ 64
def CMul (i j : Int) : Prop := (-(2 ^ 64) < i ∧ i < 2 ^ 64) ∨ (-(2 ^ 64) < j ∧ j < 2 ^ 64)
theorem CMul.ok {i j : Int} (h : CMul i j) : IntMulOk i j := by
  rcases h with ⟨h1, h2⟩ | ⟨h1, h2⟩
  · exact .of_left (intBits_le_64 h1 h2)
  · exact .of_right (intBits_le_64 h1 h2)
theorem two_pow_nn (k : Nat) : (0 : Int) ≤ 2 ^ k := by
  rw [two_pow_cast]
  exact Int.natCast_nonneg _

theorem op_add : OpR X (binaryOp .Add) (rI0 fun i j => .int (i + j)) := opI0 fun _ _ _ _ _ _ _ q => add_int q
theorem op_sub : OpR X (binaryOp .Sub) (rI0 fun i j => .int (i - j)) := opI0 fun _ _ _ _ _ _ _ q => sub_int q
theorem op_mul : OpR X (binaryOp .Mult) (rI CMul fun i j => .int (i * j)) := opI fun _ _ _ _ _ _ _ hc q => mul_int q hc.ok
theorem op_fdiv : OpR X (binaryOp .FloorDiv) (rI CDiv fun i j => .int (i / j)) := opI fun i j _ _ _ _ _ hc q => by
  have h1 : (0 : Int) < j := hc.1
  have h2 : j < 1073741824 := hc.2
  exact floordiv_int (by (first | lia | omega)) (by rw [Int.fdiv_eq_ediv_of_nonneg i (by (first | lia | omega))]; exact q) (.inl (PyProof.noPylong_small (by (first | lia | omega))))
theorem op_mod : OpR X (binaryOp .Mod) (rI (fun _ j => 0 < j) fun i j => .int (i % j)) := opI fun i j _ _ _ _ _ hc q => by
  have h1 : (0 : Int) < j := hc
  exact mod_int' (by (first | lia | omega)) (by rw [Int.fmod_eq_emod_of_nonneg i (by (first | lia | omega))]; exact q)
theorem op_pow : OpR X (binaryOp .Pow) (rI CPow fun i j => .int (i ^ j.toNat)) := opI fun _ _ _ _ _ _ _ hc q => pow_int_small hc.1 hc.2.1 hc.2.2 q
theorem op_shl : OpR X (binaryOp .LShift) (rI CPow fun i j => .int (i * 2 ^ j.toNat)) := opI fun _ _ _ _ _ _ _ hc q => lshift_int_small hc.1 hc.2.1 hc.2.2 q
theorem op_shr : OpR X (binaryOp .RShift) (rI (fun _ j => 0 ≤ j) fun i j => .int (i / 2 ^ j.toNat)) := opI fun i j _ _ _ _ _ hc q =>
  rshift_int hc (by rw [Int.fdiv_eq_ediv_of_nonneg i (two_pow_nn _)]; exact q)
theorem op_and : OpR X (binaryOp .BitAnd) (rI0 fun i j => .int (Builtin.bitAnd i j)) := opI0 fun _ _ _ _ _ _ _ q => and_int q
theorem op_xor : OpR X (binaryOp .BitXor) (rI0 fun i j => .int (Builtin.bitXor i j)) := opI0 fun _ _ _ _ _ _ _ q => xor_int q

theorem iop_add : OpR X (inplaceOp .Add) (rI0 fun i j => .int (i + j)) := opI0 fun _ _ _ _ _ _ _ q => iadd_int q
theorem iop_or : OpR X (inplaceOp .BitOr) (rI0 fun i j => .int (Builtin.bitOr i j)) := opI0 fun _ _ _ _ _ _ _ q => ior_int q
theorem iop_xor : OpR X (inplaceOp .BitXor) (rI0 fun i j => .int (Builtin.bitXor i j)) := opI0 fun _ _ _ _ _ _ _ q => ixor_int q

theorem unI {f : Value → Sem Value} {g : Int → Int}
    (rule : ∀ (i : Int) (t : Tok) (s : Shared) (Q : Value → Shared → Prop) (E : Value → Shared → Prop), Q (.int (g i) s.toks) { s with toks := s.toks + 1 } → wpAny (model X.prog X.w) X.A (f (.int i t)) Q E s) :
    UnR X f (rU fun i => .int (g i)) := by
  intro pins s σ H x v Q I rx h
  obtain ⟨i, rfl, q⟩ := h
  obtain ⟨t, rfl⟩ := rx
  exact rule i t s _ _ ⟨.int (g i), H, I.tok _, ⟨_, rfl⟩, q⟩
theorem un_neg : UnR X (unaryOp .USub) (rU fun i => .int (-i)) := unI fun _ _ _ _ _ q => neg_int q
end

def scal : V → V → Bool
  | .non, .non => true | .non, .int _ => true | .int _, .non => true | .non, .bl _ => true | .bl _, .non => true | .non, .str _ => true | .str _, .non => true
  | .int _, .int _ => true | .bl _, .bl _ => true | .str _, .str _ => true | .byt _, .byt _ => true
  | .int _, .str _ => true | .str _, .int _ => true | .bl _, .str _ => true | .str _, .bl _ => true
  | _, _ => false
def rEq : R2 := fun x y H Q => scal x y = true ∧ Q (.bl (decide (x = y))) H
def rNe : R2 := fun x y H Q => scal x y = true ∧ Q (.bl (!decide (x = y))) H

theorem dec_int {i j : Int} : decide (V.int i = V.int j) = (i == j) := by
  rw [Bool.eq_iff_iff]
  simp
theorem dec_bl {i j : Bool} : decide (V.bl i = V.bl j) = (i == j) := by
  rw [Bool.eq_iff_iff]
  simp
theorem dec_str {i j : Str} : decide (V.str i = V.str j) = (i == j) := by
  rw [Bool.eq_iff_iff]
  simp
theorem dec_byt {i j : Array UInt8} : decide (V.byt i = V.byt j) = (i.toList == j.toList) := by
  rw [Bool.eq_iff_iff]
  cases i
  cases j
  simp

section
variable {X : Cx} {a b c : Expr} {ta tb tc : TE} {pos : Pos}
theorem fin_bl {pins : List (Addr × Obj)} {σ : St} {H : Hp} {s : Shared} {Q : VK} {k k' : Bool} (I : Inv X pins σ H s) (q : Q (.bl k) H) (e : k = k') : EP X pins σ Q (.bool k') s := by
  subst e
  exact ⟨.bl k, H, I, rfl, q⟩
theorem op_eq : OpR X (compareOp .Eq) rEq := by
  intro pins s σ H x y v u Q I rx ry h
  obtain ⟨hs, q⟩ := h
  cases x with
  | non =>
    cases rx
    cases y with
    | non => cases ry; exact PySem.EqNone.eq_none_none (fin_bl I q (by simp))
    | bl j => cases ry; exact PySem.EqNone.eq_none_bool (fin_bl I q (by simp))
    | int j => obtain ⟨t', rfl⟩ := ry; exact PySem.EqNone.eq_none_int (fin_bl I q (by simp))
    | str j => obtain ⟨t', rfl⟩ := ry; exact PySem.EqNone.eq_none_str (fin_bl I q (by simp))
    | _ => exact absurd (show false = true from hs) Bool.false_ne_true
  | bl i =>
    cases rx
    cases y with
    | non => cases ry; exact PySem.EqNone.eq_bool_none (fin_bl I q (by simp))
    | bl j => cases ry; exact eq_bool (fin_bl I q dec_bl)
    | str j => obtain ⟨t', rfl⟩ := ry; exact PySem.EqMixed.eq_bool_str (fin_bl I q (by simp))
    | _ => exact absurd (show false = true from hs) Bool.false_ne_true
  | int i =>
    obtain ⟨t, rfl⟩ := rx
    cases y with
    | non => cases ry; exact PySem.EqNone.eq_int_none (fin_bl I q (by simp))
    | int j => obtain ⟨t', rfl⟩ := ry; exact eq_int (fin_bl I q dec_int)
    | str j => obtain ⟨t', rfl⟩ := ry; exact PySem.EqMixed.eq_int_str (fin_bl I q (by simp))
    | _ => exact absurd (show false = true from hs) Bool.false_ne_true
  | str i =>
    obtain ⟨t, rfl⟩ := rx
    cases y with
    | non => cases ry; exact PySem.EqNone.eq_str_none (fin_bl I q (by simp))
    | bl j => cases ry; exact PySem.EqMixed.eq_str_bool (fin_bl I q (by simp))
    | int j => obtain ⟨t', rfl⟩ := ry; exact PySem.EqMixed.eq_str_int (fin_bl I q (by simp))
    | str j => obtain ⟨t', rfl⟩ := ry; exact eq_str (fin_bl I q dec_str)
    | _ => exact absurd (show false = true from hs) Bool.false_ne_true
  | byt i =>
    obtain ⟨t, rfl⟩ := rx
    cases y with
    | byt j => obtain ⟨t', rfl⟩ := ry; exact PySem.W.eq_bytes (fin_bl I q dec_byt)
    | _ => exact absurd (show false = true from hs) Bool.false_ne_true
  | _ => cases y <;> exact absurd (show false = true from hs) Bool.false_ne_true
theorem op_ne : OpR X (compareOp .NotEq) rNe := by
  intro pins s σ H x y v u Q I rx ry h
  obtain ⟨hs, q⟩ := h
  cases x with
  | non =>
    cases rx
    cases y with
    | non => cases ry; exact PySem.EqNone.ne_none_none (fin_bl I q (by simp))
    | bl j => cases ry; exact PySem.EqNone.ne_none_bool (fin_bl I q (by simp))
    | int j => obtain ⟨t', rfl⟩ := ry; exact PySem.EqNone.ne_none_int (fin_bl I q (by simp))
    | str j => obtain ⟨t', rfl⟩ := ry; exact PySem.EqNone.ne_none_str (fin_bl I q (by simp))
    | _ => exact absurd (show false = true from hs) Bool.false_ne_true
  | bl i =>
    cases rx
    cases y with
    | non => cases ry; exact PySem.EqNone.ne_bool_none (fin_bl I q (by simp))
    | bl j => cases ry; exact ne_bool (fin_bl I q (congrArg not dec_bl))
    | str j => obtain ⟨t', rfl⟩ := ry; exact PySem.EqMixed.ne_bool_str (fin_bl I q (by simp))
    | _ => exact absurd (show false = true from hs) Bool.false_ne_true
  | int i =>
    obtain ⟨t, rfl⟩ := rx
    cases y with
    | non => cases ry; exact PySem.EqNone.ne_int_none (fin_bl I q (by simp))
    | int j => obtain ⟨t', rfl⟩ := ry; exact ne_int (fin_bl I q (congrArg not dec_int))
    | str j => obtain ⟨t', rfl⟩ := ry; exact PySem.EqMixed.ne_int_str (fin_bl I q (by simp))
    | _ => exact absurd (show false = true from hs) Bool.false_ne_true
  | str i =>
    obtain ⟨t, rfl⟩ := rx
    cases y with
    | non => cases ry; exact PySem.EqNone.ne_str_none (fin_bl I q (by simp))
    | bl j => cases ry; exact PySem.EqMixed.ne_str_bool (fin_bl I q (by simp))
    | int j => obtain ⟨t', rfl⟩ := ry; exact PySem.EqMixed.ne_str_int (fin_bl I q (by simp))
    | str j => obtain ⟨t', rfl⟩ := ry; exact ne_str (fin_bl I q (congrArg not dec_str))
    | _ => exact absurd (show false = true from hs) Bool.false_ne_true
  | byt i =>
    obtain ⟨t, rfl⟩ := rx
    cases y with
    | byt j => obtain ⟨t', rfl⟩ := ry; exact PySem.W.ne_bytes (fin_bl I q (congrArg not dec_byt))
    | _ => exact absurd (show false = true from hs) Bool.false_ne_true
  | _ => cases y <;> exact absurd (show false = true from hs) Bool.false_ne_true

theorem op_lt : OpR X (compareOp .Lt) (rI0 fun i j => .bl (decide (i < j))) := opB0 fun _ _ _ _ _ _ _ q => lt_int q
theorem op_le : OpR X (compareOp .LtE) (rI0 fun i j => .bl (decide (i ≤ j))) := opB0 fun _ _ _ _ _ _ _ q => le_int q
theorem op_gt : OpR X (compareOp .Gt) (rI0 fun i j => .bl (decide (j < i))) := opB0 fun _ _ _ _ _ _ _ q => gt_int q
theorem op_ge : OpR X (compareOp .GtE) (rI0 fun i j => .bl (decide (j ≤ i))) := opB0 fun _ _ _ _ _ _ _ q => ge_int q
theorem nomark (b : Expr) {op : CmpOp} (h : op ≠ .In := by decide) (h2 : op ≠ .NotIn := by decide) : behindInMarks op b = false := by
  have e1 : (op == CmpOp.In) = false := by cases op <;> first | rfl | exact absurd rfl h
  have e2 : (op == CmpOp.NotIn) = false := by cases op <;> first | rfl | exact absurd rfl h2
  cases b <;> simp [behindInMarks, e1, e2]
theorem pe_cmpR {op : CmpOp} {r : R2} (ho : OpR X (compareOp op) r) (ha : PE X a ta) (hb : PE X b tb) (hm : behindInMarks op b = false) : PE X (.Compare a [op] [b] pos) (tOp r ta tb) := by
  intro pins s σ H Q I h
  exact wpAny_Compare1 (binT ha hb I h fun v u s2 x y H2 I2 rx ry q => ho pins s2 σ H2 x y v u Q I2 rx ry q) hm
def tTest (t : TE) : TT := fun σ H Q => t σ H fun x H' => ∃ k, x = .bl k ∧ Q k H'
theorem pt_cmpR {op : CmpOp} {r : R2} (ho : OpR X (compareOp op) r) (ha : PE X a ta) (hb : PE X b tb) (hm : behindInMarks op b = false) : PT X (.Compare a [op] [b] pos) (tTest (tOp r ta tb)) := by
  intro pins s σ H Q I h
  refine wpAny_isTrue_Compare1 (thn (ha pins s σ H _ I h) fun v s1 ⟨x, H1, I1, r1, q1⟩ => thn (hb pins s1 σ H1 _ I1 q1) fun u s2 ⟨y, H2, I2, r2, q2⟩ =>
    thn (ho pins s2 σ H2 x y v u _ I2 r1 r2 q2) fun c s3 ⟨z, H3, I3, r3, k, e, q3⟩ => ?_) hm
  subst e
  cases r3
  exact wpAny_truthy_bool ⟨H3, I3, q3⟩
theorem line63 : (sizeLine : Nat) < 2 ^ 63 := by rw [sizeLine_eq]; decide
theorem vals1 {x : V} {us : List Value} (r : Vals [x] us) : ∃ u, us = [u] ∧ RelV x u := by
  cases r with
  | cons r1 r2 => cases r2; exact ⟨_, rfl, r1⟩
theorem vals2 {x y : V} {us : List Value} (r : Vals [x, y] us) : ∃ u w', us = [u, w'] ∧ RelV x u ∧ RelV y w' := by
  cases r with
  | cons r1 r2 =>
    cases r2 with
    | cons r3 r4 => cases r4; exact ⟨_, _, rfl, r1, r3⟩
theorem call_max2 (hc : X.calm = true) : CallR X (.builtin "max") (fun xs H Q => ∃ i j, xs = [.int i, .int j] ∧ Q (.int (if j > i then j else i)) H) := by
  intro pins s σ H xs us Q I r h
  obtain ⟨i, j, rfl, q⟩ := h
  obtain ⟨u, w', rfl, ⟨t, rfl⟩, ⟨t', rfl⟩⟩ := vals2 r
  refine max_two_ints (I.ok.hd hc) fun h' tk k => ⟨_, H, I.kept k, ?_, q⟩
  by_cases hj : j > i
  · rw [if_pos hj, if_pos hj]; exact ⟨_, rfl⟩
  · rw [if_neg hj, if_neg hj]; exact ⟨_, rfl⟩
theorem call_min2 (hc : X.calm = true) : CallR X (.builtin "min") (fun xs H Q => ∃ i j, xs = [.int i, .int j] ∧ Q (.int (if j < i then j else i)) H) := by
  intro pins s σ H xs us Q I r h
  obtain ⟨i, j, rfl, q⟩ := h
  obtain ⟨u, w', rfl, ⟨t, rfl⟩, ⟨t', rfl⟩⟩ := vals2 r
  refine min_two_ints (I.ok.hd hc) fun h' tk k => ⟨_, H, I.kept k, ?_, q⟩
  by_cases hj : j < i
  · rw [if_pos hj, if_pos hj]; exact ⟨_, rfl⟩
  · rw [if_neg hj, if_neg hj]; exact ⟨_, rfl⟩
end
end L2

namespace L2
open PySem PySem.Spec PyProof.Rows

section
variable {prog : Program} {w : World} {A : Around} {E : Value → Shared → Prop} {s : Shared} {K : PySem.W.Frag} {x dx C f : Addr} {mA : Str → Option Value} {name : Str} {v : Value}

end

section
variable {P : Program} {w : World} {H H' : Hp} {h h' : Heap} {a C dx : Addr} {fs fs' : List (Str × V)}
end

section
variable {X : Cx} {pins : List (Addr × Obj)} {σ : St} {H : Hp} {s : Shared} {a C dx : Addr} {fs : List (Str × V)} {f : Str} {v : V} {A : Around} {E : Value → Shared → Prop}

end

section
variable {X : Cx} {o e value : Expr} {f : Str} {pos pos' tpos : Pos} {ta tv : TE}
end

section
variable {X : Cx} {pins : List (Addr × Obj)} {σ : St} {H : Hp} {s : Shared} {A : Around} {E : Value → Shared → Prop} {Q : Value → Shared → Prop} {c : Value} {b : Bool}
end
end L2

namespace L2
open PySem PySem.Spec PyProof.Rows

structure Room (k : Nat) (A : Around) : Prop where
  hd : A.handled = none
  dp : A.depth + 3 * k + 5 < recursionLimit
  un : A.units + 16 * k + 200 < cLine
theorem Room.mono {j k : Nat} {A : Around} (r : Room k A) (h : j ≤ k) : Room j A := ⟨r.hd, by have := r.dp; (first | lia | omega), by have := r.un; (first | lia | omega)⟩
theorem Room.deeper {k : Nat} {A : Around} (r : Room (k + 1) A) (env : Env) : Room k (A.deeper env) :=
  ⟨r.hd, by have := r.dp; show A.depth + 1 + 3 * k + 5 < _; (first | lia | omega), by have := r.un; show A.units + 3 + 16 * k + 200 < _; (first | lia | omega)⟩
theorem Room.depth {k : Nat} {A : Around} (r : Room k A) : A.depth < recursionLimit := by have := r.dp; (first | lia | omega)
theorem Room.units {k : Nat} {A : Around} (r : Room k A) : A.units + 64 < cLine := by have := r.un; (first | lia | omega)
def tNil : TA := fun _ H Q => Q [] H
def tCons (ta : TE) (tr : TA) : TA := fun σ H Q => ta σ H fun x H1 => tr σ H1 fun xs H2 => Q (x :: xs) H2
section
variable {X : Cx} {e : Expr} {es : List Expr} {te : TE} {t : TA} {pos : Pos}
theorem pa_nil : PA X [] tNil := fun _ _ _ _ H Q I h => Calls.spliced_nil ⟨[], H, I, .nil, h⟩
theorem pa_cons (ha : PE X e te) (hr : PA X es t) (hs : starEach (e :: es) X.env = (false, eval e X.env) :: starEach es X.env := by rfl) : PA X (e :: es) (tCons te t) := by
  intro pos pins s σ H Q I h
  rw [hs]
  show wpAny _ _ (spliced ((false, eval e X.env) :: backTo pos (starEach es X.env))) _ _ s
  refine Calls.spliced_cons (thn (ha pins s σ H _ I h) fun u s1 ⟨x, H1, I1, r1, q1⟩ => ?_)
  exact thn (hr pos pins s1 σ H1 _ I1 q1) fun us s2 ⟨xs, H2, I2, r2, q2⟩ => ⟨x :: xs, H2, I2, .cons r1 r2, q2⟩

def tTup (t : TA) : TE := fun σ H Q => t σ H fun xs H1 => xs.length ≤ sizeLine ∧ ∀ p, H1 p = none → Q (.ref p) (upd H1 p (.tup xs))
def tLst (t : TA) : TE := fun σ H Q => t σ H fun xs H1 => xs.length ≤ sizeLine ∧ ∀ p, H1 p = none → Q (.ref p) (upd H1 p (.lst xs))
theorem pe_tup {x1} (h : PA X es t) : PE X (.Tuple es x1 pos) (tTup t) := by
  intro pins s σ H Q I hq
  refine wpAny_Tuple_spliced (thn (h pos pins s σ H _ I hq) fun us s1 ⟨xs, H1, I1, r, z, q⟩ => ⟨by rw [← r.length]; exact z, ?_⟩)
  have hf : H1 s1.heap.objs.size = none := I1.hok.fresh (Nat.le_refl _)
  refine ⟨.ref s1.heap.objs.size, upd H1 s1.heap.objs.size (.tup xs), I1.laid (t' := s1.toks) (fun b u e => Heap.get?_push_of_some _ e) (Nat.le_refl _) ?_, rfl, q _ hf⟩
  exact ⟨z, us, r, ⟨_, Heap.get?_push_size _ rfl, rfl, _, rfl⟩⟩
theorem pe_lst (h : PA X es t) : PE X (.List es pos) (tLst t) := by
  intro pins s σ H Q I hq
  refine wpAny_List_spliced (thn (h pos pins s σ H _ I hq) fun us s1 ⟨xs, H1, I1, r, z, q⟩ => ⟨by rw [← r.length]; exact z, ?_⟩)
  have hf : H1 s1.heap.objs.size = none := I1.hok.fresh (Nat.le_refl _)
  refine ⟨.ref s1.heap.objs.size, upd H1 s1.heap.objs.size (.lst xs), I1.laid (t' := s1.toks) (fun b u e => Heap.get?_push_of_some _ e) (Nat.le_refl _) ?_, rfl, q _ hf⟩
  exact ⟨z, us, 0, r, Heap.get?_push_size _ rfl⟩
end

abbrev Sp := List V → Hp → VK → XK → Prop
abbrev CXT := List Env → Hp → Shared → XK → Value → Shared → Prop

structure Env0 (P : Program) (w : World) (K : PySem.W.Frag) (mg : Str → Option Value) (base : Heap) (A : Around) (outer : List Env) (s : Shared) (H : Hp) : Prop where
  frames : A.frames = some outer
  mod : Mod K mg base
  bs : ∀ b o, base.get? b = some o → s.heap.get? b = some o ∧ H b = none
  bsz : base.objs.size ≤ s.heap.objs.size
  funs : s.heap.FunFrames base outer
  frf : ∀ b ∈ frs outer, H b = none
  hok : HOk P w H s.heap
  bare : AllBare s.gens
def CE (outer : List Env) (P : Program) (w : World) (H : Hp) (s : Shared) (Q : VK) (u : Value) (s' : Shared) : Prop :=
  ∃ v H', s'.os = s.os ∧ AllBare s'.gens ∧ Un (frs outer) [] H H' s.heap s'.heap ∧ HOk P w H' s'.heap ∧ RelV v u ∧ Q v H'
def CR (CX : CXT) (outer : List Env) (P : Program) (w : World) (H : Hp) (s : Shared) (Q : VK) (E : XK) (r : Result) (s' : Shared) : Prop :=
  match r with
  | .ok (.ret u) => CE outer P w H s Q u s'
  | .ok _ => False
  | .error e => CX outer H s E e s'
structure FnOk (P : Program) (w : World) (K : PySem.W.Frag) (mg : Str → Option Value) (base : Heap) (CX : CXT) (k : Nat) (f : Addr) (fd : FuncData) (ps : List Str) (sp : Sp) : Prop where
  len : ∀ vs H Q E, sp vs H Q E → vs.length = ps.length
  run : ∀ (A : Around) (outer : List Env) (s : Shared) (H : Hp) (args : Args) (us : List Value) (vs : List V) (Q : VK) (E : XK), Room k A → Env0 P w K mg base A outer s H → BindsTo s fd args (ps.zip us) → Vals vs us → sp vs H Q E →
    codeAny (model P w) A (.call (.ref f) args) (CR CX outer P w H s Q E) s
section
variable {X : Cx} {pins : List (Addr × Obj)} {σ : St} {H : Hp} {s s' : Shared}
theorem Inv.env0 (I : Inv X pins σ H s) : Env0 X.prog X.w X.K X.mg X.base X.A X.stack s H :=
  ⟨I.ok.frames, I.ok.mod, I.bs, Nat.le_trans I.ok.bsz I.sz, I.stack, I.stkFree, I.hok, I.bare⟩
theorem Inv.after {Q : VK} {u : Value} (I : Inv X pins σ H s) (h : CE X.stack X.prog X.w H s Q u s') : EP X pins σ Q u s' := by
  obtain ⟨v, H', os, bare, un, hok, r, q⟩ := h
  obtain ⟨hh, g, d, t, os'⟩ := s'
  obtain rfl : os' = s.os := os
  exact ⟨v, H', I.call (h' := hh) (g' := g) (d' := d) (t' := t) (ch := []) un hok bare (fun b z => absurd z (by simp)), r, q⟩
end

def tCall (sp : Sp) (dvs : List V) (E : XK) (t : TA) : TE := fun σ H Q => t σ H fun vs H1 => sp (vs ++ dvs) H1 Q E
def Binds (K : PySem.W.Frag) (fd : FuncData) (ps : List Str) (ds : List Value) : Prop :=
  ∀ (s : Shared) (us : List Value), K.In s.heap → (us ++ ds).length = ps.length → BindsTo s fd ⟨us, []⟩ (ps.zip (us ++ ds))
theorem Binds.all {K : PySem.W.Frag} {fd : FuncData} {ps : List Str} (h : ∀ us : List Value, us.length = ps.length → bindArgs fd ⟨us, []⟩ = pure (ps.zip us)) : Binds K fd ps [] := fun s us _ hl => by
  rw [List.append_nil] at hl ⊢
  exact .of_eq (h us hl)

def Passes (CX : CXT) (X : Cx) (E : XK) : Prop := ∀ (pins : List (Addr × Obj)) (σ : St) (H : Hp) (s : Shared) (e : Value) (s' : Shared), Inv X pins σ H s → CX X.stack H s E e s' → X.xe e s'

section
variable {X : Cx} {CX : CXT} {k : Nat} {f C : Addr} {fd : FuncData} {ps : List Str} {sp : Sp} {dvs : List V} {ds : List Value} {E : XK} {x m : Str} {p pos apos : Pos} {e o : Expr} {es : List Expr} {ta : TE} {t : TA}

theorem run_fn {pins : List (Addr × Obj)} {σ : St} {H : Hp} {s : Shared} {Q : VK} {us : List Value} {vs : List V} (F : FnOk X.prog X.w X.K X.mg X.base CX k f fd ps sp) (hr : Room k X.A) (hb : Binds X.K fd ps ds) (hd : Vals dvs ds) (hx : Passes CX X E)
    (I : Inv X pins σ H s) (r : Vals vs us) (h : sp (vs ++ dvs) H Q E) : wpAny (model X.prog X.w) X.A (call (.ref f) us) (EP X pins σ Q) X.xe s := by
  have r2 : Vals (vs ++ dvs) (us ++ ds) := r.append hd
  have hl : (us ++ ds).length = ps.length := by rw [← r2.length]; exact F.len _ _ _ _ h
  refine wpAny_call (codeAny_mono (F.run X.A X.stack s H ⟨us, []⟩ (us ++ ds) (vs ++ dvs) Q E hr I.env0 (hb s us I.kIn hl) r2 h) fun r s' hq => ?_)
  cases r with
  | error e => exact hx pins σ H s e s' I hq
  | ok fl =>
    cases fl with
    | ret u => exact I.after hq
    | next => exact False.elim hq
    | brk => exact False.elim hq
    | cont => exact False.elim hq

theorem pe_call (F : FnOk X.prog X.w X.K X.mg X.base CX k f fd ps sp) (hr : Room k X.A) (hg : Gl X x) (hm : X.mg x = some (.ref f)) (hk : PySem.W.keepIn X.K (.ref f) = true) (hb : Binds X.K fd ps ds) (hd : Vals dvs ds) (hx : Passes CX X E)
    (ha : PA X (e :: es) t) (hdb : (x == ("__debug__" : Str)) = false := by decide) (he : starEach (e :: es) X.env = (false, eval e X.env) :: starEach es X.env := by rfl) (hpl : (backTo pos (starEach es X.env)).any (·.1) = false := by rfl) :
    PE X (.Call (.Name x p) (e :: es) [] pos) (tCall sp dvs E t) := by
  intro pins s σ H Q I h
  refine wpAny_Call_Name_kw (ld_glob I hg hm ?_ hdb)
  refine PySem.W.callWith_K (h₀ := X.base) I.ok.mod.kin hk (thn (ha pos pins s σ H _ I h) fun us s1 ⟨vs, H1, I1, r, q⟩ => ⟨I1.kIn, ?_⟩) he hpl
  exact run_fn F hr hb hd hx I1 r q
end

section
variable {X : Cx} {CX : CXT} {k : Nat} {f C : Addr} {fd : FuncData} {ps ks : List Str} {sp : Sp} {E : XK} {x m : Str} {p pos apos kpos : Pos} {e o : Expr} {es : List Expr} {kws : List Keyword} {te ta : TE} {t tk : TA} {nm : Option Str}
variable {g : List Value → List Value → List Value} {gV : List V → List V → List V}
end

structure FnScope (N P : List Str) (sc : Scope) : Prop where
  kind : sc.kind = .function
  co : sc.isCoroutine = false
  gen : sc.isGenerator = false
  nd : N.Nodup
  pre : N.take P.length = P
  par : ∀ x ∈ P, sc.names.lookup x = some .local ∨ sc.names.lookup x = some .cell
  nofree : ∀ y ∈ sc.names, y.2 ≠ .free

theorem bindL_out {kindOf : Str → Option NameKind} {x : Str} : ∀ {binds : List (Str × Value)} {m : Str → Option Value}, (∀ v, (x, v) ∉ binds) → bindL kindOf binds m x = m x
  | [], _, _ => rfl
  | (n, v) :: r, m, h => by
    unfold bindL
    rw [bindL_out fun w hw => h w (List.mem_cons_of_mem _ hw)]
    split
    · have : x ≠ n := by rintro rfl; exact h v List.mem_cons_self
      simp [this]
    · rfl
theorem bindC_out {kindOf : Str → Option NameKind} {x : Str} : ∀ {binds : List (Str × Value)} {m : Str → Option Value}, (∀ v, (x, v) ∉ binds) → bindC kindOf binds m x = m x
  | [], _, _ => rfl
  | (n, v) :: r, m, h => by
    unfold bindC
    rw [bindC_out fun w hw => h w (List.mem_cons_of_mem _ hw)]
    split
    · rfl
    · have : x ≠ n := by rintro rfl; exact h v List.mem_cons_self
      simp [this]
theorem bindL_get {kindOf : Str → Option NameKind} {x : Str} {v : Value} : ∀ {P : List Str} {vs : List Value} {i : Nat} {m : Str → Option Value}, P.Nodup → P[i]? = some x → vs[i]? = some v → kindOf x = some .local →
    bindL kindOf (P.zip vs) m x = some v
  | [], _, _, _, _, h, _, _ => by simp at h
  | _ :: _, [], _, _, _, _, h, _ => by simp at h
  | p :: P, w :: vs, 0, m, nd, h1, h2, hk => by
    simp at h1 h2; subst h1; subst h2
    show bindL kindOf ((p, w) :: P.zip vs) m p = _
    unfold bindL
    rw [bindL_out fun v hv => (List.nodup_cons.mp nd).1 (List.of_mem_zip hv).1, if_pos hk]
    simp
  | p :: P, w :: vs, i + 1, m, nd, h1, h2, hk => by
    show bindL kindOf ((p, w) :: P.zip vs) m x = _
    unfold bindL
    exact bindL_get (i := i) (List.nodup_cons.mp nd).2 (by simpa using h1) (by simpa using h2) hk
theorem bindC_get {kindOf : Str → Option NameKind} {x : Str} {v : Value} : ∀ {P : List Str} {vs : List Value} {i : Nat} {m : Str → Option Value}, P.Nodup → P[i]? = some x → vs[i]? = some v → kindOf x ≠ some .local →
    bindC kindOf (P.zip vs) m x = some v
  | [], _, _, _, _, h, _, _ => by simp at h
  | _ :: _, [], _, _, _, _, h, _ => by simp at h
  | p :: P, w :: vs, 0, m, nd, h1, h2, hk => by
    simp at h1 h2; subst h1; subst h2
    show bindC kindOf ((p, w) :: P.zip vs) m p = _
    unfold bindC
    rw [bindC_out fun v hv => (List.nodup_cons.mp nd).1 (List.of_mem_zip hv).1, if_neg hk]
    simp
  | p :: P, w :: vs, i + 1, m, nd, h1, h2, hk => by
    show bindC kindOf ((p, w) :: P.zip vs) m x = _
    unfold bindC
    exact bindC_get (i := i) (List.nodup_cons.mp nd).2 (by simpa using h1) (by simpa using h2) hk

def start (N : List Str) (vs : List V) : St := vs.map some ++ List.replicate (N.length - vs.length) none

def cxOf (CX : CXT) (P : Program) (w : World) (K : PySem.W.Frag) (mg : Str → Option Value) (base : Heap) (N : List Str) (qual : Str) (scope : Scope) (f : Addr) (cd : Value) (A : Around) (outer : List Env) (s : Shared) (H : Hp) (E : XK) : Cx where
  prog := P
  w := w
  K := K
  mg := mg
  base := base
  A := A.deeper (envOfC qual scope s.heap.objs.size f cd)
  N := N
  s₀ := s
  H₀ := H
  env := envOfC qual scope s.heap.objs.size f cd
  outer := outer
  stack := envOfC qual scope s.heap.objs.size f cd :: outer
  ex := []
  calm := true
  fn := fun _ => true
  pn := []
  xe := fun e s' => wpAny (model P w) (A.deeper (envOfC qual scope s.heap.objs.size f cd)) (leaving (envOfC qual scope s.heap.objs.size f cd) e) (fun _ s'' => CX outer H s E e s'') (fun e' s'' => CX outer H s E e' s'') s'

theorem cell_has {sc : Scope} {n : Nat} {x : Str} (h : sc.names.lookup x = some .cell) : ∃ c, (cellsFrom n sc.names []).lookup x = some c := by
  have q := PySem.W.cellsFrom_some sc.names n [] (.inl h)
  exact Option.isSome_iff_exists.mp q

theorem inv_start {CX : CXT} {P : Program} {w : World} {K : PySem.W.Frag} {mg : Str → Option Value} {base : Heap} {N ps : List Str} {qual : Str} {scope : Scope} {f : Addr} {cd : Value} {A : Around} {outer : List Env} {s s1 : Shared} {H : Hp} {E : XK} {us : List Value} {vs : List V}
    (S : FnScope N ps scope) (hd : A.handled = none) (e0 : Env0 P w K mg base A outer s H) (hl : vs.length = ps.length) (r : Vals vs us)
    (x : InCallC s s.heap.objs.size (bindL (envOfC qual scope s.heap.objs.size f cd).kindOf (ps.zip us) fun _ => none) (cellsFrom (s.heap.objs.size + 1) scope.names []) (bindC (envOfC qual scope s.heap.objs.size f cd).kindOf (ps.zip us) fun _ => none) s1) :
    Inv (cxOf CX P w K mg base N qual scope f cd A outer s H E) [] (start N vs) H s1 := by
  have hpl : ps.length ≤ N.length := by have := congrArg List.length S.pre; rw [List.length_take] at this; (first | lia | omega)
  obtain ⟨h1, tk, rfl, hk⟩ := x.done
  have noA : ∀ b : Addr, b ∉ (cxOf CX P w K mg base N qual scope f cd A outer s H E).ex := fun b z => absurd (show b ∈ ([] : List Addr) from z) (by simp)
  refine ⟨⟨e0.mod, S.kind, rfl, rfl, Nat.le_refl _, fun y z c h1 h2 => ?_, fun y hy => ?_, fun y c _ h => ?_, fun _ => hd, Around.frames_deeper e0.frames, .inr ⟨rfl, rfl⟩, fun b z => absurd z (noA b), e0.bs, e0.bsz, fun b _ _ => noA b, fun b z => absurd z (noA b), e0.funs, e0.frf⟩,
    rfl, e0.bare, Un.kept hk, ⟨_, x.toInCall.ns, fun i y v h1 h2 h3 => ?_⟩, fun y c h => ⟨_, x.cell y c h⟩, e0.hok.fresh (Nat.le_refl _), fun y c h => ?_, fun p hp => absurd (show p ∈ ([] : List (Addr × Obj)) from hp) (by simp), e0.hok.kept hk, ?_⟩
  · exact name_of_addr x.apart (PySem.mem_of_lookup h1) (PySem.mem_of_lookup h2)
  · have hy : scope.names.lookup y = some .cell ∨ scope.names.lookup y = some .free := hy
    rcases hy with hy | hy
    · exact cell_has hy
    · exact absurd rfl (S.nofree _ (PySem.mem_of_lookup hy))
  · exact Nat.le_of_lt (x.above y c (PySem.mem_of_lookup h))
  · have hi : i < vs.length := by
      unfold start at h2
      by_cases hi : i < vs.length
      · exact hi
      · rw [List.getElem?_append_right (by simpa using hi)] at h2
        rw [List.getElem?_replicate] at h2
        split at h2 <;> cases h2
    have ha : vs[i]? = some v := by
      unfold start at h2
      rw [List.getElem?_append_left (by simpa using hi), List.getElem?_map] at h2
      cases e : vs[i]? with
      | none => rw [e] at h2; cases h2
      | some a => rw [e] at h2; cases h2; rfl
    obtain ⟨u, hu, rv⟩ := r.get ha
    have hp : ps[i]? = some y := by
      rw [← S.pre, List.getElem?_take_of_lt (by (first | lia | omega))]; exact h1
    have ndP : ps.Nodup := by rw [← S.pre]; exact S.nd.sublist (List.take_sublist _ _)
    refine ⟨u, rv, ?_⟩
    rcases S.par y (List.mem_of_getElem? hp) with k | k
    · exact .inl ⟨k, bindL_get ndP hp hu k⟩
    · obtain ⟨c, e⟩ := cell_has (n := s.heap.objs.size + 1) k
      refine .inr ⟨.inl k, c, e, ?_⟩
      have q := x.cell y c e
      rw [bindC_get ndP hp hu (by show scope.names.lookup y ≠ _; rw [k]; decide)] at q
      exact q
  · exact e0.hok.fresh (Nat.le_of_lt (x.above y c (PySem.mem_of_lookup h)))
  · unfold start
    show _ = N.length
    rw [List.length_append, List.length_map, List.length_replicate]
    (first | lia | omega)

theorem fn_of {CX : CXT} {P : Program} {w : World} {K : PySem.W.Frag} {mg : Str → Option Value} {base : Heap} {k : Nat} {f : Addr} {name qual : Str} {params : Arguments} {body : List Stmt} {scope : Scope} {dV kV doc pm cdv ct oc : Value} {an od : Option Addr}
    {osl : Array (Option Value)} {N ps : List Str} {sp : Sp} (lk : K.lookup f = some ⟨oc, od, .func (PySem.W.fnOf name qual params body scope dV kV doc pm an cdv ct), osl⟩) (hcd : PySem.W.codeIn K cdv qual = true) (S : FnScope N ps scope)
    (len : ∀ vs H Q E, sp vs H Q E → vs.length = ps.length)
    (hbody : ∀ (A : Around) (outer : List Env) (s : Shared) (H : Hp) (vs : List V) (Q : VK) (E : XK), Room k (A.deeper (envOfC qual scope s.heap.objs.size f cdv)) → sp vs H Q E →
      ∃ t, PSs (cxOf CX P w K mg base N qual scope f cdv A outer s H E) body t ∧ t { nx := fun _ H' => Q .non H', rt := Q } (start N vs) H) :
    FnOk P w K mg base CX (k + 1) f (PySem.W.fnOf name qual params body scope dV kV doc pm an cdv ct) ps sp := by
  refine ⟨len, fun A outer s H args us vs Q E hr e0 hb r hsp => ?_⟩
  have hl := len _ _ _ _ hsp
  have KX : K.In s.heap := e0.mod.kin.keeps fun b o e => (e0.bs b o e).1
  have lim : s.heap.NoLimit := e0.mod.nolimit.keeps fun b o e => (e0.bs b o e).1
  have hkind : ∀ y ∈ ps.zip us, scope.names.lookup y.1 = some .local ∨ (scope.names.lookup y.1 = some .cell ∧ ((cellsFrom (s.heap.objs.size + 1) scope.names []).lookup y.1).isSome = true) := fun ⟨n, v⟩ hy => by
    rcases S.par n (List.of_mem_zip hy).1 with q | q
    · exact .inl q
    · exact .inr ⟨q, PySem.W.cellsFrom_some _ _ _ (.inl q)⟩
  refine codeAny_call_function hr.depth (KX _ _ lk) rfl S.co S.gen rfl (PySem.W.codeRec_of KX hcd) (hb _ _ _ _ ?_)
  refine wpAny_newFunctionEnv_cells S.kind hkind fun env he s1 x => ?_
  subst he
  refine ⟨lim.keeps x.toInCall.keep, codeAny_func ?_⟩
  obtain ⟨t, ht, hq⟩ := hbody A outer s H vs Q E (hr.deeper _) hsp
  have I : Inv (cxOf CX P w K mg base N qual scope f cdv A outer s H E) [] (start N vs) H s1 := inv_start S hr.hd e0 hl r x
  refine wpAny_mono (ht [] s1 (start N vs) H _ I hq) (fun fl s' hs => ?_) fun e s' hs => hs
  have fin : ∀ {σ' : St} {H' : Hp} {v : V} {u : Value}, Inv (cxOf CX P w K mg base N qual scope f cdv A outer s H E) [] σ' H' s' → RelV v u → Q v H' → CE outer P w H s Q u s' :=
    fun {σ' H' v u} J rv q => ⟨v, H', J.os, J.bare, J.base, J.hok, rv, q⟩
  cases fl with
  | ret u =>
    obtain ⟨v, σ', H', J, rv, q⟩ := hs
    exact fin J rv q
  | next =>
    obtain ⟨σ', H', J, q⟩ := hs
    exact fin (v := V.non) (u := Value.none) J rfl q
  | brk =>
    obtain ⟨_, _, _, q⟩ := hs
    exact False.elim q
  | cont =>
    obtain ⟨_, _, _, q⟩ := hs
    exact False.elim q
end L2

namespace L2
open PySem PySem.Spec PyProof.Rows
section
variable {X : Cx} {x : Str} {p pos : Pos} {e : Expr} {es : List Expr} {t : TA} {id T : String} {r : List V → Hp → VK → Prop}

def tCB (r : List V → Hp → VK → Prop) (t : TA) : TE := fun σ H Q => t σ H fun vs H1 => r vs H1 Q
theorem pe_callB (hc : CallR X (.builtin id) r) (hg : Gl X x) (hm : X.mg x = none) (hv : bootBuiltins x = some (.builtin id)) (ha : PA X (e :: es) t) (hn : x ≠ "__name__" := by decide) (hdb : (x == ("__debug__" : Str)) = false := by decide)
    (he : starEach (e :: es) X.env = (false, eval e X.env) :: starEach es X.env := by rfl) (hpl : (backTo pos (starEach es X.env)).any (·.1) = false := by rfl) : PE X (.Call (.Name x p) (e :: es) [] pos) (tCB r t) := by
  intro pins s σ H Q I h
  refine wpAny_Call_Name_kw (ld_blt I hg hm hv ?_ hn hdb)
  exact PyProof.Rows.callWith_builtin1 (thn (ha pos pins s σ H _ I h) fun us s1 ⟨vs, H1, I1, r1, q1⟩ => hc pins s1 σ H1 vs us Q I1 r1 q1) he hpl
theorem pe_callTy (hc : CallR X (.type T) r) (hg : Gl X x) (hm : X.mg x = none) (hv : bootBuiltins x = some (.type T)) (ha : PA X (e :: es) t) (hn : x ≠ "__name__" := by decide) (hdb : (x == ("__debug__" : Str)) = false := by decide)
    (he : starEach (e :: es) X.env = (false, eval e X.env) :: starEach es X.env := by rfl) (hpl : (backTo pos (starEach es X.env)).any (·.1) = false := by rfl) : PE X (.Call (.Name x p) (e :: es) [] pos) (tCB r t) := by
  intro pins s σ H Q I h
  refine wpAny_Call_Name_kw (ld_blt I hg hm hv ?_ hn hdb)
  exact PyProof.Rows.callWith_type1 (thn (ha pos pins s σ H _ I h) fun us s1 ⟨vs, H1, I1, r1, q1⟩ => hc pins s1 σ H1 vs us Q I1 r1 q1) he hpl
end
end L2

namespace HT
open PySem PyProof.Rows

section
open PySem.SeqAt
open PySem.AutoSeq1 (wpAny_loadPart')
open PySem.MeetsSeq PySem.MeetsSeq2 PySem.MeetsSeq3

end

section
variable {prog : Program} {w : World} {A : Around} {E : Value → Shared → Prop} {s : Shared}

def sIx (n d : Nat) : Option Int → Nat
  | none => d
  | some v => if v < 0 then (v + (n : Int)).toNat else min v.toNat n
theorem sIx_none (n d : Nat) : sIx n d none = d := rfl
theorem sIx_nat (n d k : Nat) : sIx n d (some (k : Int)) = min k n := by
  show (if (k : Int) < 0 then ((k : Int) + (n : Int)).toNat else min (k : Int).toNat n) = min k n
  rw [if_neg (by (first | lia | omega)), Int.toNat_natCast]
theorem sIx_le (n d : Nat) (hd : d ≤ n) (o : Option Int) : sIx n d o ≤ n := by
  cases o with
  | none => exact hd
  | some v =>
    show (if v < 0 then (v + (n : Int)).toNat else min v.toNat n) ≤ n
    by_cases hv : v < 0
    · rw [if_pos hv]; (first | lia | omega)
    · rw [if_neg hv]; exact Nat.min_le_right _ _
theorem clip_eq (v : Int) (n d : Nat) : (if v < 0 then max (v + (n : Int)) 0 else min v (n : Int)) = ((sIx n d (some v) : Nat) : Int) := by
  show (if v < 0 then max (v + (n : Int)) 0 else min v (n : Int)) = (((if v < 0 then (v + (n : Int)).toNat else min v.toNat n) : Nat) : Int)
  by_cases hv : v < 0
  · simp only [if_pos hv]; (first | lia | omega)
  · simp only [if_neg hv]; (first | lia | omega)
theorem adjust_gen (lo hi : Option Int) (n : Nat) : Builtin.Slice.sliceAdjust lo hi 1 (n : Int) = (((sIx n 0 lo : Nat) : Int), ((sIx n n hi : Nat) : Int)) := by
  have h1 : ¬ ((1 : Int) < 0) := by (first | lia | omega)
  unfold Builtin.Slice.sliceAdjust
  simp only [h1, if_false]
  refine Prod.ext ?_ ?_
  · cases lo with
    | none => rfl
    | some v => exact clip_eq v n 0
  · cases hi with
    | none => rfl
    | some v => exact clip_eq v n n
theorem places_gen (i j : Nat) : Builtin.Slice.slicePlaces (i : Int) (j : Int) 1 = j - i := by
  unfold Builtin.Slice.slicePlaces
  have h1 : (1 : Int) > 0 := by (first | lia | omega)
  simp only [h1, if_true, Int.ediv_one]
  split <;> (first | lia | omega)
theorem slicePart_ {v : Value} {o : Option Int} {Q : Option Int → Shared → Prop} (p : IsPart v o) (h : Q o s) : wpAny (model prog w) A (Builtin.Slice.slicePartIndex v) Q E s := by
  cases p with
  | none => exact slicePart_none h
  | int i t => exact slicePart_int h
theorem sliceApplied_gen {sl : Addr} {vl vu : Value} {lo hi : Option Int} {n : Nat} {Q : Int × Int × Nat → Shared → Prop} (hs : s.heap.IsSliceOf sl vl vu .none) (pl : IsPart vl lo) (pu : IsPart vu hi)
    (h : Q (((sIx n 0 lo : Nat) : Int), 1, sIx n n hi - sIx n 0 lo) s) : wpAny (model prog w) A (Builtin.Slice.sliceApplied (.ref sl) (pure (n : Int))) Q E s := by
  obtain ⟨os, hos, hcs, hds⟩ := id hs
  unfold Builtin.Slice.sliceApplied Builtin.Slice.sliceFields
  refine wpAny_bind (wpAny_bind (wpAny_field hos hds (x := vl) rfl (wpAny_bind (wpAny_field hos hds (x := vu) rfl (wpAny_bind (wpAny_field hos hds (x := .none) rfl (wpAny_pure ?_)))))))
  refine wpAny_bind (slicePart_none ?_)
  show wpAny _ _ (if ((1 : Int) == 0) = true then _ else _) _ _ s
  rw [if_neg (by decide)]
  refine wpAny_bind (slicePart_ pl (wpAny_bind (slicePart_ pu (wpAny_bind (wpAny_pure ?_)))))
  show wpAny _ _ (match Builtin.Slice.sliceAdjust lo hi 1 (n : Int) with | (lo, hi) => pure (lo, (1 : Int), Builtin.Slice.slicePlaces lo hi 1)) _ _ s
  rw [adjust_gen lo hi n]
  show wpAny _ _ (pure (((sIx n 0 lo : Nat) : Int), (1 : Int), Builtin.Slice.slicePlaces ((sIx n 0 lo : Nat) : Int) ((sIx n n hi : Nat) : Int) 1)) _ _ s
  rw [places_gen]
  exact wpAny_pure h
theorem pick_gen (xs : Array Value) (i k : Nat) : ((List.range k).filterMap fun (m : Nat) => xs[((i : Int) + (m : Int) * 1).toNat]?).toArray = ((xs.toList.drop i).take k).toArray := by
  have e : (fun (m : Nat) => xs[((i : Int) + (m : Int) * 1).toNat]?) = fun m => xs[i + m]? := by
    funext m
    have : ((i : Int) + (m : Int) * 1).toNat = i + m := by (first | lia | omega)
    rw [this]
  rw [e]
  have := pick_run xs i k
  rw [List.filterMap_map] at this
  have e2 : ((fun x => xs[x]?) ∘ fun x => i + x) = fun m => xs[i + m]? := rfl
  rw [e2] at this
  rw [this]

theorem getItem_tuple_cut {t sl : Addr} {items : Array Value} {vl vu : Value} {lo hi : Option Int} {Q : Value → Shared → Prop} (ht : IsTup s.heap t items) (hs : s.heap.IsSliceOf sl vl vu .none) (pl : IsPart vl lo) (pu : IsPart vu hi)
    (hw : ¬ (sIx items.size 0 lo = 0 ∧ sIx items.size items.size hi = items.size))
    (h : Q (.ref s.heap.objs.size) { s with heap := s.heap.push { cls := .type "tuple", data := .seq ((items.toList.drop (sIx items.size 0 lo)).take (sIx items.size items.size hi - sIx items.size 0 lo)).toArray } })
    (hsz : items.size ≤ sizeLine) : wpAny (model prog w) A (getItem (.ref t) (.ref sl)) Q E s := by
  have htake : sizeOk (.seq ((items.toList.drop (sIx items.size 0 lo)).take (sIx items.size items.size hi - sIx items.size 0 lo)).toArray) := by
    show ((items.toList.drop (sIx items.size 0 lo)).take (sIx items.size items.size hi - sIx items.size 0 lo)).toArray.size ≤ sizeLine
    rw [List.size_toArray, List.length_take, List.length_drop, Array.length_toList]
    (first | lia | omega)
  have hj : sIx items.size items.size hi ≤ items.size := sIx_le _ _ (Nat.le_refl _) hi
  obtain ⟨os, hos, hcs, hds⟩ := id hs
  have hTs : s.TypeIs (.ref sl) "slice" := ⟨os, hos, hcs⟩
  unfold getItem
  try with_reducible refine wpAny_holding ?_
  first | refine wpAny_bind (wpAny_pure ?_) | skip
  refine wpAny_bind (wpAny_sequenceKey ht.typeIs (by decide) ?_)
  refine wpAny_bind (wpAny_callSpecial?_slot (name := Str.ofString "__getitem__") ht.typeIs PyProof.Rows.slot_tuple_getitem
    (wpAny_call_entry PyProof.Rows.slot_tuple_getitem ht.typeIs entry_tuple_getitem ?_ (args_tuple_getitem _ _)))
  show wpAny _ _ (Builtin.Tuple.tupleItemsOf (.ref t) >>= _) _ _ s
  refine wpAny_bind (tupleItemsOf_ ht ?_)
  refine wpAny_bind (wpAny_typeOf hTs ?_)
  rw [if_pos (by decide)]
  refine wpAny_bind (sliceApplied_gen hs pl pu ?_)
  have hno : ¬ ((((sIx items.size 0 lo : Nat) : Int) == 0 && (1 : Int) == 1 && (sIx items.size items.size hi - sIx items.size 0 lo) == items.size) = true) := by
    intro q
    rw [Bool.and_eq_true, Bool.and_eq_true] at q
    have q1 : ((sIx items.size 0 lo : Nat) : Int) = 0 := eq_of_beq q.1.1
    have q2 : sIx items.size items.size hi - sIx items.size 0 lo = items.size := eq_of_beq q.2
    exact hw ⟨by (first | lia | omega), by (first | lia | omega)⟩
  show wpAny _ _ (if (((sIx items.size 0 lo : Nat) : Int) == 0 && (1 : Int) == 1 && (sIx items.size items.size hi - sIx items.size 0 lo) == items.size) = true then _ else _) _ _ s
  rw [if_neg hno, pick_gen]
  first
    | exact wpAny_bind (m := Builtin.Tuple.tupleExact _) (wpAny_newObj_type (wpAny_pure ⟨_, rfl, wpAny_pure h⟩) htake)
    | exact wpAny_bind (m := Builtin.Tuple.tupleExact _) (wpAny_newObj_type (wpAny_bind (wpAny_pure (wpAny_pure ⟨_, rfl, wpAny_pure h⟩))) htake)
    | exact wpAny_bind (wpAny_bind (m := Builtin.Tuple.tupleExact _) (wpAny_newObj_type (wpAny_pure (wpAny_pure ⟨_, rfl, wpAny_pure h⟩)) htake))
    | exact wpAny_bind (wpAny_bind (m := Builtin.Tuple.tupleExact _) (wpAny_newObj_type (wpAny_pure ⟨_, rfl, wpAny_pure h⟩) htake))
end
end HT

namespace L2
open PySem PySem.Spec PyProof.Rows

abbrev TO := St → Hp → (Option Int → Hp → Prop) → Prop
def PO (X : Cx) (e : Option Expr) (t : TO) : Prop :=
  ∀ (pins : List (Addr × Obj)) (s : Shared) (σ : St) (H : Hp) (Q : Option Int → Hp → Prop), Inv X pins σ H s → t σ H Q →
    wpAny (model X.prog X.w) X.A (evalPart e X.env) (fun u s' => ∃ o H', Inv X pins σ H' s' ∧ IsPart u o ∧ Q o H') X.xe s
def tNoPart : TO := fun _ H Q => Q none H
def tPart (t : TE) : TO := fun σ H Q => t σ H fun x H1 => ∃ i, x = .int i ∧ Q (some i) H1

theorem intsAre_of {ns : List Int} : ∀ {us : List Value}, Vals (ns.map V.int) us → IntsAre us ns := by
  induction ns with
  | nil => intro us r; rw [List.map_nil] at r; cases r; exact .nil
  | cons n ns ih =>
    intro us r
    rw [List.map_cons] at r
    cases r with
    | cons r1 r2 =>
      obtain ⟨t, e⟩ := r1
      subst e
      exact .cons n t (ih r2)

section
variable {X : Cx} {e : Expr} {te : TE} {lo hi : Option Expr} {tl th : TO} {pos p2 : Pos}

theorem po_none : PO X none tNoPart := by
  intro pins s σ H Q I h
  rw [evalPart_none]
  exact wpAny_pure ⟨none, H, I, .none, h⟩
theorem po_some (h : PE X e te) : PO X (some e) (tPart te) := by
  intro pins s σ H Q I hw
  rw [evalPart_some]
  refine thn (h pins s σ H _ I hw) fun u s1 ⟨x, H1, I1, r1, q1⟩ => ?_
  obtain ⟨i, rfl, q⟩ := q1
  obtain ⟨t, rfl⟩ := r1
  exact ⟨some i, H1, I1, .int i t, q⟩

def SlR (X : Cx) (r : V → Option Int → Option Int → Hp → VK → Prop) : Prop :=
  ∀ (pins : List (Addr × Obj)) (s : Shared) (σ : St) (H : Hp) (x : V) (v vl vu : Value) (lo hi : Option Int) (sl : Addr) (Q : VK), Inv X pins σ H s → RelV x v → s.heap.IsSliceOf sl vl vu .none → IsPart vl lo → IsPart vu hi → r x lo hi H Q →
    ∃ T id, typeLookup (.type T) "__getitem__" = pure (some (.builtin id)) ∧ s.TypeIs v T ∧ wpAny (model X.prog X.w) X.A (getItem v (.ref sl)) (EP X pins σ Q) X.xe s
def tSl (r : V → Option Int → Option Int → Hp → VK → Prop) (te : TE) (tl th : TO) : TE := fun σ H Q => te σ H fun x H1 => tl σ H1 fun l H2 => th σ H2 fun u H3 => r x l u H3 Q
theorem pe_slice {r : V → Option Int → Option Int → Hp → VK → Prop} (hr : SlR X r) (he : PE X e te) (hl : PO X lo tl) (hu : PO X hi th) : PE X (.Subscript e (.Slice lo hi none p2) pos) (tSl r te tl th) := by
  intro pins s σ H Q I h
  refine Subscript_ (thn (he pins s σ H _ I h) fun v s1 ⟨x, H1, I1, r1, q1⟩ => ?_)
  refine wpAny_Slice (thn (hl pins s1 σ H1 _ I1 q1) fun vl s2 ⟨l, H2, I2, pl, q2⟩ => thn (hu pins s2 σ H2 _ I2 q2) fun vu s3 ⟨u, H3, I3, pu, q3⟩ => ?_)
  rw [evalPart_none]
  refine wpAny_pure ?_
  have I4 : Inv X pins σ H3 { s3 with heap := s3.heap.push { cls := .type "slice", data := .fields #[vl, vu, .none] } } := I3.kept (t' := s3.toks) fun b ob q => Heap.get?_push_of_some _ q
  obtain ⟨T, id, hT, ht, hg⟩ := hr pins { s3 with heap := s3.heap.push { cls := .type "slice", data := .fields #[vl, vu, .none] } } σ H3 x v vl vu l u s3.heap.objs.size Q I4 r1 (Heap.IsSliceOf.new ..) pl pu q3
  show wpAny (model X.prog X.w) X.A (subscriptTail e (.Slice lo hi none p2) v (.ref s3.heap.objs.size)) (EP X pins σ Q) X.xe { s3 with heap := s3.heap.push { cls := .type "slice", data := .fields #[vl, vu, .none] } }
  exact tail_any (ops := [.ref s3.heap.objs.size, v]) ht hT hg (by with_unfolding_all rfl)

def cutV (xs : List V) (lo hi : Option Int) : List V := (xs.drop (HT.sIx xs.length 0 lo)).take (HT.sIx xs.length xs.length hi - HT.sIx xs.length 0 lo)
theorem cutV_length (xs : List V) (lo hi : Option Int) : (cutV xs lo hi).length ≤ xs.length := by
  unfold cutV
  rw [List.length_take, List.length_drop]
  (first | lia | omega)
def rSlT (K : PySem.W.Frag) : V → Option Int → Option Int → Hp → VK → Prop := fun x lo hi H Q => ∃ a xs, x = .ref a ∧ SqT K H a xs ∧
  ¬ (HT.sIx xs.length 0 lo = 0 ∧ HT.sIx xs.length xs.length hi = xs.length) ∧ ∀ p, H p = none → Q (.ref p) (upd H p (.tup (cutV xs lo hi)))
theorem sl_tup : SlR X (rSlT X.K) := by
  intro pins s σ H x v vl vu lo hi sl Q I rx hs pl pu h
  obtain ⟨a, xs, rfl, hx, hw, q⟩ := h
  cases rx
  obtain ⟨its, r, ht, hz⟩ := I.tuple hx
  have hlen : its.toArray.size = xs.length := by rw [List.size_toArray]; exact r.length.symm
  refine ⟨"tuple", _, PyProof.Rows.slot_tuple_getitem.lookup, ht.typeIs, ?_⟩
  refine HT.getItem_tuple_cut ht hs pl pu (by rw [hlen]; exact hw) ?_ (by rw [hlen]; exact hz)
  rw [hlen]
  refine ⟨.ref s.heap.objs.size, _, I.laid (t' := s.toks) (o := .tup (cutV xs lo hi)) (fun b ob q => Heap.get?_push_of_some _ q) (Nat.le_refl _) ?_, rfl, q _ (I.hok.fresh (Nat.le_refl _))⟩
  exact ⟨Nat.le_trans (cutV_length xs lo hi) hz, _, (r.drop (HT.sIx xs.length 0 lo)).take (HT.sIx xs.length xs.length hi - HT.sIx xs.length 0 lo), IsTup.new _ _⟩

end
end L2

namespace L2
open PySem PySem.Spec PyProof.Rows

def ixN (n : Nat) (i : Int) : Option Nat := if 0 ≤ i then (if i < n then some i.toNat else none) else if -(n : Int) ≤ i then some (i + n).toNat else none
def atI {α : Type} (xs : List α) (i : Int) : Option α := (ixN xs.length i).bind fun j => xs[j]?
theorem ixN_seq {n : Nat} {i : Int} {j : Nat} (h : ixN n i = some j) : seqIndex? i n = some j ∧ j < n ∧ -(n : Int) ≤ i ∧ i < n := by
  unfold ixN at h
  by_cases h0 : 0 ≤ i
  · rw [if_pos h0] at h
    by_cases h1 : i < n
    · rw [if_pos h1] at h
      have e : i.toNat = j := Option.some.inj h
      exact ⟨by rw [seqIndex_of h0 h1, e], by (first | lia | omega), by (first | lia | omega), h1⟩
    · rw [if_neg h1] at h; cases h
  · rw [if_neg h0] at h
    by_cases h1 : -(n : Int) ≤ i
    · rw [if_pos h1] at h
      have e : (i + n).toNat = j := Option.some.inj h
      exact ⟨by rw [seqIndex_neg (by (first | lia | omega)) h1, e], by (first | lia | omega), h1, by (first | lia | omega)⟩
    · rw [if_neg h1] at h; cases h
theorem atI_get {α : Type} {xs : List α} {i : Int} {v : α} (h : atI xs i = some v) : ∃ j, seqIndex? i xs.length = some j ∧ xs[j]? = some v ∧ j < xs.length ∧ -(xs.length : Int) ≤ i ∧ i < xs.length := by
  unfold atI at h
  cases e : ixN xs.length i with
  | none => rw [e] at h; cases h
  | some j =>
    rw [e] at h
    obtain ⟨h1, h2, h3, h4⟩ := ixN_seq e
    exact ⟨j, h1, h, h2, h3, h4⟩
theorem atI_nat {α : Type} {xs : List α} {j : Nat} {v : α} (h : xs[j]? = some v) : atI xs (j : Int) = some v := by
  have hj : j < xs.length := (List.getElem?_eq_some_iff.mp h).1
  have e : ixN xs.length (j : Int) = some j := by
    unfold ixN
    rw [if_pos (by (first | lia | omega)), if_pos (by (first | lia | omega))]; simp
  unfold atI; rw [e]; exact h
def PlainIx (b : Expr) : Prop := ∀ o i, subscripted b false o i = operate [o, i] (getItem o i)
def IxR (X : Cx) (r : R2) : Prop :=
  ∀ (value slice : Expr) (pins : List (Addr × Obj)) (s : Shared) (σ : St) (H : Hp) (x y : V) (v u : Value) (Q : VK), Inv X pins σ H s → RelV x v → RelV y u → r x y H Q →
    subscripted slice false v u = operate [v, u] (getItem v u) → wpAny (model X.prog X.w) X.A (subscriptTail value slice v u) (EP X pins σ Q) X.xe s
def MtR (X : Cx) (id : String) (r : V → List V → Hp → VK → Prop) : Prop :=
  ∀ (pins : List (Addr × Obj)) (s : Shared) (σ : St) (H : Hp) (x : V) (xs : List V) (v : Value) (us : List Value) (Q : VK), Inv X pins σ H s → RelV x v → Vals xs us → r x xs H Q →
    wpAny (model X.prog X.w) X.A (call (.builtin id) (v :: us)) (EP X pins σ Q) X.xe s
section
variable {X : Cx} {a b : Expr} {ta tb : TE} {pos : Pos}
theorem pe_ix {r : R2} (hr : IxR X r) (ha : PE X a ta) (hb : PE X b tb) (hs : PlainIx b) : PE X (.Subscript a b pos) (tOp r ta tb) := by
  intro pins s σ H Q I h
  exact Subscript_ (binT ha hb I h fun v u s2 x y H2 I2 rx ry q => hr a b pins s2 σ H2 x y v u Q I2 rx ry q (hs _ _))

def rIxL (K : PySem.W.Frag) : R2 := fun x y H Q => ∃ p xs i v, x = .ref p ∧ y = .int i ∧ SqL K H p xs ∧ atI xs i = some v ∧ Q v H
def rIxT (K : PySem.W.Frag) : R2 := fun x y H Q => ∃ p xs i v, x = .ref p ∧ y = .int i ∧ SqT K H p xs ∧ atI xs i = some v ∧ Q v H
theorem ix_list : IxR X (rIxL X.K) := by
  intro value slice pins s σ H x y v u Q I rx ry h hs
  obtain ⟨p, xs, i, z, rfl, rfl, hq, he, q⟩ := h
  cases rx
  obtain ⟨t, rfl⟩ := ry
  obtain ⟨its, r, pl, hz⟩ := I.list hq
  obtain ⟨j, h1, h2, h3, h4, h5⟩ := atI_get he
  obtain ⟨w, ew, rw'⟩ := r.get h2
  have hl := r.length
  have hn := line63
  have fin : EP X pins σ Q w s := ⟨z, H, I, rw', q⟩
  by_cases h0 : 0 ≤ i
  · have hj : i.toNat = j := by
      rw [seqIndex_of h0 h5] at h1
      exact Option.some.inj h1
    exact item_listR pl.isList h0 (by (first | lia | omega)) (by rw [hj]; simpa using ew) fin hs
  · have hj : (i + (its.toArray.size : Int)).toNat = j := by
      rw [seqIndex_neg (by (first | lia | omega)) h4] at h1
      rw [List.size_toArray, ← hl]
      exact Option.some.inj h1
    exact subscriptTail_builtinR (x := w) pl.isList.typeIs slot_list_getitem.lookup
      (wpAny_getItem_list_neg (Q := fun r s' => r = w ∧ EP X pins σ Q r s') pl.isList (by (first | lia | omega)) (by rw [List.size_toArray] <;> (first | lia | omega)) (by (first | lia | omega)) (by rw [hj]; simpa using ew) ⟨rfl, fin⟩) hs
theorem ix_tup : IxR X (rIxT X.K) := by
  intro value slice pins s σ H x y v u Q I rx ry h hs
  obtain ⟨p, xs, i, z, rfl, rfl, hq, he, q⟩ := h
  cases rx
  obtain ⟨t, rfl⟩ := ry
  obtain ⟨its, r, pl, hz⟩ := I.tuple hq
  obtain ⟨j, h1, h2, h3, h4, h5⟩ := atI_get he
  obtain ⟨w, ew, rw'⟩ := r.get h2
  have hl := r.length
  have hn := line63
  have fin : EP X pins σ Q w s := ⟨z, H, I, rw', q⟩
  exact subscriptTail_builtinR (x := w) pl.typeIs slot_tuple_getitem.lookup
    (getItem_tuple (j := j) (Q := fun r s' => r = w ∧ EP X pins σ Q r s') pl (by (first | lia | omega)) (by (first | lia | omega)) (by rw [List.size_toArray, ← hl]; exact h1) (by simpa using ew) ⟨rfl, fin⟩) hs
theorem mapSeq_set (its : List Value) (n j : Nat) (u : Value) : Obj.mapSeq (·.setIfInBounds j u) { cls := .type "list", data := .seq its.toArray n } = { cls := .type "list", data := .seq (its.set j u).toArray n } := by
  simp [Obj.mapSeq]
theorem Inv.lst {pins : List (Addr × Obj)} {σ : St} {H : Hp} {s : Shared} {p : Addr} {xs : List V} (I : Inv X pins σ H s) (h : H p = some (.lst xs)) :
    ∃ (its : List Value) (n : Nat), Vals xs its ∧ s.heap.get? p = some { cls := .type "list", data := .seq its.toArray n } ∧ xs.length ≤ sizeLine := by
  obtain ⟨z, its, n, r, e⟩ := I.hok p _ h
  exact ⟨its, n, r, e, z⟩
theorem Inv.lstUpd {pins : List (Addr × Obj)} {σ : St} {H : Hp} {s : Shared} {p : Addr} {xs ys : List V} {its its' : List Value} {n n' : Nat} {f : Obj → Obj} (I : Inv X pins σ H s) (h : H p = some (.lst xs))
    (ho : s.heap.get? p = some { cls := .type "list", data := .seq its.toArray n }) (hf : f { cls := .type "list", data := .seq its.toArray n } = { cls := .type "list", data := .seq its'.toArray n' }) (r : Vals ys its') (hz : ys.length ≤ sizeLine) (t : Nat) :
    Inv X pins σ (upd H p (.lst ys)) { s with heap := s.heap.update p f, toks := t } := by
  have e : (s.heap.update p f).get? p = some { cls := .type "list", data := .seq its'.toArray n' } := by
    rw [Heap.get?_update_self f ho (by rw [hf] <;> rfl), hf]
  refine I.write (x := p) (e := p) (by rw [h]; trivial) (.inl rfl) (fun b u hb q => (Heap.get?_update_other _ _ (Ne.symm hb)).trans q) ⟨_, e⟩ ?_
  exact ⟨hz, its', n', r, e⟩
def rSetL : V → V → V → Hp → (Hp → Prop) → Prop := fun o i v H Q => ∃ p xs k j, o = .ref p ∧ i = .int k ∧ H p = some (.lst xs) ∧ ixN xs.length k = some j ∧ Q (upd H p (.lst (xs.set j v)))
theorem set_list : PSet X rSetL := by
  intro pins s σ H o i v ov iv u Q I ro ri rv h
  obtain ⟨p, xs, k, j, rfl, rfl, hp, hj, q⟩ := h
  cases ro
  obtain ⟨t, rfl⟩ := ri
  obtain ⟨its, n, r, ho, hz⟩ := I.lst hp
  obtain ⟨h1, h2, h3, h4⟩ := ixN_seq hj
  have hl := r.length
  have hn := line63
  have I' : Inv X pins σ (upd H p (.lst (xs.set j v))) { s with heap := s.heap.update p (Obj.mapSeq (·.setIfInBounds j u)) } :=
    I.lstUpd hp ho (mapSeq_set its n j u) (r.set rv j) (by rw [List.length_set]; exact hz) s.toks
  by_cases h0 : 0 ≤ k
  · have hk : k.toNat = j := by
      rw [seqIndex_of h0 h4] at h1
      exact Option.some.inj h1
    exact PySem.W.ki_setAt ho h0 (by (first | lia | omega)) (by rw [List.size_toArray, ← hl]; exact h4) (by rw [hk]; exact ⟨_, I', q⟩)
  · have hk : (k + (its.toArray.size : Int)).toNat = j := by
      rw [seqIndex_neg (by (first | lia | omega)) h3] at h1
      rw [List.size_toArray, ← hl]
      exact Option.some.inj h1
    exact PySem.W.ki_setBack ho (by (first | lia | omega)) (by rw [List.size_toArray, ← hl]; exact h3) (by (first | lia | omega)) (by rw [hk]; exact ⟨_, I', q⟩)

theorem slice_bounds (lo hi : Option Int) (n : Nat) : (sliceBounds lo hi none n).1 = ((HT.sIx n 0 lo : Nat) : Int) ∧ (sliceBounds lo hi none n).2.1 = ((HT.sIx n n hi : Nat) : Int) ∧ (sliceBounds lo hi none n).2.2 = 1 := by
  refine ⟨?_, ?_, rfl⟩
  · cases lo with
    | none => simp [sliceBounds, HT.sIx]
    | some i =>
      simp only [sliceBounds, HT.sIx, Option.getD_none, show (1 : Int) > 0 by decide, if_true]
      by_cases h : i < 0
      · simp only [h, if_true] <;> (first | lia | omega)
      · simp only [h, if_false] <;> (first | lia | omega)
  · cases hi with
    | none => simp [sliceBounds, HT.sIx]
    | some i =>
      simp only [sliceBounds, HT.sIx, Option.getD_none, show (1 : Int) > 0 by decide, if_true]
      by_cases h : i < 0
      · simp only [h, if_true] <;> (first | lia | omega)
      · simp only [h, if_false] <;> (first | lia | omega)
theorem slicePick_cut (its : List Value) (lo hi : Option Int) : slicePick its.toArray lo hi none = ((its.drop (HT.sIx its.length 0 lo)).take (HT.sIx its.length its.length hi - HT.sIx its.length 0 lo)).toArray := by
  obtain ⟨h1, h2, h3⟩ := slice_bounds lo hi its.toArray.size
  unfold slicePick
  rw [h1, h2, h3]
  simp only [sliceRange_one, pick_run, List.size_toArray] <;> rfl
def rSlL (K : PySem.W.Frag) : V → Option Int → Option Int → Hp → VK → Prop := fun x lo hi H Q => ∃ a xs, x = .ref a ∧ SqL K H a xs ∧ ∀ p, H p = none → Q (.ref p) (upd H p (.lst (cutV xs lo hi)))
theorem sl_list : SlR X (rSlL X.K) := by
  intro pins s σ H x v vl vu lo hi sl Q I rx hs pl pu h
  obtain ⟨a, xs, rfl, hx, q⟩ := h
  cases rx
  obtain ⟨its, r, ht, hz⟩ := I.list hx
  have hlen := r.length
  refine ⟨"list", _, slot_list_getitem.lookup, ht.isList.typeIs, ?_⟩
  refine wpAny_getItem_list_slice ht.isList hs pl pu .none (by simp) ?_ (by rw [List.size_toArray] <;> (first | lia | omega))
  rw [slicePick_cut, ← hlen]
  refine ⟨.ref s.heap.objs.size, _, I.laid (t' := s.toks) (o := .lst (cutV xs lo hi)) (fun b ob q => Heap.get?_push_of_some _ q) (Nat.le_refl _) ?_, rfl, q _ (I.hok.fresh (Nat.le_refl _))⟩
  exact ⟨Nat.le_trans (cutV_length xs lo hi) hz, _, 0, (r.drop (HT.sIx xs.length 0 lo)).take (HT.sIx xs.length xs.length hi - HT.sIx xs.length 0 lo), Heap.get?_push_size _ rfl⟩

def flatV : V → Bool
  | .non => true
  | .bl _ => true
  | .int _ => true
  | .str _ => true
  | _ => false
def eqV : V → V → Bool
  | .non, .non => true
  | .bl a, .bl b => a == b
  | .bl a, .int b => (if a then 1 else 0) == b
  | .int a, .bl b => a == (if b then 1 else 0)
  | .int a, .int b => a == b
  | .str a, .str b => a == b
  | _, _ => false
theorem eqAt_V {A : Around} {s : Shared} {y x : V} {u v : Value} (ry : RelV y u) (rx : RelV x v) (fy : flatV y = true) (fx : flatV x = true) : SeqAt.EqAt A s u v (eqV y x) := by
  cases y with
  | non =>
    cases ry
    cases x with
    | non => cases rx; exact SeqAt.EqAt.same _
    | bl b => cases rx; exact SeqAt.EqAt.none_bool b
    | int b => obtain ⟨t, rfl⟩ := rx; exact SeqAt.EqAt.none_int b t
    | str b => obtain ⟨t, rfl⟩ := rx; exact SeqAt.EqAt.none_str b t
    | _ => exact absurd (show false = true from fx) Bool.false_ne_true
  | bl a =>
    cases ry
    cases x with
    | non => cases rx; exact SeqAt.EqAt.bool_none a
    | bl b => cases rx; exact SeqAt.EqAt.bool_bool a b
    | int b => obtain ⟨t, rfl⟩ := rx; exact SeqAt.EqAt.bool_int a b t
    | str b => obtain ⟨t, rfl⟩ := rx; exact SeqAt.EqAt.bool_str a b t
    | _ => exact absurd (show false = true from fx) Bool.false_ne_true
  | int a =>
    obtain ⟨t', rfl⟩ := ry
    cases x with
    | non => cases rx; exact SeqAt.EqAt.int_none a t'
    | bl b => cases rx; exact SeqAt.EqAt.int_bool a t' b
    | int b => obtain ⟨t, rfl⟩ := rx; exact SeqAt.EqAt.int_int a t' b t
    | str b => obtain ⟨t, rfl⟩ := rx; exact SeqAt.EqAt.int_str a t' b t
    | _ => exact absurd (show false = true from fx) Bool.false_ne_true
  | str a =>
    obtain ⟨t', rfl⟩ := ry
    cases x with
    | non => cases rx; exact SeqAt.EqAt.str_none a t'
    | bl b => cases rx; exact SeqAt.EqAt.str_bool a t' b
    | int b => obtain ⟨t, rfl⟩ := rx; exact SeqAt.EqAt.str_int a t' b t
    | str b => obtain ⟨t, rfl⟩ := rx; exact SeqAt.EqAt.str_str a t' b t
    | _ => exact absurd (show false = true from fx) Bool.false_ne_true
  | _ => exact absurd (show false = true from fy) Bool.false_ne_true
def eqU (x : V) (u : Value) : Bool := match u with
  | .none => eqV .non x
  | .bool b => eqV (.bl b) x
  | .int i _ => eqV (.int i) x
  | .str z _ => eqV (.str z) x
  | _ => false
theorem eqU_of {x y : V} {u : Value} (r : RelV y u) (f : flatV y = true) : eqU x u = eqV y x := by
  cases y with
  | non => cases r; rfl
  | bl b => cases r; rfl
  | int i => obtain ⟨t, rfl⟩ := r; rfl
  | str z => obtain ⟨t, rfl⟩ := r; rfl
  | _ => exact absurd (show false = true from f) Bool.false_ne_true
theorem any_eqU {x : V} : ∀ {xs : List V} {us : List Value}, Vals xs us → xs.all flatV = true → us.any (eqU x) = xs.any fun y => eqV y x
  | _, _, .nil, _ => rfl
  | y :: xs, u :: us, .cons r t, f => by
    rw [List.all_cons, Bool.and_eq_true] at f
    rw [List.any_cons, List.any_cons, eqU_of r f.1, any_eqU t f.2]
theorem mem_eqAt {A : Around} {s : Shared} {x : V} {v : Value} (rx : RelV x v) (fx : flatV x = true) : ∀ {xs : List V} {us : List Value}, Vals xs us → xs.all flatV = true → ∀ u ∈ us, SeqAt.EqAt A s u v (eqU x u)
  | _, _, .nil, _ => fun u hu => by cases hu
  | y :: xs, u :: us, .cons r t, f => fun u' hu => by
    rw [List.all_cons, Bool.and_eq_true] at f
    rcases List.mem_cons.mp hu with rfl | hu
    · rw [eqU_of r f.1]; exact eqAt_V r rx f.1 fx
    · exact mem_eqAt rx fx t f.2 u' hu
def inV (x : V) (xs : List V) : Bool := xs.any fun y => eqV y x
def rIn (K : PySem.W.Frag) (neg : Bool) : R2 := fun x y H Q => ∃ p xs, y = .ref p ∧ (SqL K H p xs ∨ SqT K H p xs) ∧ flatV x = true ∧ xs.all flatV = true ∧ Q (.bl (if neg then !inV x xs else inV x xs)) H
theorem op_in_seq : OpR X (compareOp .In) (rIn X.K false) := by
  intro pins s σ H x y v u Q I rx ry h
  obtain ⟨p, xs, rfl, hq, fx, fs, q⟩ := h
  cases ry
  rcases hq with hq | hq
  · obtain ⟨its, r, pl, hz⟩ := I.list hq
    refine SeqAt.in_listAt (eqU x) pl.isList (fun w hw => mem_eqAt rx fx r fs w (by simpa using hw)) ⟨.bl _, H, I, rfl, ?_⟩
    rw [show its.toArray.any (eqU x) = its.any (eqU x) by simp, any_eqU r fs]
    exact q
  · obtain ⟨its, r, pl, hz⟩ := I.tuple hq
    refine SeqAt.in_tupleAt (eqU x) pl (fun w hw => mem_eqAt rx fx r fs w (by simpa using hw)) ⟨.bl _, H, I, rfl, ?_⟩
    rw [show its.toArray.any (eqU x) = its.any (eqU x) by simp, any_eqU r fs]
    exact q
theorem op_notIn_seq : OpR X (compareOp .NotIn) (rIn X.K true) := by
  intro pins s σ H x y v u Q I rx ry h
  obtain ⟨p, xs, rfl, hq, fx, fs, q⟩ := h
  cases ry
  rcases hq with hq | hq
  · obtain ⟨its, r, pl, hz⟩ := I.list hq
    refine SeqAt.notIn_listAt (eqU x) pl.isList (fun w hw => mem_eqAt rx fx r fs w (by simpa using hw)) ⟨.bl _, H, I, rfl, ?_⟩
    rw [show its.toArray.any (eqU x) = its.any (eqU x) by simp, any_eqU r fs]
    exact q
  · obtain ⟨its, r, pl, hz⟩ := I.tuple hq
    refine SeqAt.notIn_tupleAt (eqU x) pl (fun w hw => mem_eqAt rx fx r fs w (by simpa using hw)) ⟨.bl _, H, I, rfl, ?_⟩
    rw [show its.toArray.any (eqU x) = its.any (eqU x) by simp, any_eqU r fs]
    exact q
theorem call_len_seq : CallR X (.builtin "len") (fun xs H Q => ∃ p ys, xs = [.ref p] ∧ (SqL X.K H p ys ∨ SqT X.K H p ys) ∧ Q (.int ys.length) H) := by
  intro pins s σ H xs us Q I r h
  obtain ⟨p, ys, rfl, hq, q⟩ := h
  obtain ⟨u, rfl, rx⟩ := vals1 r
  cases rx
  have hn := line63
  rcases hq with hq | hq
  · obtain ⟨its, r', pl, hz⟩ := I.list hq
    have hlen := r'.length
    exact Calls.call_len_list pl.isList (by simp only [List.size_toArray] <;> (first | lia | omega)) ⟨.int ys.length, H, I.tok _, ⟨s.toks + 1, by rw [List.size_toArray, hlen]⟩, q⟩
  · obtain ⟨its, r', pl, hz⟩ := I.tuple hq
    have hlen := r'.length
    exact len_tuple pl (by simp only [List.size_toArray] <;> (first | lia | omega)) ⟨.int ys.length, H, I.tok _, ⟨s.toks + 1, by rw [List.size_toArray, hlen]⟩, q⟩
theorem call_tuple_of : CallR X (.type "tuple") (fun xs H Q => ∃ p ys, xs = [.ref p] ∧ ((SqL X.K H p ys ∧ ∀ l, H l = none → Q (.ref l) (upd H l (.tup ys))) ∨ (SqT X.K H p ys ∧ Q (.ref p) H))) := by
  intro pins s σ H xs us Q I r h
  obtain ⟨p, ys, rfl, h⟩ := h
  obtain ⟨u, rfl, rx⟩ := vals1 r
  cases rx
  rcases h with ⟨hq, q⟩ | ⟨hq, q⟩
  · obtain ⟨its, r', pl, hz⟩ := I.list hq
    have hlen := r'.length
    refine call_tuple_list pl.isList (fun h' kp => ?_) (by simp only [List.size_toArray] <;> (first | lia | omega))
    have I1 : Inv X pins σ H { s with heap := h' } := I.kept (t' := s.toks) kp
    have I2 : Inv X pins σ (upd H h'.objs.size (.tup ys)) { s with heap := h'.push { cls := .type "tuple", data := .seq its.toArray } } :=
      I1.laid (t' := s.toks) (fun b o e => Heap.get?_push_of_some _ e) (Nat.le_refl _) (show ObjOk X.prog X.w _ _ _ (.tup ys) from ⟨hz, its, r', IsTup.new _ _⟩)
    exact ⟨.ref h'.objs.size, _, I2, rfl, q _ (I1.hok.fresh (Nat.le_refl _))⟩
  · obtain ⟨its, r', pl, hz⟩ := I.tuple hq
    exact call_tuple_same pl ⟨.ref p, H, I, rfl, q⟩

def tyV (K : PySem.W.Frag) (T : String) (x : V) (H : Hp) : Prop := match x with
  | .str _ => T = "str"
  | .int _ => T = "int"
  | .ref p => (T = "list" ∧ ∃ xs, SqL K H p xs) ∨ (T = "tuple" ∧ ∃ o, K.lookup p = some o ∧ o.cls = .type "tuple" ∧ o.dict = none) ∨
      (T = "dict" ∧ ((∃ kvs, H p = some (.dK kvs)) ∨ ∃ kvs, H p = some (.dT kvs))) ∨ (T = "set" ∧ ∃ S n, H p = some (.set S n))
  | _ => False
theorem tyV_is {pins : List (Addr × Obj)} {σ : St} {H : Hp} {s : Shared} {T : String} {x : V} {v : Value} (I : Inv X pins σ H s) (r : RelV x v) (ty : tyV X.K T x H) :
    s.TypeIs v T ∧ ∀ a, v = .ref a → ∃ ob, s.heap.get? a = some ob ∧ ob.dict = none := by
  cases x with
  | str z =>
    obtain ⟨t, rfl⟩ := r
    cases (show T = "str" from ty)
    exact ⟨typeIs_str s z t, fun _ e => nomatch e⟩
  | int i =>
    obtain ⟨t, rfl⟩ := r
    cases (show T = "int" from ty)
    exact ⟨typeIs_int s i t, fun _ e => nomatch e⟩
  | ref p =>
    cases r
    rcases ty with ⟨rfl, xs, hq⟩ | ⟨rfl, o, hk, hc, hd⟩ | ⟨rfl, hk⟩ | ⟨rfl, S, n, hk⟩
    · obtain ⟨its, _, pl, _⟩ := I.list hq
      refine ⟨pl.isList.typeIs, fun a e => ?_⟩
      cases e
      obtain ⟨o, n, e, c, hd, _⟩ := pl
      exact ⟨o, e, hd⟩
    · refine ⟨⟨o, I.kIn p o hk, hc⟩, fun a e => ?_⟩
      cases e
      exact ⟨o, I.kIn _ o hk, hd⟩
    · have z : ∃ o, s.heap.get? p = some o ∧ o.ExactDict := by
        rcases hk with ⟨kvs, hk⟩ | ⟨kvs, hk⟩
        · obtain ⟨_, _, _, _, o, _, _, e, ex, _⟩ := I.hok p _ hk
          exact ⟨o, e, ex⟩
        · obtain ⟨_, _, _, _, o, _, _, e, ex, _⟩ := I.hok p _ hk
          exact ⟨o, e, ex⟩
      obtain ⟨o, e, ex⟩ := z
      refine ⟨⟨o, e, ex.1⟩, fun a e2 => ?_⟩
      cases e2
      exact ⟨o, e, ex.2.1⟩
    · obtain ⟨o, _, _, _, e, ex, _⟩ := I.hok p _ hk
      refine ⟨⟨o, e, ex.1⟩, fun a e2 => ?_⟩
      cases e2
      exact ⟨o, e, ex.2.1⟩
  | _ => exact False.elim ty
def tBM0 (K : PySem.W.Frag) (T : String) (r : V → List V → Hp → VK → Prop) (to : TE) : TE := fun σ H Q => to σ H fun x H1 => tyV K T x H1 ∧ r x [] H1 Q
def tBM (K : PySem.W.Frag) (T : String) (r : V → List V → Hp → VK → Prop) (to : TE) (t : TA) : TE := fun σ H Q => to σ H fun x H1 => tyV K T x H1 ∧ t σ H1 fun xs H2 => r x xs H2 Q
variable {o e : Expr} {es : List Expr} {to : TE} {t : TA} {name : Str} {apos cpos : Pos} {T id : String} {r : V → List V → Hp → VK → Prop}
theorem pe_bm0 (pa : PlainAttrs T) (slot : Slot T name id) (hty : typeOf (.builtin id) = pure (.type "method_descriptor")) (hm : MtR X id r) (ho : PE X o to)
    (hbase : attributeBase o name X.env (eval o X.env) = eval o X.env := by rfl) (hline : (apos.endLine == cpos.line) = true := by rfl) : PE X (.Call (.Attribute o name apos) [] [] cpos) (tBM0 X.K T r to) := by
  intro pins s σ H Q I h
  refine wpAny_Call_method0_late hbase hline (thn (ho pins s σ H _ I h) fun v s1 ⟨x, H1, I1, r1, ty, q1⟩ => ?_)
  obtain ⟨h1, h2⟩ := tyV_is I1 r1 ty
  exact ⟨T, id, pa, slot, hty, h1, h2, Calls.callWith_builtin rfl (PySem.evalArgs_none (hm pins s1 σ H1 x [] v [] Q I1 r1 .nil q1))⟩
theorem pe_bm (pa : PlainAttrs T) (slot : Slot T name id) (hty : typeOf (.builtin id) = pure (.type "method_descriptor")) (hm : MtR X id r) (ho : PE X o to) (ha : PA X (e :: es) t)
    (hbase : attributeBase o name X.env (eval o X.env) = eval o X.env := by rfl)
    (hfew : ((backTo cpos (starEach (e :: es) X.env)).all (fun x => !x.1) && (backToKw cpos (keywordEach [] X.env)).all (fun x => x.1.isSome)
      && decide ((e :: es).length + ([] : List Keyword).length + (if ([] : List Keyword).isEmpty then 0 else 1) < 30)) = true := by rfl)
    (hline : (apos.endLine == cpos.line) = true := by rfl) (hs : starEach (e :: es) X.env = (false, eval e X.env) :: starEach es X.env := by rfl) (hplain : (backTo cpos (starEach es X.env)).any (·.1) = false := by rfl) :
    PE X (.Call (.Attribute o name apos) (e :: es) [] cpos) (tBM X.K T r to t) := by
  intro pins s σ H Q I h
  refine wpAny_Call_method_late hbase hfew hline rfl (thn (ho pins s σ H _ I h) fun v s1 ⟨x, H1, I1, r1, ty, q1⟩ => ?_)
  obtain ⟨h1, h2⟩ := tyV_is I1 r1 ty
  refine ⟨T, id, pa, slot, hty, h1, h2, ?_⟩
  have hA := ha cpos pins s1 σ H1 _ I1 q1
  rw [hs] at hA ⊢
  refine Calls.callWith_builtin (by show (false || (backTo cpos (starEach es X.env)).any (·.1)) = false; rw [hplain] <;> rfl) (Calls.evalArgs_plain ?_)
  exact thn hA fun us s2 ⟨vs, H2, I2, r2, q2⟩ => hm pins s2 σ H2 x vs v us Q I2 r1 r2 q2
/- xs.append(e), list.index on a module's tuple .. are MtR facts of 06m -/
end
end L2

namespace L2
open PySem PySem.Spec PyProof.Rows

def MtM (X : Cx) (id : String) (r : V → List V → Hp → VK → Prop) : Prop :=
  ∀ (pins : List (Addr × Obj)) (s : Shared) (σ : St) (H : Hp) (x : V) (xs : List V) (v : Value) (us : List Value) (Q : VK), Inv X pins σ H s → RelV x v → Vals xs us → r x xs H Q →
    wpAny (model X.prog X.w) X.A (call (.builtin id) (v :: us)) (EP X pins σ Q) X.xe s

theorem Vals.one : ∀ {x : V} {us : List Value}, Vals [x] us → ∃ u, us = [u] ∧ RelV x u
  | _, _, .cons r .nil => ⟨_, rfl, r⟩
theorem Vals.rep {xs : List V} {us : List Value} (h : Vals xs us) : ∀ k : Nat, Vals (List.replicate k xs).flatten (List.replicate k us).flatten
  | 0 => .nil
  | k + 1 => by
    rw [List.replicate_succ, List.replicate_succ, List.flatten_cons, List.flatten_cons]
    exact Vals.append h (Vals.rep h k)
theorem foldl_rep (its : List Value) : ∀ (k : Nat) (acc : List Value),
    List.foldl (fun x1 x2 => x1 ++ x2) acc.toArray (List.replicate k its.toArray) = (acc ++ (List.replicate k its).flatten).toArray
  | 0, acc => by simp
  | k + 1, acc => by
    have e : acc.toArray ++ its.toArray = (acc ++ its).toArray := by simp
    have e2 : (acc ++ its) ++ (List.replicate k its).flatten = acc ++ (List.replicate (k + 1) its).flatten := by
      rw [List.replicate_succ, List.flatten_cons, List.append_assoc]
    rw [← e2, ← foldl_rep its k (acc ++ its), ← e, List.replicate_succ, List.foldl_cons]

section
variable {X : Cx} {pins : List (Addr × Obj)} {σ : St} {H : Hp} {s : Shared} {l b : Addr} {xs ys zs : List V}

theorem Inv.lset {its its' : List Value} {n : Nat} {f : Array Value → Array Value} {t' : Nat} (I : Inv X pins σ H s) (hH : H l = some (.lst xs))
    (e : s.heap.get? l = some { cls := .type "list", data := .seq its.toArray n }) (hf : f its.toArray = its'.toArray) (hv : Vals ys its') (hz : ys.length ≤ sizeLine) :
    Inv X pins σ (upd H l (.lst ys)) { s with heap := s.heap.update l (Obj.mapSeq f), toks := t' } := by
  have q := PySem.IsL.update e f
  rw [hf] at q
  refine I.write (x := l) (e := l) (by rw [hH]; exact trivial) (.inl rfl) (fun b' u hb hu => (Heap.get?_update_other s.heap (Obj.mapSeq f) (Ne.symm hb)).trans hu) ⟨_, q⟩ ?_
  exact ⟨hz, its', _, hv, q⟩
theorem Inv.lnew {its : List Value} {t' : Nat} (I : Inv X pins σ H s) (hv : Vals ys its) (hz : ys.length ≤ sizeLine) :
    Inv X pins σ (upd H s.heap.objs.size (.lst ys)) { s with heap := s.heap.push { cls := .type "list", data := .seq its.toArray }, toks := t' } :=
  I.laid (fun _ _ q => Heap.get?_push_of_some _ q) (Nat.le_refl _) ⟨hz, its, 0, hv, Heap.get?_push_size _ rfl⟩
theorem Inv.fresh (I : Inv X pins σ H s) : H s.heap.objs.size = none := I.hok.fresh (Nat.le_refl _)
theorem Inv.lstM (I : Inv X pins σ H s) (hH : H l = some (.lst xs)) : xs.length ≤ sizeLine ∧ ∃ (its : List Value) (n : Nat), Vals xs its ∧ xs.length = its.length ∧ s.heap.get? l = some { cls := .type "list", data := .seq its.toArray n } := by
  obtain ⟨z, its, n, r, e⟩ := I.hok l _ hH
  exact ⟨z, its, n, r, r.length, e⟩

theorem notLongL {n : Nat} (h : n ≤ sizeLine) : Builtin.List.listTooLong n = false := by
  unfold Builtin.List.listTooLong
  exact decide_eq_false (by (first | lia | omega))
end

section
variable {X : Cx}

def rAppend : V → List V → Hp → VK → Prop := fun x vs H Q => ∃ l xs y, x = .ref l ∧ vs = [y] ∧ H l = some (.lst xs) ∧ xs.length < sizeLine ∧ Q .non (upd H l (.lst (xs ++ [y])))
theorem mt_append : MtM X "list.append" rAppend := by
  intro pins s σ H x vs v us Q I rx rv h
  obtain ⟨l, xs, y, rfl, rfl, hH, hz, q⟩ := h
  cases rx
  obtain ⟨u, rfl, ru⟩ := rv.one
  obtain ⟨z, its, n, r, hl, e⟩ := I.lstM hH
  refine call_meets F.slot_list_append ⟨_, e, rfl⟩ F.entry_list_append (F.args_list_append_2 _ _) (PySem.list_append l its.toArray n u (by rw [List.size_toArray]; (first | lia | omega))) ⟨e, ?_⟩
  refine ⟨.non, _, I.lset (its' := its ++ [u]) hH e (by simp) (r.append (.cons ru .nil)) ?_, rfl, q⟩
  rw [List.length_append, List.length_singleton]
  (first | lia | omega)

def rRep : R2 := fun x y H Q => ∃ l k xs, x = .ref l ∧ y = .int k ∧ H l = some (.lst xs) ∧ -(2 ^ 63) ≤ k ∧ k < 2 ^ 63 ∧ xs.length * k.toNat ≤ sizeLine ∧
  ∀ p, H p = none → Q (.ref p) (upd H p (.lst (List.replicate k.toNat xs).flatten))
theorem len_rep {α : Type} (xs : List α) (k : Nat) : (List.replicate k xs).flatten.length = k * xs.length := by
  induction k with
  | zero => simp
  | succ k ih => rw [List.replicate_succ, List.flatten_cons, List.length_append, ih, Nat.succ_mul, Nat.add_comm]
theorem op_rep : OpR X (binaryOp .Mult) rRep := by
  intro pins s σ H x y v u Q I rx ry h
  obtain ⟨l, k, xs, rfl, rfl, hH, h1, h2, hz, q⟩ := h
  cases rx
  obtain ⟨t, rfl⟩ := ry
  obtain ⟨z, its, n, r, hl, e⟩ := I.lstM hH
  have hlen : its.toArray.size * k.toNat ≤ sizeLine := by rw [List.size_toArray, ← hl]; exact hz
  have hcap : ¬ its.toArray.size * k.toNat > (2 ^ 63 - 1) / 8 := by
    have : (sizeLine : Nat) ≤ (2 ^ 63 - 1) / 8 := by decide
    (first | lia | omega)
  have hfit : ¬ (!Builtin.List.listFitsIndex k) = true := by
    rw [fitsIndex_both h1 h2]
    exact Bool.false_ne_true
  have hlong : ¬ Builtin.List.listTooLong (its.toArray.size * k.toNat) = true := by
    rw [notLongL hlen]
    exact Bool.false_ne_true
  have hnew : List.foldl (fun x1 x2 => x1 ++ x2) #[] (List.replicate (if its.toArray.isEmpty = true then 0 else k.toNat) its.toArray) = (List.replicate k.toNat its).flatten.toArray := by
    have f0 : ∀ m : Nat, List.foldl (fun x1 x2 => x1 ++ x2) #[] (List.replicate m its.toArray) = (List.replicate m its).flatten.toArray := fun m => by
      have := foldl_rep its m []
      rw [List.nil_append] at this
      exact this
    rw [f0]
    cases its with
    | nil => simp
    | cons a r' => rw [if_neg (by simp)]
  refine wpAny_binaryOp_repeat_ref (T := "list") (U := "int") (by decide) ⟨_, e, rfl⟩ (fun s' => typeIs_int s' k t) noFill_list_mul F.fills_int_mul F.slot_int_rmul repeat_list F.slot_int_index.lookup
    (call_meets F.slot_int_rmul (typeIs_int s k t) F.entry_int_rmul (F.args_int_rmul_2 _ _) (int___rmul___int_list k t l its.toArray n)
      ⟨e, rfl, ⟨_, e, rfl⟩, call_meets F.slot_list_mul ⟨_, e, rfl⟩ F.entry_list_mul (F.args_list_mul_2 _ _) (AutoListH.list___mul___list_int_3 l its.toArray n k t hfit hcap hlong) ⟨e, ?_⟩⟩)
  rw [hnew]
  exact ⟨.ref _, _, I.lnew (t' := s.toks) (r.rep k.toNat) (by rw [len_rep, Nat.mul_comm]; exact hz), rfl, q _ I.fresh⟩

end

section
variable {prog : Program} {w : World} {A : Around} {E : Value → Shared → Prop} {s : Shared}
end

section
variable {X : Cx}
end
end L2

namespace Att
open PySem PySem.W PySem.Calls PyProof.Rows

theorem ints_of_wellAll {P : Params} {h : Heap} : ∀ (ns : List Int) (vs : List Value), WellAll P h vs (ns.map WData.int) → IntsAre vs ns := by
  intro ns
  induction ns with
  | nil =>
    intro vs w
    rw [List.map_nil] at w
    cases w
    exact .nil
  | cons n ns ih =>
    intro vs w
    rw [List.map_cons] at w
    cases w with
    | cons a b =>
      cases a
      exact .cons _ _ (ih _ b)

theorem script_of {l : OpenLaw} {n : Nat} (hn : l.most = some n) {P : Params} {h : Heap} {args : List WData} {vals : List Value}
    (hpre : l.row.toRowW.claim.pre args = true) (hwl : WellAll P h vals args) :
    ∃ a vs ns, vals = [Value.ref a] ∧ args = [WData.list (ns.map WData.int)] ∧ h.get? a = some { cls := .type "list", data := .seq vs.toArray } ∧ IntsAre vs ns ∧ ns.length ≤ n := by
  have hsh : WShape.hasAll [] args [.list .int] = true := (pre_splitW hpre).1
  have hc : l.pre.holds [] { args := args } = true := (pre_splitW hpre).2
  obtain ⟨d, r, rfl, h1, h2⟩ := hasAllW_cons hsh
  obtain rfl := hasAllW_nil h2
  obtain ⟨xs, rfl, h3⟩ := hasW_list h1
  obtain ⟨ns, rfl⟩ := items_int h3
  have hlen : ns.length ≤ n := by
    unfold OpenLaw.pre at hc
    have h4 : (WTm.not (.lt (.lit (.int (n : Int))) (.len (.arg 0)))).holds [] { args := [.list (ns.map .int)] } = true := by
      have h4 := (holds_andW hc).1
      rw [hn] at h4
      exact h4
    have h5 := condW_of h4 (w_not (w_lt w_lit (w_len_list (w_arg rfl))))
    rw [List.length_map] at h5
    refine Nat.le_of_not_lt fun q => ?_
    have q' : (n : Int) < ((ns.length : Nat) : Int) := by (first | lia | omega)
    first
      | (rw [decide_eq_true q'] at h5; exact absurd h5 (by decide))
      | (simp at h5; (first | lia | omega))
  cases hwl with
  | cons w1 w2 =>
    cases w2
    cases w1 with
    | list ho hall => exact ⟨_, _, ns, rfl, rfl, ho, ints_of_wellAll ns _ hall, hlen⟩

theorem post_true (l : OpenLaw) (args : List WData) : l.row.toRowW.claim.post args (.bool true) args = true :=
  postW_of (r := l.row.toRowW) (X := (true == true))
    (show WShape.has [] (.bool true) .bool = true by first | rfl | decide | simp [WShape.has, WShape.arms, WShape.armsAll])
    (show (WTm.eq .res (.lit (.bool true))).value [] { args := args, res := some (.bool true), after := args } = some (.bool (true == true)) from w_eq_bool (w_res rfl) w_lit) rfl

theorem attach_call {l : OpenLaw} {n : Nat} {q : Program} {loose : List Str} {XP : (Str → Option Value) → Heap → Prop} {YP : World → Heap → Prop} {d : DefRec}
    (hn : l.most = some n) (hdf : d.params.defaults = [])
    (call : ∀ (w : World) (s₀ s₁ : Shared) (mg mb : Str → Option Value) (fa : Addr) (o : Obj) (pm cd doc : Value) (a : Addr) (vs : List Value) (ns : List Int),
      Ground q loose [] XP w s₀ mg mb s₁.heap → YP w s₁.heap →
      s₁.heap.get? fa = some o → o.data = .func (docDef d.name d.params d.body d.scope pm cd doc) → s₁.heap.CodeRec cd d.name → mg d.name = some (.ref fa) →
      s₁.heap.get? a = some { cls := .type "list", data := .seq vs.toArray } → IntsAre vs ns → ns.length ≤ n → s₁.gens = #[] →
      codeAny (model l.prog w) callerA (.call (.ref fa) ⟨[.ref a], []⟩) (fun r s' => r = .ok (.ret (.bool true)) ∧ OldK s₁.heap s'.heap ∧ s'.os = s₁.os ∧ AllBare s'.gens) s₁) :
    WalkO q loose XP YP l.row.toRowW d [] (fun f vs => PySem.call f vs) := by
  intro w s₀ s₁ mg mb G Y fa o pm cd doc dV kV ho hd hcd hD hmg hg args vals as hpre hlay hrd hwl hlo
  obtain rfl : dV = .none := Dflts.none hD hdf
  obtain rfl : kV = .none := Dflts.noKw hD
  obtain ⟨a, vs, ns, rfl, rfl, hobj, hints, hlen⟩ := script_of hn hpre hwl
  refine enter_call (codeAny_mono (call w s₀ s₁ mg mb fa o pm cd doc a vs ns G Y ho (fd_plain hd) hcd hmg hobj hints hlen hg) fun r s' hq => ?_)
  obtain ⟨rfl, h2, h3, h4⟩ := hq
  exact ⟨.inl ⟨.bool true, .bool true, [], rfl, fun _ => rfl, .bool true, post_true l _, fun _ => ⟨List.Pairwise.nil, fun _ hm => (nomatch hm)⟩⟩, h2, h3, h4⟩

section
variable {prog : Program} {w : World} {A : Around} {E : Value → Shared → Prop} {s : Shared} {K : Frag}

end
end Att

namespace L2
open PySem PySem.Spec PyProof.Rows

theorem vals_ints : ∀ {vs : List Value} {ns : List Int}, IntsAre vs ns → Vals (ns.map V.int) vs
  | _, _, .nil => .nil
  | _, _, .cons n t h => .cons ⟨t, rfl⟩ (vals_ints h)

def Only (H : Hp) : Prop := ∀ b, H b = none ∨ ∃ o xs, H b = some (.frz o (.lst xs))

theorem law_call {P : Program} {w : World} {K : PySem.W.Frag} {mg mb : Str → Option Value} {CX : CXT} {k : Nat} {fa a : Addr} {fd : FuncData} {x : Str} {sp : Sp} {s₁ : Shared} {vs : List Value} {ns : List Int}
    (KX : K.In s₁.heap) (hns : s₁.heap.Ns mainGlobals mg) (hb : s₁.heap.Ns builtinsNs mb) (hbb : ∀ x : Str, x ≠ "__name__" → mb x = bootBuiltins x) (hlim : s₁.heap.NoLimit) (hg : s₁.gens = #[])
    (ha : s₁.heap.get? a = some { cls := .type "list", data := .seq vs.toArray }) (hi : IntsAre vs ns) (hl : ns.length ≤ sizeLine) (hr : Room k callerA)
    (F : ∀ base : Heap, K.In base → base.Ns mainGlobals mg → FnOk P w K mg base CX k fa fd [x] sp) (hbind : ∀ (s : Shared) (u : Value), BindsTo s fd ⟨[u], []⟩ [(x, u)])
    (hsp : ∀ H : Hp, Only H → SqL K H a (ns.map V.int) → sp [.ref a] H (fun v _ => v = .bl true) fun _ _ _ => False)
    (hCX : ∀ H e s', CX [] H s₁ (fun _ _ _ => False) e s' → False) :
    codeAny (model P w) callerA (.call (.ref fa) ⟨[.ref a], []⟩) (fun r s' => r = .ok (.ret (.bool true)) ∧ OldK s₁.heap s'.heap ∧ s'.os = s₁.os ∧ AllBare s'.gens) s₁ := by
  have rv := vals_ints hi
  have lenV := hi.length
  -- from an abstract heap in which nothing but the script may be tracked
  have core : ∀ H : Hp, Only H → SqL K H a (ns.map V.int) → HOk P w H s₁.heap → (∀ b, H b ≠ none → b = a) → (H a ≠ none → K.lookup a = none) →
      codeAny (model P w) callerA (.call (.ref fa) ⟨[.ref a], []⟩) (fun r s' => r = .ok (.ret (.bool true)) ∧ OldK s₁.heap s'.heap ∧ s'.os = s₁.os ∧ AllBare s'.gens) s₁ := by
    intro H hO hS hok hA hK
    have base_of : ∀ {b : Addr} {o : Obj}, s₁.heap.get? b = some o → H b = none → (hidT s₁.heap H).get? b = some o := fun e n => hidT_get e n
    have noA : ∀ {b : Addr} {o : Obj} {es : Array DictEntry} {ep : Nat}, s₁.heap.get? b = some o → o.data = .dict es ep → H b = none := fun {b o es ep} e d => by
      cases q : H b with
      | none => rfl
      | some u =>
        have e' : b = a := hA b (by rw [q]; simp)
        subst e'
        rw [ha] at e; cases e
        have d' : Data.seq vs.toArray _ = Data.dict es ep := d
        cases d'
    have nsK : ∀ {b : Addr} {m : Str → Option Value}, s₁.heap.Ns b m → (hidT s₁.heap H).Ns b m := fun {b m} ⟨o, es, ep, e, d, r⟩ => ⟨o, es, ep, base_of e (noA e d), d, r⟩
    have hKb : K.In (hidT s₁.heap H) := fun b o e => base_of (KX b o e) (by
      cases q : H b with
      | none => rfl
      | some u =>
        have e' : b = a := hA b (by rw [q]; simp)
        subst e'
        rw [hK (by rw [q]; simp)] at e; cases e)
    have hM : Mod K mg (hidT s₁.heap H) := ⟨hKb, nsK hns, ⟨mb, nsK hb, hbb⟩, let ⟨mc, h1, h2⟩ := hlim; ⟨mc, nsK h1, h2⟩⟩
    have e0 : Env0 P w K mg (hidT s₁.heap H) callerA [] s₁ H := ⟨rfl, hM, fun b o e => of_hidT e, Nat.le_of_eq (hidT_size _ _), trivial, fun b hb => absurd (show b ∈ ([] : List Addr) from hb) (by simp), hok, .of_eq hg⟩
    refine codeAny_mono ((F _ hKb (nsK hns)).run callerA [] s₁ H ⟨[.ref a], []⟩ [.ref a] [.ref a] _ _ hr e0 (hbind s₁ (.ref a)) (.cons rfl .nil) (hsp H hO hS)) fun r s' h => ?_
    cases r with
    | error e => exact (hCX H e s' h).elim
    | ok fl =>
      cases fl with
      | next => exact False.elim h
      | brk => exact False.elim h
      | cont => exact False.elim h
      | ret u =>
        obtain ⟨v, H', os, bare, un, hok', r', q⟩ := h
        have q' : v = .bl true := q
        subst q'
        obtain rfl : u = Value.bool true := r'
        refine ⟨rfl, OldK.of_keep fun b o e => ?_, os, bare⟩
        cases q : H b with
        | none => exact un.keep b o e q (by intro z; exact absurd (show b ∈ ([] : List Addr) from z) (by simp)) (by simp)
        | some u =>
          rcases hO b with z | ⟨ob, xs, z⟩
          · rw [q] at z; cases z
          · have z2 := un.frzs b ob _ z
            obtain ⟨e1, _⟩ := hok b _ z
            obtain ⟨e2, _⟩ := hok' b _ z2
            rw [e] at e1; cases e1
            exact e2
  cases hk : K.lookup a with
  | some o =>
    -- the script is one of the module's own objects
    have e := KX a o hk
    rw [ha] at e
    cases e
    refine core (fun _ => none) (fun _ => .inl rfl) (.inr ⟨_, vs.toArray, _, hk, rfl, rfl, rfl, by rw [List.size_toArray, lenV]; exact hl, by simpa using rv⟩) (fun b u z => by have z' : (none : Option HO) = some u := z; cases z') (fun b z => absurd rfl z) fun z => absurd rfl z
  | none =>
    refine core (fun b => if b = a then some (.frz { cls := .type "list", data := .seq vs.toArray } (.lst (ns.map V.int))) else none) (fun b => ?_) (.inl (.inr ⟨{ cls := .type "list", data := .seq vs.toArray }, if_pos rfl⟩)) (fun b u z => ?_) (fun b z => ?_) fun _ => hk
    · by_cases hb : b = a
      · exact .inr ⟨_, _, if_pos hb⟩
      · exact .inl (if_neg hb)
    · by_cases hb : b = a
      · have z' := (if_pos hb).symm.trans z
        cases z'
        subst hb
        exact ⟨ha, by rw [List.length_map]; exact hl, vs, _, rv, ha⟩
      · have z' := (if_neg hb).symm.trans z
        cases z'
    · by_cases hb : b = a
      · exact hb
      · exact absurd (if_neg hb) z
end L2

namespace L2
open PySem PySem.Spec PyProof.Rows

theorem walk_of {l : PySem.W.OpenLaw} {n k : Nat} {q : Program} {loose : List Str} {XP : (Str → Option Value) → Heap → Prop} {YP : World → Heap → Prop} {d : DefRec} {K : Params → PySem.W.Frag} {CX : World → CXT} {sp : World → Sp} {x : Str}
    (hn : l.most = some n) (hn2 : n ≤ sizeLine) (hdf : d.params.defaults = []) (hr : Room k callerA)
    (hY : ∀ (w : World) (h : Heap), YP w h → (K w.params).In h)
    (F : ∀ (w : World) (mg : Str → Option Value) (fa : Addr) (h : Heap), (K w.params).In h → h.Ns mainGlobals mg → mg d.name = some (.ref fa) →
      ∃ fd : FuncData, (∀ (s : Shared) (u : Value), BindsTo s fd ⟨[u], []⟩ [(x, u)]) ∧
        ∀ base : Heap, (K w.params).In base → base.Ns mainGlobals mg → FnOk l.prog w (K w.params) mg base (CX w) k fa fd [x] (sp w))
    (hsp : ∀ (w : World) (H : Hp) (a : Addr) (ns : List Int), ns.length ≤ n → Only H → SqL (K w.params) H a (ns.map V.int) → sp w [.ref a] H (fun v _ => v = .bl true) fun _ _ _ => False)
    (hCX : ∀ (w : World) (H : Hp) (s : Shared) (e : Value) (s' : Shared), CX w [] H s (fun _ _ _ => False) e s' → False) :
    PySem.W.WalkO q loose XP YP l.row.toRowW d [] (fun f vs => PySem.call f vs) := by
  refine Att.attach_call hn hdf fun w s₀ s₁ mg mb fa o pm cd doc a vs ns G Y ho hd hcd hmg hobj hints hlen hg => ?_
  have KX := hY w _ Y
  obtain ⟨fd, hb, hF⟩ := F w mg fa _ KX G.T.g hmg
  exact law_call KX G.T.g G.T.b G.T.builtins G.T.nolimit hg hobj hints (Nat.le_trans hlen hn2) hr hF hb (fun H hO hS => hsp w H a ns hlen hO hS) fun H e s' => hCX w H s₁ e s'
end L2

/- THE LAST THEOREM (shape; LID, My.* are yours):
   My.Adr: a structure of the addresses that your layer names (classes, functions); My.Txt K t: a structure (Prop) of the equations over K;
   My.txt_mk : {K} {implicit addresses ..} (e1 : nsIn K mainGlobals "law" = some (some (.ref f))) (e2 : K.lookup f = some ⟨oc, od, .func (fnOf "law" "law" params body scope dV kV doc pm an cdv ct), sl⟩) (e3 : codeIn K cdv "law" = true) .. : ∃ t, My.Txt K t

set_option maxRecDepth 100000 in
set_option maxHeartbeats 0 in
theorem PySem.Challenge.cw_LID_holds : PySem.Challenge.rw_LID.Holds := by
  w_on; o_law; k_head; (case hw => w_witness2)
  k_fill
  refine L2.walk_of (l := PySem.Challenge.rw_LID) (n := 63) (k := 40) (x := "script") (CX := fun w => ..) (sp := fun _ => My.sp_law) rfl (by decide) rfl ⟨rfl, by decide, by decide⟩ (fun w h Y => PySem.W.kIn_of Y) ?F ?S ?C
  case F =>
    intro w mg fa h KX G hmg
    have T : ∃ t, My.Txt (L2.KOf KX) t := by
      dsimp only [L2.KOf]                          -- K must stand as «<heap const> w.params» for k_is
      refine' My.txt_mk ?e1 ?e2 ?e3 ..
      (case e1 => PySem.W.k_is)                    -- in the order: a name -> its address -> its object -> its parts
      (case e2 => PySem.W.k_is)
      ..
    obtain ⟨t, T⟩ := T
    have e0 := hmg.symm.trans (PySem.W.mg_of KX G T.law)
    cases e0                                       -- fa is the law's own address
    exact ⟨_, fun s u => .of_eq rfl, fun base kb nb => My.law_fn T kb nb⟩     -- if «.of_eq rfl» comes too early: refine' ⟨_, ?b, fun base kb nb => My.law_fn T kb nb⟩; exact fun s u => .of_eq rfl
  case S => exact fun w H a ns hl hO hS => ..
  case C => exact ..
(the tactic k_is has no namespace: write k_is) -/

namespace L2
open PySem PySem.Spec PyProof.Rows

def defArgs (s : Stmt) : Arguments := match s with
  | .FunctionDef _ a _ _ _ _ _ _ _ _ => a
  | _ => { posonlyargs := [], args := [], vararg := none, kwonlyargs := [], kw_defaults := [], kwarg := none, defaults := [] }
def defBody (s : Stmt) : List Stmt := match s with
  | .FunctionDef _ _ b _ _ _ _ _ _ _ => b
  | _ => []
def defScope (s : Stmt) : Scope := match s with
  | .FunctionDef _ _ _ _ _ _ sc _ _ _ => sc
  | _ => { kind := .function, names := [], isGenerator := false, isCoroutine := false }

abbrev CX0 : CXT := fun _ _ _ _ _ _ => False
abbrev E0 : XK := fun _ _ _ => False
theorem pass0 {X : Cx} : Passes CX0 X E0 := fun _ _ _ _ _ _ _ h => h.elim

structure Fun (K : PySem.W.Frag) (x qual : Str) (st : Stmt) (f : Addr) (fd : FuncData) : Prop where
  ex : ∃ (oc : Value) (od : Option Addr) (kV doc pm : Value) (an : Option Addr) (cdv ct : Value) (osl : Array (Option Value)),
    fd = PySem.W.fnOf x qual (defArgs st) (defBody st) (defScope st) .none kV doc pm an cdv ct ∧ K.lookup f = some ⟨oc, od, .func fd, osl⟩ ∧ PySem.W.codeIn K cdv qual = true
  kp : PySem.W.keepIn K (.ref f) = true
section
variable {P : Program} {w : World} {K : PySem.W.Frag} {mg : Str → Option Value} {base : Heap}
theorem Fun.ok {x qual : Str} {st : Stmt} {f : Addr} {fd : FuncData} {N ps : List Str} {k : Nat} {sp : Sp} (F : Fun K x qual st f fd) (S : FnScope N ps (defScope st)) (len : ∀ vs H Q E, sp vs H Q E → vs.length = ps.length)
    (hbody : ∀ (cdv : Value) (A : Around) (outer : List Env) (s : Shared) (H : Hp) (vs : List V) (Q : VK) (E : XK), Room k (A.deeper (envOfC qual (defScope st) s.heap.objs.size f cdv)) → sp vs H Q E →
      ∃ t, PSs (cxOf CX0 P w K mg base N qual (defScope st) f cdv A outer s H E).nox (defBody st) t ∧ t { nx := fun _ H' => Q .non H', rt := Q } (start N vs) H) : FnOk P w K mg base CX0 (k + 1) f fd ps sp := by
  obtain ⟨oc, od, kV, doc, pm, an, cdv, ct, osl, rfl, lk, hcd⟩ := F.ex
  refine fn_of lk hcd S len fun A outer s H vs Q E hr hsp => ?_
  obtain ⟨t, h, q⟩ := hbody cdv A outer s H vs Q E hr hsp
  exact ⟨t, h.nox, q⟩
theorem Fun.binds {x qual : Str} {st : Stmt} {f : Addr} {fd : FuncData} {ps : List Str} (F : Fun K x qual st f fd)
    (h : ∀ (kV doc pm : Value) (an : Option Addr) (cdv ct : Value) (us : List Value), us.length = ps.length → bindArgs (PySem.W.fnOf x qual (defArgs st) (defBody st) (defScope st) .none kV doc pm an cdv ct) ⟨us, []⟩ = pure (ps.zip us)) : Binds K fd ps [] := by
  obtain ⟨oc, od, kV, doc, pm, an, cdv, ct, osl, rfl, lk, hcd⟩ := F.ex
  exact .all (h kV doc pm an cdv ct)
theorem fun_mk {x qual : Str} {st : Stmt} {f : Addr} {oc : Value} {od an : Option Addr} {osl : Array (Option Value)} {kV doc pm cdv ct : Value} (l : K.lookup f = some ⟨oc, od, .func (PySem.W.fnOf x qual (defArgs st) (defBody st) (defScope st) .none kV doc pm an cdv ct), osl⟩)
    (c : PySem.W.codeIn K cdv qual = true) (k : PySem.W.keepIn K (.ref f) = true) : Fun K x qual st f (PySem.W.fnOf x qual (defArgs st) (defBody st) (defScope st) .none kV doc pm an cdv ct) := ⟨⟨oc, od, kV, doc, pm, an, cdv, ct, osl, rfl, l, c⟩, k⟩
end
theorem small1000 {n : Nat} (h : n ≤ 1000) : n < sizeLine := Nat.lt_of_le_of_lt h (by decide)

section
variable {X : Cx}
theorem pv (i : Nat) {x : Str} {pos : Pos} (hN : X.N[i]? = some x := by rfl) (hv : Vis X.env.scope x := by first | exact Or.inl rfl | exact Or.inr (Or.inl rfl) | exact Or.inr (Or.inr rfl)) (hd : (x == ("__debug__" : Str)) = false := by decide)
    (hcd : (x == ("__classdict__" : Str)) = false := by decide) : PE X (.Name x pos) (tVar i) := pe_var hN hv hd hcd
end

theorem iteF {A B : Prop} (h : B) : if false = true then A else B := by
  rw [if_neg Bool.false_ne_true]
  exact h
theorem iteT {A B : Prop} (h : A) : if true = true then A else B := by
  rw [if_pos rfl]
  exact h
theorem ite2 {c A B : Prop} [Decidable c] (h1 : c → A) (h2 : ¬ c → B) : if c then A else B := by
  by_cases h : c
  · rw [if_pos h]
    exact h1 h
  · rw [if_neg h]
    exact h2 h
theorem iteNS {c A B : Prop} [Decidable c] (hc : c) (h : B) : if (!decide c) = true then A else B := by
  rw [decide_eq_true hc]
  exact iteF h

def Same (H H' : Hp) : Prop := ∀ b o, H b = some o → H' b = some o
theorem Same.refl (H : Hp) : Same H H := fun _ _ h => h
theorem Same.trans {H H1 H2 : Hp} (a : Same H H1) (b : Same H1 H2) : Same H H2 := fun c o h => b c o (a c o h)
theorem Same.free {H H' : Hp} (e : Same H H') {l : Addr} (h : H' l = Option.none) : H l = Option.none := by
  cases q : H l with
  | none => rfl
  | some o =>
    rw [e l o q] at h
    cases h
theorem Same.seq {K : PySem.W.Frag} {H H' : Hp} {a : Addr} {xs : List V} (e : Same H H') (h : SqL K H a xs) : SqL K H' a xs := by
  rcases h with (h | ⟨o, h⟩) | h
  · exact .inl (.inl (e _ _ h))
  · exact .inl (.inr ⟨o, e _ _ h⟩)
  · exact .inr h

end L2

namespace L2
open PySem PySem.Spec PyProof.Rows

def closOf (cells : List (Str × Addr)) : List (Str × NameKind) → List (Str × Addr) → List (Str × Addr)
  | [], cs => cs
  | (n, k) :: r, cs => closOf cells r (if (k == NameKind.free) = true then (n, (cells.lookup n).getD 0) :: cs else cs)
theorem closure_go {env : Env} {f : Str × NameKind → List (Str × Addr) → Sem (ForInStep (List (Str × Addr)))}
    (hf1 : ∀ n k cs c, (k == NameKind.free) = true → env.cells.lookup n = some c → f (n, k) cs = pure (.yield ((n, c) :: cs)))
    (hf2 : ∀ n k cs, (k == NameKind.free) = false → f (n, k) cs = pure (.yield cs)) :
    ∀ (names : List (Str × NameKind)) (cs : List (Str × Addr)), (∀ n k, (n, k) ∈ names → (k == NameKind.free) = true → ∃ c, env.cells.lookup n = some c) →
      forIn names cs f = (pure (closOf env.cells names cs) : Sem (List (Str × Addr)))
  | [], cs, _ => by rw [List.forIn_nil]; rfl
  | (n, k) :: r, cs, h => by
    have ih := fun cs => closure_go hf1 hf2 r cs fun m j hm => h m j (List.mem_cons_of_mem _ hm)
    rw [List.forIn_cons]
    cases e : (k == NameKind.free) with
    | true =>
      obtain ⟨c, hc⟩ := h n k List.mem_cons_self e
      rw [hf1 n k cs c e hc, pure_bind]
      show forIn r ((n, c) :: cs) f = _
      rw [ih]
      conv => rhs; unfold closOf
      rw [if_pos e, hc]
      rfl
    | false =>
      rw [hf2 n k cs e, pure_bind]
      show forIn r cs f = _
      rw [ih]
      conv => rhs; unfold closOf
      rw [if_neg (by rw [e]; exact Bool.false_ne_true)]
theorem closure_is {scope : Scope} {env : Env} (h : ∀ n k, (n, k) ∈ scope.names → (k == NameKind.free) = true → ∃ c, env.cells.lookup n = some c) : closureFor scope env = pure (closOf env.cells scope.names []) := by
  simp only [closureFor]
  rw [closure_go (env := env) ?_ ?_ scope.names [] h]
  · rfl
  · intro n k cs c e hc
    show (if (k == NameKind.free) = true then _ else _) = _
    rw [if_pos e]
    unfold cellOf
    rw [hc]
    rfl
  · intro n k cs e
    show (if (k == NameKind.free) = true then _ else _) = _
    rw [if_neg (by rw [e]; exact Bool.false_ne_true)]
theorem closOf_look {cells : List (Str × Addr)} {x : Str} {c : Addr} : ∀ {names : List (Str × NameKind)} {cs : List (Str × Addr)}, (closOf cells names cs).lookup x = some c → cs.lookup x = some c ∨ ((x, NameKind.free) ∈ names ∧ (cells.lookup x).getD 0 = c)
  | [], cs, h => .inl h
  | (n, k) :: r, cs, h => by
    unfold closOf at h
    rcases closOf_look h with q | ⟨q1, q2⟩
    · by_cases e : (k == NameKind.free) = true
      · rw [if_pos e] at q
        by_cases hx : x = n
        · subst hx
          rw [List.lookup_cons_self] at q
          have hk : k = NameKind.free := eq_of_beq e
          exact .inr ⟨by rw [hk]; exact List.mem_cons_self, Option.some.inj q⟩
        · have hb : (x == n) = false := beq_eq_false_iff_ne.mpr hx
          simp only [List.lookup_cons, hb] at q
          exact .inl q
      · rw [if_neg e] at q
        exact .inl q
    · exact .inr ⟨List.mem_cons_of_mem _ q1, q2⟩
theorem closOf_has {cells : List (Str × Addr)} {x : Str} : ∀ {names : List (Str × NameKind)} {cs : List (Str × Addr)}, ((x, NameKind.free) ∈ names ∨ ∃ c, cs.lookup x = some c) → ∃ c, (closOf cells names cs).lookup x = some c
  | [], cs, h => by
    rcases h with h | h
    · cases h
    · exact h
  | (n, k) :: r, cs, h => by
    unfold closOf
    apply closOf_has
    rcases h with h | ⟨c, h⟩
    · rcases List.mem_cons.mp h with h | h
      · cases h
        right
        rw [if_pos (by rfl)]
        exact ⟨_, List.lookup_cons_self⟩
      · exact .inl h
    · right
      by_cases e : (k == NameKind.free) = true
      · rw [if_pos e]
        by_cases hx : x = n
        · subst hx
          exact ⟨_, List.lookup_cons_self⟩
        · have hb : (x == n) = false := beq_eq_false_iff_ne.mpr hx
          exact ⟨c, by simp only [List.lookup_cons, hb]; exact h⟩
      · rw [if_neg e]
        exact ⟨c, h⟩
theorem relabel_look {env : Env} {x : Str} {k : NameKind} : ∀ {names : List (Str × NameKind)},
    (names.map fun (n, k) => if (k == NameKind.free && env.scope.kind == .function && env.kindOf n == some .cell) then (n, NameKind.cell) else (n, k)).lookup x = some k →
      ∃ k0, names.lookup x = some k0 ∧ (k = k0 ∨ (k0 = .free ∧ k = .cell))
  | [], h => by cases h
  | (n, j) :: r, h => by
    have ih := @relabel_look env x k r
    replace h : List.lookup x ((if (j == NameKind.free && env.scope.kind == .function && env.kindOf n == some .cell) = true then (n, NameKind.cell) else (n, j)) :: _) = some k := h
    cases hx : x == n with
    | true =>
      by_cases hc : (j == NameKind.free && env.scope.kind == .function && env.kindOf n == some .cell) = true
      · rw [if_pos hc] at h
        simp only [List.lookup_cons, hx] at h ⊢
        have hj : j = NameKind.free := by
          rw [Bool.and_eq_true, Bool.and_eq_true] at hc
          exact eq_of_beq hc.1.1
        exact ⟨j, rfl, .inr ⟨hj, (Option.some.inj h).symm⟩⟩
      · rw [if_neg hc] at h
        simp only [List.lookup_cons, hx] at h ⊢
        exact ⟨j, rfl, .inl (Option.some.inj h).symm⟩
    | false =>
      by_cases hc : (j == NameKind.free && env.scope.kind == .function && env.kindOf n == some .cell) = true
      · rw [if_pos hc] at h
        simp only [List.lookup_cons, hx] at h ⊢
        exact ih h
      · rw [if_neg hc] at h
        simp only [List.lookup_cons, hx] at h ⊢
        exact ih h
theorem relabel_free {env : Env} {x : Str} : ∀ {names : List (Str × NameKind)}, names.lookup x = some .free →
    (names.map fun (n, k) => if (k == NameKind.free && env.scope.kind == .function && env.kindOf n == some .cell) then (n, NameKind.cell) else (n, k)).lookup x = some .cell ∨
    (names.map fun (n, k) => if (k == NameKind.free && env.scope.kind == .function && env.kindOf n == some .cell) then (n, NameKind.cell) else (n, k)).lookup x = some .free
  | [], h => by cases h
  | (n, j) :: r, h => by
    have ih := @relabel_free env x r
    show List.lookup x ((if (j == NameKind.free && env.scope.kind == .function && env.kindOf n == some .cell) = true then (n, NameKind.cell) else (n, j)) :: _) = _ ∨
      List.lookup x ((if (j == NameKind.free && env.scope.kind == .function && env.kindOf n == some .cell) = true then (n, NameKind.cell) else (n, j)) :: _) = _
    cases hx : x == n with
    | true =>
      simp only [List.lookup_cons, hx] at h
      cases h
      by_cases hc : (NameKind.free == NameKind.free && env.scope.kind == .function && env.kindOf n == some .cell) = true
      · rw [if_pos hc]
        simp only [List.lookup_cons, hx]
        exact .inl trivial
      · rw [if_neg hc]
        simp only [List.lookup_cons, hx]
        exact .inr trivial
    | false =>
      simp only [List.lookup_cons, hx] at h
      by_cases hc : (j == NameKind.free && env.scope.kind == .function && env.kindOf n == some .cell) = true
      · rw [if_pos hc]
        simp only [List.lookup_cons, hx]
        exact ih h
      · rw [if_neg hc]
        simp only [List.lookup_cons, hx]
        exact ih h

def cxComp (X : Cx) (N : List Str) (scope : Scope) (xe : Value → Shared → Prop) (C : Addr) (s : Shared) (H : Hp) (fp : List Addr) : Cx where
  prog := X.prog
  w := X.w
  K := X.K
  mg := X.mg
  base := X.base
  A := X.A
  N := N
  s₀ := s
  H₀ := H
  env := compEnvC scope (closOf X.env.cells scope.names []) C X.env
  outer := X.stack
  stack := X.stack
  ex := fp
  fn := fun _ => false
  calm := X.calm
  pn := []
  xe := xe
def takeSt (σ : St) (js : List Nat) : St := js.map fun j => (σ[j]?).getD none
structure CompText (X : Cx) (scope : Scope) (own frees : List Str) (js : List Nat) : Prop where
  kind : scope.kind = .function
  nocell : ∀ y ∈ scope.names, y.2 ≠ .cell
  names : ∀ y ∈ scope.names, y.2 = .local → scope.names.lookup y.1 = some .local
  free : ∀ y ∈ scope.names, y.2 = .free → X.env.scope.names.lookup y.1 = some .cell ∨ X.env.scope.names.lookup y.1 = some .free
  at_ : js.map (fun j => X.N[j]?) = frees.map some
  fr : ∀ x ∈ frees, scope.names.lookup x = some .free
theorem takeSt_get {σ : St} {js : List Nat} {i : Nat} {v : V} (h : (takeSt σ js)[i]? = some (some v)) : ∃ j, js[i]? = some j ∧ σ[j]? = some (some v) := by
  unfold takeSt at h
  rw [List.getElem?_map] at h
  cases e : js[i]? with
  | none => rw [e] at h; cases h
  | some j =>
    rw [e] at h
    have h' : (σ[j]?).getD none = some v := Option.some.inj h
    refine ⟨j, rfl, ?_⟩
    cases q : σ[j]? with
    | none => rw [q] at h'; cases h'
    | some o => rw [q] at h'; rw [show o = some v from h']

section
variable {X : Cx}
theorem closure_ok {pins : List (Addr × Obj)} {σ : St} {H : Hp} {s : Shared} {scope : Scope} {own frees : List Str} {js : List Nat} (I : Inv X pins σ H s) (T : CompText X scope own frees js) :
    ∀ n k, (n, k) ∈ scope.names → (k == NameKind.free) = true → ∃ c, X.env.cells.lookup n = some c := fun n k hm e => by
  have hk : k = NameKind.free := eq_of_beq e
  exact I.ok.has n (T.free (n, k) hm hk)
theorem inv_comp {pins : List (Addr × Obj)} {σ : St} {H : Hp} {s : Shared} {scope : Scope} {own frees : List Str} {js : List Nat} {fp : List Addr} {D C : Addr} {h1 : Heap} {t1 : Nat} {m : Str → Option Value} {xe : Value → Shared → Prop}
    (I : Inv X pins σ H s) (T : CompText X scope own frees js) (hf : ∀ b ∈ fp, FpOk X pins H b) (hfo : ∀ b ∈ fp, ∃ o, s.heap.get? b = some o) (hD : s.heap.objs.size ≤ D) (hC : s.heap.objs.size ≤ C) (hDC : D ≠ C)
    (old : ∀ b o, s.heap.get? b = some o → h1.get? b = some o) (hl : h1.get? D = some { cls := .type "list", data := .seq ([] : List Value).toArray 0 }) (hn : h1.Ns C m) :
    Inv (cxComp X (own ++ frees) scope xe C s H fp) [] (List.replicate own.length none ++ takeSt σ js) (upd H D (.lst [])) { s with heap := h1, toks := t1 } := by
  have cells : ∀ x c, (closOf X.env.cells scope.names []).lookup x = some c → X.env.cells.lookup x = some c := fun x c h => by
    rcases closOf_look h with q | ⟨q1, q2⟩
    · cases q
    · obtain ⟨c', hc'⟩ := closure_ok I T x .free q1 rfl
      rw [hc'] at q2
      rw [hc']
      exact congrArg some q2
  have lt_of : ∀ b o, s.heap.get? b = some o → b < s.heap.objs.size := fun b o e => Heap.lt_size e
  have hcl : ∀ x c, X.env.cells.lookup x = some c → c < s.heap.objs.size := fun x c e => by
    obtain ⟨v, q⟩ := I.cell x c e
    exact q.lt
  have frlt : ∀ b ∈ frs X.stack, b < s.heap.objs.size := fun b hb => by
    obtain ⟨_, o, ho, _⟩ := I.stack.mem hb
    exact Heap.lt_size ho
  have hHD : H D = none := I.hok.fresh hD
  have hHC : H C = none := I.hok.fresh hC
  refine ⟨⟨I.ok.mod, T.kind, I.ok.glob, I.ok.blt, hC, fun x y c a b => I.ok.inj x y c (cells x c a) (cells y c b), fun x hx => ?_, fun x c z _ => (nomatch z), I.ok.hd, I.ok.frames, .inl rfl, fun b hb => ⟨?_, fun x c e z => ?_⟩,
      fun b o e => I.bs b o e, Nat.le_trans I.ok.bsz I.sz, fun b o e hb => ?_, fun b hb z => ?_, I.stack, I.stkFree⟩,
    rfl, I.bare, Un.laid old hD hHD, ⟨m, hn, fun i x v e1 e2 e3 => ?_⟩, fun x c e => ?_, ?_, fun x c e => ?_, fun p hp => absurd (show p ∈ ([] : List (Addr × Obj)) from hp) (by simp), ?_, ?_⟩
  · -- has
    have hx : (relabel scope X.env).names.lookup x = some .cell ∨ (relabel scope X.env).names.lookup x = some .free := hx
    have hf0 : (x, NameKind.free) ∈ scope.names := by
      rcases hx with hx | hx
      · obtain ⟨k0, q, r⟩ := relabel_look hx
        have hm := PySem.mem_of_lookup q
        rcases r with r | ⟨r, _⟩
        · exact absurd r.symm (T.nocell _ hm)
        · rw [r] at hm; exact hm
      · obtain ⟨k0, q, r⟩ := relabel_look hx
        have hm := PySem.mem_of_lookup q
        rcases r with r | ⟨_, r⟩
        · rw [← r] at hm; exact hm
        · cases r
    exact closOf_has (.inl hf0)
  · -- b ≠ C
    obtain ⟨o, ho⟩ := hfo b hb
    exact Nat.ne_of_lt (Nat.lt_of_lt_of_le (lt_of b o ho) hC)
  · exact (hf b hb).2.2.2.2.1 x c (cells x c e) z
  · -- noex
    obtain ⟨_, _, _, f3, _, _⟩ := hf b hb
    rcases f3 with z | z
    · exact I.ok.noex b o e z
    · exact absurd (Nat.lt_of_lt_of_le (Heap.lt_size (I.ok.bs b o e).1) z) (Nat.lt_irrefl _)
  · -- exfs
    obtain ⟨_, f1, f2, _⟩ := hf b hb
    rcases List.mem_cons.mp (I.stkSub b z) with q | q
    · exact f1 q
    · exact f2 q
  · -- loc
    by_cases hi : i < own.length
    · rw [List.getElem?_append_left (by simpa using hi), List.getElem?_replicate, if_pos hi] at e2
      cases e2
    · rw [List.getElem?_append_right (by simpa using hi), List.length_replicate] at e2
      replace e1 : (own ++ frees)[i]? = some x := e1
      rw [List.getElem?_append_right (by (first | lia | omega))] at e1
      obtain ⟨j, hj, hσ⟩ := takeSt_get e2
      have hN : X.N[j]? = some x := by
        have q := congrArg (fun l => l[i - own.length]?) T.at_
        simp only [List.getElem?_map, hj, e1, Option.map_some] at q
        exact Option.some.inj q
      have hfx := T.fr x (List.mem_of_getElem? e1)
      have hm := PySem.mem_of_lookup hfx
      have hk := T.free (x, .free) hm rfl
      obtain ⟨m0, hn0, hl0⟩ := I.loc
      obtain ⟨u, r, l⟩ := hl0 j x v hN hσ (by rcases hk with k | k; exact .inr (.inl k); exact .inr (.inr k))
      refine ⟨u, r, .inr ⟨relabel_free hfx, ?_⟩⟩
      rcases l with ⟨hkl, _⟩ | ⟨_, c, hc, hcell⟩
      · have hkl : X.env.scope.names.lookup x = some .local := hkl
        rcases hk with k | k <;> (rw [hkl] at k; cases k)
      · obtain ⟨c', hc'⟩ := closOf_has (cells := X.env.cells) (names := scope.names) (cs := []) (x := x) (.inl hm)
        have q := cells x c' hc'
        rw [hc] at q
        cases q
        exact ⟨c, hc', hcell.keeps old⟩
  · -- cell
    obtain ⟨v, q⟩ := I.cell x c (cells x c e)
    exact ⟨v, q.keeps old⟩
  · -- free
    show upd H D (.lst []) C = none
    rw [upd_ne (Ne.symm hDC)]
    exact hHC
  · show upd H D (.lst []) c = none
    have e := cells x c e
    rw [upd_ne (Nat.ne_of_lt (Nat.lt_of_lt_of_le (hcl x c e) hD))]
    exact I.freeC x c e
  · exact I.hok.laid old hD ⟨Nat.zero_le _, [], 0, .nil, hl⟩
  · show _ = (own ++ frees).length
    have q := congrArg List.length T.at_
    rw [List.length_map, List.length_map] at q
    rw [List.length_append, List.length_append, List.length_replicate]
    unfold takeSt
    rw [List.length_map, q]

theorem inv_comp_back {pins : List (Addr × Obj)} {σ σ' : St} {H H' : Hp} {s s' : Shared} {scope : Scope} {N : List Str} {fp : List Addr} {C : Addr} {h' : Heap} {xe : Value → Shared → Prop}
    (I : Inv X pins σ H s) (hf : ∀ b ∈ fp, FpOk X pins H b) (hC : s.heap.objs.size ≤ C) (J : Inv (cxComp X N scope xe C s H fp) [] σ' H' s') (sb : Heap.SameBut C s'.heap h') : Inv X pins σ H' { s' with heap := h' } := by
  have hHC : H' C = none := J.free
  refine I.call' (ch := fp) J.os ?_ ?_ J.bare (fun b hb => ?_)
  · have u : Un (frs X.stack) fp H H' s.heap s'.heap := J.base
    have ne : ∀ b o, s.heap.get? b = some o → b ≠ C := fun b o e => Nat.ne_of_lt (Nat.lt_of_lt_of_le (Heap.lt_size e) hC)
    refine ⟨fun b o e n hb hx => (sb.2 b (ne b o e)).trans (u.keep b o e n hb hx), fun b o e n hb hx => ?_, u.free, fun b o e hx => ?_, u.tups, u.frzs, u.tbls⟩
    · obtain ⟨sl, q⟩ := u.slot b o e n hb hx
      exact ⟨sl, (sb.2 b (ne b o e)).trans q⟩
    · obtain ⟨o', q⟩ := u.there b o e hx
      exact ⟨o', (sb.2 b (ne b o e)).trans q⟩
  · intro b ob e
    refine (J.hok b ob e).stay (fun c w' hc q => (sb.2 c ?_).trans q) (fun _ q => q) fun _ _ q => q
    rintro rfl
    rcases hc with rfl | hc
    · rw [hHC] at e; cases e
    · rw [hHC] at hc; cases hc
  · obtain ⟨_, f1, _, f3, f4, f5⟩ := hf b hb
    exact ⟨f3, f1, f4, f5⟩
end

section
variable {prog : Program} {w : World} {A : Around} {R : Result → Shared → Prop} {s : Shared}
abbrev testsOf (ifs : List Expr) (env : Env) : Sem Bool := forIn ifs true fun c r => if r = true then do let ok ← isTrue c env (eval c env); pure (ForInStep.yield ok) else pure (ForInStep.yield r)
theorem compLoop_any {elt target iter : Expr} {ifs : List Expr} {scope : Scope} {pos : Pos} {it acc : Value} {env : Env} (I : Nat → Shared → Prop)
    (turn : ∀ n s, I n s → wpAny (model prog w) A (pyNext it) (fun r s₁ => match r with
      | none => R (.ok .next) s₁
      | some v => wpAny (model prog w) A (letOwnedTupleGo target it v) (fun _ s₀ => wpAny (model prog w) A (assign target env v) (fun _ s₂ =>
          wpAny (model prog w) A (testsOf ifs env) (fun ok s₃ =>
            if ok = true then wpAny (model prog w) A (eval elt env) (fun x s₄ =>
              wpAny (model prog w) A (call (.builtin "list.append") [acc, x]) (fun _ s₅ => ∃ m, m < n ∧ I m s₅) (notedBy (model prog w) A env fun e s' => R (.error e) s') s₄) (notedBy (model prog w) A env fun e s' => R (.error e) s') s₃
            else ∃ m, m < n ∧ I m s₃) (notedBy (model prog w) A env fun e s' => R (.error e) s') s₂) (notedBy (model prog w) A env fun e s' => R (.error e) s') s₀) (notedBy (model prog w) A env fun e s' => R (.error e) s') s₁) (notedBy (model prog w) A env fun e s' => R (.error e) s') s)
    (n : Nat) (h : I n s) :
    codeAny (model prog w) A (.compLoop (.ListComp elt [⟨target, iter, ifs, 0⟩] scope pos) 0 it acc env) R s := by
  refine codeAny_loop rfl I (fun n s hI => ?_) n h
  show wpAny _ A ((compTurn (.ListComp elt [⟨target, iter, ifs, 0⟩] scope pos) 0 it acc env).onRaise (fun x => do noteFrame x env; theTreesLotGoes x)) _ _ s
  refine wpAny_noted ?_
  rw [compTurn_list]
  refine wpAny_bind (wpAny_standAt (wpAny_bind (wpAny_mono (turn n s hI) (fun r s₁ h₁ => ?_) fun _ _ h' => h')))
  cases r with
  | none => exact wpAny_pure h₁
  | some v =>
    refine wpAny_bind (wpAny_mono h₁ (fun _ s₀ h₀ => ?_) fun _ _ h' => h')
    refine wpAny_bind (wpAny_mono h₀ (fun _ s₂ h₂ => wpAny_bind (wpAny_mono h₂ (fun ok s₃ h₃ => ?_) fun _ _ h' => h')) fun _ _ h' => h')
    cases ok with
    | false => exact wpAny_pure ⟨rfl, h₃⟩
    | true =>
      exact wpAny_bind (wpAny_bind (wpAny_mono h₃ (fun x s₄ h₄ => wpAny_bind (wpAny_mono h₄ (fun _ s₅ h₅ => wpAny_pure (wpAny_pure ⟨rfl, h₅⟩)) fun _ _ h' => h')) fun _ _ h' => h'))
end

def PTs (X : Cx) (ifs : List Expr) (t : TT) : Prop :=
  ∀ (pins : List (Addr × Obj)) (s : Shared) (σ : St) (H : Hp) (Q : Bool → Hp → Prop), Inv X pins σ H s → t σ H Q → wpAny (model X.prog X.w) X.A (testsOf ifs X.env) (TP X pins σ Q) X.xe s
def tTrue : TT := fun _ H Q => Q true H
theorem pts_nil {X : Cx} : PTs X [] tTrue := fun _ _ _ H _ I h => wpAny_tests_nil ⟨H, I, h⟩
theorem pts_one {X : Cx} {c : Expr} {t : TT} (h : PT X c t) : PTs X [c] t := fun pins s σ H Q I q => wpAny_tests_one (h pins s σ H Q I q)

def CompLoop (J : It) (g : TG) (tt : TT) (te : TE) (n : Nat) (fr : St) (D : Addr) (Q : Hp → Prop) (H1 : Hp) : Prop :=
  ∃ W : Nat → Nat → List V → Hp → Prop, (∃ m, W 0 m [] H1) ∧ ∀ i m acc H, W i m acc H → H D = some (.lst acc) ∧
    ((J.stop i H ∧ Q H) ∨ (J.go i H ∧ acc.length < sizeLine ∧ ∃ N : List V → Hp → Prop, (∀ acc' H', N acc' H' → ∃ m', m' < m ∧ W (i + 1) m' acc' H') ∧
      ∀ x H', J.yld i H x H' → g x (List.replicate n none ++ fr) H' fun σ2 H2 => σ2.drop n = fr ∧ tt σ2 H2 fun b H3 =>
      if b = true then te σ2 H3 fun v H4 => H4 D = some (.lst acc) ∧ N (acc ++ [v]) (upd H4 D (.lst (acc ++ [v])))
      else N acc H3))
def tComp (wi : TI) (g : TG) (tt : TT) (te : TE) (n : Nat) (js : List Nat) : TE := fun σ H Q => wi σ H fun J H1 => ∀ D, H1 D = none → CompLoop J g tt te n (takeSt σ js) D (fun H2 => Q (.ref D) H2) (upd H1 D (.lst []))

structure TurnX (A : Around) (cm : Bool) (P : Program) (w : World) (K : PySem.W.Frag) (tg : Expr) (J : It) (fp : List Addr) (it : Addr) (tn : Nat → Heap → Prop) : Prop where
  mem : it ∈ fp
  obj : ∀ i h, tn i h → ∀ b ∈ fp, ∃ o, h.get? b = some o ∧ ∀ v, o.data ≠ .cell v
  keep : ∀ i h h', tn i h → (∀ b ∈ fp, ∀ o, h.get? b = some o → h'.get? b = some o) → tn i h'
  item : ∀ (X : Cx), X.prog = P → X.w = w → X.K = K → X.A = A → X.calm = cm → ∀ (i : Nat) (pins : List (Addr × Obj)) (s : Shared) (σ : St) (H : Hp) (E : Value → Shared → Prop), Inv X pins σ H s → (∀ b ∈ fp, FpOk X pins H b) → tn i s.heap → J.go i H →
    wpAny (model P w) X.A (pyNext (.ref it)) (fun r s1 => ∃ u, r = some u ∧
      wpAny (model P w) X.A (letOwnedTupleGo tg (.ref it) u) (fun _ s2 => ∃ x H', Inv X pins σ H' s2 ∧ RelV x u ∧ J.yld i H x H' ∧ tn (i + 1) s2.heap ∧ ∀ b ∈ fp, H' b = none) E s1) E s
  done : ∀ (X : Cx), X.prog = P → X.w = w → X.K = K → X.A = A → X.calm = cm → ∀ (i : Nat) (pins : List (Addr × Obj)) (s : Shared) (σ : St) (H : Hp) (E : Value → Shared → Prop), Inv X pins σ H s → (∀ b ∈ fp, FpOk X pins H b) → tn i s.heap → J.stop i H →
    wpAny (model P w) X.A (pyNext (.ref it)) (fun r s1 => r = none ∧ Inv X pins σ H s1) E s
  self : ∀ (A : Around) (i : Nat) (s : Shared) (Q : Value → Shared → Prop) (E : Value → Shared → Prop), tn i s.heap → Q (.ref it) s → wpAny (model P w) A (pyIter (.ref it)) Q E s
theorem Turn.x {A : Around} {cm : Bool} {P : Program} {w : World} {K : PySem.W.Frag} {tg : Expr} {J : It} {fp : List Addr} {it : Addr} {tn : Nat → Heap → Prop} (T : Turn P w K tg J fp it tn) (hc : cm = true) : TurnX A cm P w K tg J fp it tn :=
  ⟨T.mem, T.obj, T.keep, fun X a b c _ d => T.item X a b c (d.trans hc), fun X a b c _ d => T.done X a b c (d.trans hc), T.self⟩
section
variable {X : Cx} {elt iter tg : Expr} {ifs : List Expr} {scope : Scope} {pos : Pos} {own frees : List Str} {js : List Nat} {wi : TI} {g : TG} {tt : TT} {te : TE}
theorem comp_block {pins : List (Addr × Obj)} {σ : St} {H2 : Hp} {s2 : Shared} {it : Addr} {fp : List Addr} {tn : Nat → Heap → Prop} {J : It} {E : Value → Shared → Prop} {RR : Value → Addr → Result → Shared → Prop} {QQ : Addr → Hp → Prop}
    (T : CompText X scope own frees js)
    (hg : ∀ C s H fp, PG (cxComp X (own ++ frees) scope (fun _ _ => False) C s H fp) tg g)
    (ht : ∀ C s H fp, PTs (cxComp X (own ++ frees) scope (fun _ _ => False) C s H fp) ifs tt)
    (he : ∀ C s H fp, PE (cxComp X (own ++ frees) scope (fun _ _ => False) C s H fp) elt te)
    (I2 : Inv X pins σ H2 s2) (TT' : TurnX X.A X.calm X.prog X.w X.K tg J fp it tn) (st2 : tn 0 s2.heap) (f2 : ∀ b ∈ fp, FpOk X pins H2 b)
    (hl : ∀ D, H2 D = none → CompLoop J g tt te own.length (takeSt σ js) D (QQ D) (upd H2 D (.lst [])))
    (hRR : ∀ D C σ' H' s', s2.heap.objs.size ≤ C → Inv (cxComp X (own ++ frees) scope (fun _ _ => False) C s2 H2 fp) [] σ' H' s' → QQ D H' → RR (.ref D) C (.ok .next) s') :
    wpAny (model X.prog X.w) X.A (newList []) (fun acc s₃ => wpAny (model X.prog X.w) X.A (newFunctionEnv scope X.env.globals (closOf X.env.cells scope.names []) [] X.env.qual none .none (some X.env)) (fun cenv s₄ =>
      codeAny (model X.prog X.w) X.A (.compStart (.ListComp elt [⟨tg, iter, ifs, 0⟩] scope pos) 0 (.ref it) acc { cenv with scope := relabel scope X.env }) (RR acc cenv.locals) s₄) E s₃) E s2 := by
  refine wpAny_newObj_type (wpAny_newFunctionEnv T.nocell (by intro y hy; simp at hy) (fun h₁ hns₁ hsb₁ => ?_) T.kind)
  dsimp only at hns₁ hsb₁ ⊢
  generalize hH2 : s2.heap.push { cls := .type "list", dict := none, data := .seq ([] : List Value).toArray } = G2 at hns₁ hsb₁ ⊢
  have hC : G2.objs.size = s2.heap.objs.size + 1 := by rw [← hH2, Heap.size_push]
  have hDC : s2.heap.objs.size ≠ G2.objs.size := by rw [hC]; exact Nat.ne_of_lt (Nat.lt_succ_self _)
  have hCle : s2.heap.objs.size ≤ G2.objs.size := by rw [hC]; exact Nat.le_succ _
  have below : ∀ b, b < s2.heap.objs.size → b ≠ G2.objs.size := fun b hb => by rw [hC]; exact Nat.ne_of_lt (Nat.lt_succ_of_lt hb)
  have old : ∀ b o, s2.heap.get? b = some o → h₁.get? b = some o := fun b o e => hsb₁.extBut b o (below b (Heap.lt_size e)) (Heap.get?_push_of_some _ (hH2 ▸ Heap.get?_push_of_some _ e))
  have hacc : h₁.get? s2.heap.objs.size = some { cls := .type "list", data := .seq ([] : List Value).toArray 0 } := hsb₁.extBut _ _ hDC (Heap.get?_push_of_some _ (hH2 ▸ Heap.get?_push_size _ rfl))
  have fpo : ∀ b ∈ fp, ∃ o, s2.heap.get? b = some o := fun b hb => let ⟨o, e, _⟩ := TT'.obj _ _ st2 b hb; ⟨o, e⟩
  have st1 : tn 0 h₁ := TT'.keep _ _ _ st2 fun b _ o e => old b o e
  obtain ⟨W, ⟨m0, w0⟩, turn⟩ := hl s2.heap.objs.size (I2.hok.fresh (Nat.le_refl _))
  have hfx : ∀ {H' : Hp}, (∀ b ∈ fp, H' b = none) → ∀ b ∈ fp, FpOk (cxComp X (own ++ frees) scope (fun _ _ => False) G2.objs.size s2 H2 fp) [] H' b := fun {H'} hn b hb => by
    obtain ⟨_, f1, f2', _, f4, _⟩ := f2 b hb
    obtain ⟨o, ho⟩ := fpo b hb
    refine ⟨hn b hb, below b (Heap.lt_size ho), fun z => ?_, .inl hb, fun x c e => ?_, fun p hp => absurd (show p ∈ ([] : List (Addr × Obj)) from hp) (by simp)⟩
    · rcases List.mem_cons.mp (I2.stkSub b z) with q | q
      · exact f1 q
      · exact f2' q
    · rcases closOf_look (show (closOf X.env.cells scope.names []).lookup x = some c from e) with q | ⟨q1, q2⟩
      · cases q
      · obtain ⟨c', hc'⟩ := closure_ok I2 T x .free q1 rfl
        rw [hc'] at q2
        have q2 : c' = c := q2
        rw [← q2]
        exact f4 x c' hc'
  have fp0 : ∀ b ∈ fp, upd H2 s2.heap.objs.size (.lst []) b = none := fun b hb => by
    obtain ⟨o, ho⟩ := fpo b hb
    rw [upd_ne (Nat.ne_of_lt (Heap.lt_size ho))]
    exact (f2 b hb).1
  have back : ∀ {σ6 : St} {p6 : List (Addr × Obj)} {H6 : Hp} {s6 : Shared}, Inv (cxComp X (own ++ frees) scope (fun _ _ => False) G2.objs.size s2 H2 fp) p6 σ6 H6 s6 → σ6.drop own.length = takeSt σ js →
      Inv (cxComp X (own ++ frees) scope (fun _ _ => False) G2.objs.size s2 H2 fp) [] (List.replicate own.length none ++ takeSt σ js) H6 s6 := fun {σ6 p6 H6 s6} I6 hd => by
    have hl6 : σ6.length = (own ++ frees).length := I6.len
    have J6 := I6.pins_of (pins' := []) fun p hp => absurd hp (by simp)
    refine J6.weak ?_ fun i v e => ?_
    · have q := congrArg List.length hd
      rw [List.length_drop] at q
      rw [List.length_append] at hl6
      rw [List.length_append, List.length_replicate]
      (first | lia | omega)
    · by_cases hi : i < own.length
      · rw [List.getElem?_append_left (by simpa using hi), List.getElem?_replicate, if_pos hi] at e
        cases e
      · rw [List.getElem?_append_right (by simpa using hi), List.length_replicate, ← hd, List.getElem?_drop] at e
        rw [show own.length + (i - own.length) = i by (first | lia | omega)] at e
        exact e
  have loop : ∀ s₃ : Shared, s₃ = { s2 with heap := h₁, toks := s2.toks + ([] : List (Str × Value)).length } →
      codeAny (model X.prog X.w) X.A (.compLoop (.ListComp elt [⟨tg, iter, ifs, 0⟩] scope pos) 0 (.ref it) (.ref s2.heap.objs.size) (compEnvC scope (closOf X.env.cells scope.names []) G2.objs.size X.env))
        (RR (.ref s2.heap.objs.size) G2.objs.size) s₃ := by
    rintro s₃ rfl
    refine compLoop_any (fun n s' => ∃ i acc H', Inv (cxComp X (own ++ frees) scope (fun _ _ => False) G2.objs.size s2 H2 fp) [] (List.replicate own.length none ++ takeSt σ js) H' s' ∧ tn i s'.heap ∧ (∀ b ∈ fp, H' b = none) ∧ W i n acc H') ?_ m0
      ⟨0, [], upd H2 s2.heap.objs.size (.lst []), inv_comp I2 T f2 fpo (Nat.le_refl _) hCle hDC old hacc hns₁, st1, fp0, w0⟩
    rintro n s3 ⟨i, acc, H3, I3, st3, fr3, w3⟩
    obtain ⟨hD3, hcase⟩ := turn i n acc H3 w3
    rcases hcase with ⟨stop, qn⟩ | ⟨go, hz, NN, hNN, step⟩
    · refine wpAny_mono (TT'.done (cxComp X (own ++ frees) scope (fun _ _ => False) G2.objs.size s2 H2 fp) rfl rfl rfl rfl rfl i [] s3 _ H3 (fun _ _ => False) I3 (hfx fr3) st3 stop) (fun r s4 ⟨hr, I4⟩ => ?_) fun _ _ z => z.elim
      subst hr
      exact hRR _ _ _ H3 s4 hCle I4 qn
    · refine wpAny_mono (TT'.item (cxComp X (own ++ frees) scope (fun _ _ => False) G2.objs.size s2 H2 fp) rfl rfl rfl rfl rfl i [] s3 _ H3 (fun _ _ => False) I3 (hfx fr3) st3 go) (fun r s4 ⟨u, hr, h4⟩ => ?_) fun _ _ z => z.elim
      subst hr
      refine wpAny_mono h4 (fun _ s5 ⟨x, H5, I5, r5, y5, st5, fr5⟩ => ?_) fun _ _ z => z.elim
      have I5' := I5.pinned (hfx fr5) (TT'.obj _ _ st5)
      refine wpAny_mono (hg _ _ _ _ _ s5 _ H5 x u _ I5' r5 (step x H5 y5)) (fun _ s6 ⟨σ6, H6, I6, hd6, q6⟩ => ?_) fun _ _ z => z.elim
      refine wpAny_mono (ht _ _ _ _ _ s6 σ6 H6 _ I6 q6) (fun ok s7 ⟨H7, I7, q7⟩ => ?_) fun _ _ z => z.elim
      have again : ∀ {H8 : Hp} {s8 : Shared}, Inv (cxComp X (own ++ frees) scope (fun _ _ => False) G2.objs.size s2 H2 fp) ([] ++ pinsAt fp s5.heap) σ6 H8 s8 → tn (i + 1) s8.heap ∧ ∀ b ∈ fp, H8 b = none := fun {H8 s8} I8 => by
        refine ⟨TT'.keep _ _ _ st5 fun b hb o e => (I8.pin (b, o) (List.mem_append_right _ (List.mem_append_right _ (mem_pinsAt hb e)))).1, fun b hb => ?_⟩
        obtain ⟨o, e, d⟩ := TT'.obj _ _ st5 b hb
        exact (I8.pin (b, o) (List.mem_append_right _ (List.mem_append_right _ (mem_pinsAt hb e)))).2.1
      cases ok with
      | false =>
        rw [if_neg Bool.false_ne_true]
        obtain ⟨m', hm, w7⟩ := hNN _ _ q7
        obtain ⟨t7, n7⟩ := again I7
        exact ⟨m', hm, i + 1, acc, H7, back I7 hd6, t7, n7, w7⟩
      | true =>
        rw [if_pos rfl]
        refine wpAny_mono (he _ _ _ _ _ s7 σ6 H7 _ I7 q7) (fun xv s8 ⟨v, H8, I8, r8, hD8, q8⟩ => ?_) fun _ _ z => z.elim
        obtain ⟨m', hm, w8⟩ := hNN _ _ q8
        refine wpAny_mono (mt_append (X := cxComp X (own ++ frees) scope (fun _ _ => False) G2.objs.size s2 H2 fp) _ s8 σ6 H8 (.ref s2.heap.objs.size) [v] (.ref s2.heap.objs.size) [xv] (fun y H9 => y = .non ∧ H9 = upd H8 s2.heap.objs.size (.lst (acc ++ [v]))) I8 rfl (.cons r8 .nil) ⟨_, acc, v, rfl, rfl, hD8, hz, rfl, rfl⟩)
          (fun _ s9 ⟨y, H9, I9, _, _, e9⟩ => ?_) fun _ _ z => z.elim
        subst e9
        obtain ⟨t9, n9⟩ := again I9
        exact ⟨m', hm, i + 1, acc ++ [v], _, back I9 hd6, t9, n9, w8⟩
  exact codeAny_compStart_list (loop _ rfl) (TT'.self _ 0 _ _ _ st1 (loop _ rfl))

theorem pe_comp (T : CompText X scope own frees js) (hc : X.calm = true) (hi : PI X tg iter wi)
    (hg : ∀ C s H fp, PG (cxComp X (own ++ frees) scope (fun _ _ => False) C s H fp) tg g)
    (ht : ∀ C s H fp, PTs (cxComp X (own ++ frees) scope (fun _ _ => False) C s H fp) ifs tt)
    (he : ∀ C s H fp, PE (cxComp X (own ++ frees) scope (fun _ _ => False) C s H fp) elt te)
    (hs : ∀ x, foldedSetIterable iter X.env x = pure x := by intro _; rfl) :
    PE X (.ListComp elt [⟨tg, iter, ifs, 0⟩] scope pos) (tComp wi g tt te own.length js) := by
  intro pins s σ H Q I h
  rw [eval_ListComp]
  refine wpAny_comprehension_free (use := none) rfl hs (closure_is (closure_ok I T)) T.kind T.names ?_
  refine wpAny_mono (hi pins s σ H _ I h) (fun v s1 h1 => wpAny_mono h1 (fun itv s2 h2 => ?_) fun _ _ z => z) fun _ _ z => z
  obtain ⟨it, fp, tn, J, H2, e, I2, TT', st2, f2, hl⟩ := h2
  subst e
  refine comp_block (QQ := fun D H' => Q (.ref D) H') T hg ht he I2 (TT'.x hc) st2 f2 hl fun D C σ' H' s' hC J' q => ?_
  obtain ⟨m, hn, _⟩ := J'.loc
  exact ⟨m, hn, fun h' sb => ⟨.ref D, H', inv_comp_back I2 f2 hC J' sb, rfl, q⟩⟩
def tSetComp (i : Nat) (wi : TI) (g : TG) (tt : TT) (te : TE) (n : Nat) (js : List Nat) : TS := fun D σ H => tComp wi g tt te n js σ H fun v H1 => D.nx (σ.set i (some v)) H1
theorem ps_comp {i : Nat} {x : Str} {pos' spos : Pos} (hN : X.N.Nodup) (hix : X.N[i]? = some x) (hx : X.env.scope.names.lookup x = some .local) (T : CompText X scope own frees js) (hc : X.calm = true) (hi : PI X tg iter wi)
    (hg : ∀ C s H fp, PG (cxComp X (own ++ frees) scope (fun _ _ => False) C s H fp) tg g)
    (ht : ∀ C s H fp, PTs (cxComp X (own ++ frees) scope (fun _ _ => False) C s H fp) ifs tt)
    (he : ∀ C s H fp, PE (cxComp X (own ++ frees) scope (fun _ _ => False) C s H fp) elt te)
    (hsw : swapsWith (.ListComp elt [⟨tg, iter, ifs, 0⟩] scope pos) (some (.Name x pos')) spos.line X.env = pure true := by rfl)
    (hs : ∀ x, foldedSetIterable iter X.env x = pure x := by intro _; rfl) :
    PS X (.Assign [.Name x pos'] (.ListComp elt [⟨tg, iter, ifs, 0⟩] scope pos) spos) (tSetComp i wi g tt te own.length js) := by
  intro pins s σ H D I h
  rw [exec_Assign_Name_used _ _ _ _ hsw]
  refine wpAny_bind (wpAny_standAt (wpAny_bind ?_))
  show wpAny _ X.A (do let _ ← comprehension (.ListComp elt [⟨tg, iter, ifs, 0⟩] scope pos) scope X.env _ (newList []) false (eval iter X.env) (some (assign (.Name x pos') X.env))) _ _ s
  refine wpAny_bind (wpAny_mono (wpAny_comprehension_free (use := some (assign (.Name x pos') X.env)) (Q := fun _ s' => SP X pins D .next s') rfl hs (closure_is (closure_ok I T)) T.kind T.names ?_) (fun _ s' hq => wpAny_pure (wpAny_pure hq)) fun _ _ e => e)
  refine wpAny_mono (hi pins s σ H _ I h) (fun v s1 h1 => wpAny_mono h1 (fun itv s2 h2 => ?_) fun _ _ z => z) fun _ _ z => z
  obtain ⟨it, fp, tn, J, H2, e, I2, TT', st2, f2, hl⟩ := h2
  subst e
  refine comp_block (QQ := fun D' H' => D.nx (σ.set i (some (.ref D'))) H') T hg ht he I2 (TT'.x hc) st2 f2 hl fun D' C σ' H' s' hC J' q => ?_
  have I3 : Inv X pins σ H' s' := by
    obtain ⟨hh, gg, dd, tt', oo⟩ := s'
    exact inv_comp_back I2 f2 hC J' (Heap.SameBut.refl ..)
  obtain ⟨m, hn, _⟩ := J'.loc
  obtain ⟨oC, es, ep, hoC, hdC, rest⟩ := id hn
  have hHC : H' C = none := J'.free
  have hlC : C ≠ X.env.locals := Nat.ne_of_gt (Nat.lt_of_lt_of_le I2.lt hC)
  have hfC : C ∉ X.fs := fun z => by
    obtain ⟨_, o, ho, _⟩ := I2.funs.mem z
    exact absurd (Nat.lt_of_lt_of_le (Heap.lt_size ho) hC) (Nat.lt_irrefl _)
  have I4 : Inv X (pins ++ [(C, oC)]) σ H' s' := I3.pins_of fun p hp => (List.mem_append.mp hp).elim (fun z => I3.pin p (List.mem_append_right _ z)) fun z => by
    have e : p = (C, oC) := by simpa using z
    subst e
    exact ⟨hoC, hHC, hlC, hfC, fun v z => by have z' : oC.data = .cell v := z; rw [hdC] at z'; cases z'⟩
  show wpAny _ X.A (assign (.Name x pos') X.env (.ref D')) _ _ _
  refine wpAny_assign_Name (store_ok (v := .ref D') I4 hN hix (.inl hx) rfl (fun s5 I5 => ?_) (.inr hx))
  have e5 : s5.heap.get? C = some oC := (I5.pin (C, oC) (List.mem_append_right _ (List.mem_append_right _ (by simp)))).1
  refine ⟨m, ⟨oC, es, ep, e5, hdC, rest⟩, fun h' sb => ⟨_, H', ?_, q⟩⟩
  -- the block's names let go
  have I6 : Inv X pins (σ.set i (some (.ref D'))) H' s5 := I5.unpinned
  refine I6.turned (t' := s5.toks) (fun b o hb e => (sb.2 b hb).trans e) hHC hlC (.inr (Nat.le_trans I2.sz hC)) (fun y c e => ?_) (fun p hp z => ?_)
  · obtain ⟨v, qc⟩ := I2.cell y c e
    exact Nat.ne_of_lt (Nat.lt_of_lt_of_le qc.lt hC)
  · have hp2 := (I2.pin p hp).1
    exact absurd (Nat.lt_of_lt_of_le (Heap.lt_size hp2) (by rw [z]; exact hC)) (Nat.lt_irrefl _)
end

section
variable {K : PySem.W.Frag} {a : Addr} {xs : List V} {g : TG} {tt : TT} {te : TE} {n : Nat} {fr : St} {D : Addr} {Q : Hp → Prop} {H1 : Hp}
theorem comp_list (Pv : Nat → List V → Hp → Prop) (h0 : Pv 0 [] H1) (hl : ∀ i acc H, i ≤ xs.length → Pv i acc H → SqL K H a xs ∧ H D = some (.lst acc) ∧ acc.length ≤ i) (hz : xs.length ≤ sizeLine)
    (hs : ∀ i x acc H, xs[i]? = some x → Pv i acc H → g x (List.replicate n none ++ fr) H fun σ2 H2 => σ2.drop n = fr ∧ tt σ2 H2 fun b H3 =>
      if b = true then te σ2 H3 fun v H4 => H4 D = some (.lst acc) ∧ Pv (i + 1) (acc ++ [v]) (upd H4 D (.lst (acc ++ [v]))) else Pv (i + 1) acc H3)
    (hd : ∀ acc H, Pv xs.length acc H → Q H) : CompLoop (Itl K a) g tt te n fr D Q H1 := by
  refine ⟨fun i m acc H => m = xs.length - i ∧ i ≤ xs.length ∧ Pv i acc H, ⟨xs.length, by simp, Nat.zero_le _, h0⟩, ?_⟩
  rintro i m acc H ⟨rfl, hi, p⟩
  obtain ⟨q, hD, ha⟩ := hl i acc H hi p
  refine ⟨hD, ?_⟩
  by_cases hlt : i < xs.length
  · refine .inr ⟨⟨xs, xs[i], q, by simp [hlt]⟩, by (first | lia | omega), Pv (i + 1), fun acc' H' p' => ⟨xs.length - (i + 1), by (first | lia | omega), rfl, hlt, p'⟩, fun x H' y => ?_⟩
    obtain ⟨e, y⟩ := y
    subst e
    exact hs i x acc _ (y xs q) p
  · have e : i = xs.length := by (first | lia | omega)
    subst e
    exact .inl ⟨⟨xs, q, Nat.le_refl _⟩, hd acc H p⟩
theorem comp_range {lo : Int} {m : Nat} (Pv : Nat → List V → Hp → Prop) (h0 : Pv 0 [] H1) (hl : ∀ i acc H, i ≤ m → Pv i acc H → H D = some (.lst acc) ∧ acc.length ≤ i) (hz : m ≤ sizeLine)
    (hs : ∀ i acc H, i < m → Pv i acc H → g (.int (lo + i)) (List.replicate n none ++ fr) H fun σ2 H2 => σ2.drop n = fr ∧ tt σ2 H2 fun b H3 =>
      if b = true then te σ2 H3 fun v H4 => H4 D = some (.lst acc) ∧ Pv (i + 1) (acc ++ [v]) (upd H4 D (.lst (acc ++ [v]))) else Pv (i + 1) acc H3)
    (hd : ∀ acc H, Pv m acc H → Q H) : CompLoop (Itr lo m) g tt te n fr D Q H1 := by
  refine ⟨fun i k acc H => k = m - i ∧ i ≤ m ∧ Pv i acc H, ⟨m, by simp, Nat.zero_le _, h0⟩, ?_⟩
  rintro i k acc H ⟨rfl, hi, p⟩
  obtain ⟨hD, ha⟩ := hl i acc H hi p
  refine ⟨hD, ?_⟩
  by_cases hlt : i < m
  · refine .inr ⟨hlt, by (first | lia | omega), Pv (i + 1), fun acc' H' p' => ⟨m - (i + 1), by (first | lia | omega), rfl, hlt, p'⟩, fun x H' y => ?_⟩
    obtain ⟨e, y⟩ := y
    subst e y
    exact hs i acc _ hlt p
  · have e : i = m := by (first | lia | omega)
    subst e
    exact .inl ⟨Nat.le_refl _, hd acc H p⟩
end
end L2

namespace L2
open PySem PySem.Spec PyProof.Rows

def compLook (scope osc : Scope) (N frees : List Str) (js : List Nat) : Bool :=
  decide (scope.kind = .function) && scope.names.all (fun y => decide (y.2 ≠ .cell)) && scope.names.all (fun y => decide (y.2 = .local → scope.names.lookup y.1 = some .local)) &&
  scope.names.all (fun y => decide (y.2 = .free → osc.names.lookup y.1 = some .cell ∨ osc.names.lookup y.1 = some .free)) && decide (js.map (fun j => N[j]?) = frees.map some) && frees.all (fun x => decide (scope.names.lookup x = some .free))
theorem compText_of {X : Cx} {scope : Scope} {own frees : List Str} {js : List Nat} (osc : Scope) (N : List Str) (h1 : X.env.scope = osc := by rfl) (h2 : X.N = N := by rfl) (h : compLook scope osc N frees js = true := by decide +kernel) : CompText X scope own frees js := by
  unfold compLook at h
  simp only [Bool.and_eq_true, decide_eq_true_eq, List.all_eq_true] at h
  obtain ⟨⟨⟨⟨⟨a, b⟩, c⟩, d⟩, e⟩, f⟩ := h
  exact ⟨a, b, c, by rw [h1]; exact d, by rw [h2]; exact e, f⟩

mutual
inductive DatV (K : PySem.W.Frag) (H : Hp) : V → PyData → Prop
  | non : DatV K H .non .none
  | bl (b : Bool) : DatV K H (.bl b) (.bool b)
  | int (i : Int) : DatV K H (.int i) (.int i)
  | str (x : Str) : DatV K H (.str x) (.str x)
  | lst {a : Addr} {xs : List V} {ds : List PyData} (h : SqL K H a xs) (r : DatVs K H xs ds) : DatV K H (.ref a) (.list ds)
  | tup {a : Addr} {xs : List V} {ds : List PyData} (h : SqT K H a xs) (r : DatVs K H xs ds) : DatV K H (.ref a) (.tuple ds)
inductive DatVs (K : PySem.W.Frag) (H : Hp) : List V → List PyData → Prop
  | nil : DatVs K H [] []
  | cons {x : V} {d : PyData} {xs : List V} {ds : List PyData} (h : DatV K H x d) (r : DatVs K H xs ds) : DatVs K H (x :: xs) (d :: ds)
end
section
variable {X : Cx} {pins : List (Addr × Obj)} {σ : St} {H : Hp} {s : Shared}
mutual
theorem DatV.reads (I : Inv X pins σ H s) : ∀ {v : V} {d : PyData} {u : Value}, DatV X.K H v d → RelV v u → ∃ as, Reads s.heap u d as
  | _, _, u, .non, r => by cases (show u = Value.none from r); exact ⟨_, .none⟩
  | _, _, u, .bl b, r => by cases (show u = Value.bool b from r); exact ⟨_, .bool b⟩
  | _, _, u, .int i, r => by obtain ⟨t, rfl⟩ := (show ∃ t, u = Value.int i t from r); exact ⟨_, .int i t⟩
  | _, _, u, .str x, r => by obtain ⟨t, rfl⟩ := (show ∃ t, u = Value.str x t from r); exact ⟨_, .str x t⟩
  | _, _, u, .lst (a := a) h rs, r => by
    cases (show u = Value.ref a from r)
    obtain ⟨its, rv, ⟨o, n, e, c, _, d⟩, _⟩ := I.list h
    obtain ⟨as, q⟩ := DatVs.reads I rs rv
    exact ⟨_, .list e c d (by simpa using q)⟩
  | _, _, u, .tup (a := a) h rs, r => by
    cases (show u = Value.ref a from r)
    obtain ⟨its, rv, ⟨o, e, c, n, d⟩, _⟩ := I.tuple h
    obtain ⟨as, q⟩ := DatVs.reads I rs rv
    exact ⟨_, .tuple e c d (by simpa using q)⟩
theorem DatVs.reads (I : Inv X pins σ H s) : ∀ {vs : List V} {ds : List PyData} {us : List Value}, DatVs X.K H vs ds → Vals vs us → ∃ as, ReadsAll s.heap us ds as
  | _, _, _, .nil, .nil => ⟨_, .nil⟩
  | _, _, _, .cons h r, .cons rv rr => by
    obtain ⟨as, q⟩ := DatV.reads I h rv
    obtain ⟨bs, q2⟩ := DatVs.reads I r rr
    exact ⟨_, .cons q q2⟩
end
end
section
variable {X : Cx}
def rEqD (K : PySem.W.Frag) : R2 := fun x y H Q => ∃ d e, DatV K H x d ∧ DatV K H y e ∧ SeqAt.shaped d = true ∧ SeqAt.shaped e = true ∧ Q (.bl (PyData.eqv d e)) H
def rNeD (K : PySem.W.Frag) : R2 := fun x y H Q => ∃ d e, DatV K H x d ∧ DatV K H y e ∧ SeqAt.shaped d = true ∧ SeqAt.shaped e = true ∧ Q (.bl (!PyData.eqv d e)) H
theorem op_eqD (hu : X.A.units + 64 < cLine) : OpR X (compareOp .Eq) (rEqD X.K) := by
  intro pins s σ H x y v u Q I rx ry h
  obtain ⟨d, e, h1, h2, s1, s2, q⟩ := h
  obtain ⟨as, ra⟩ := h1.reads I rx
  obtain ⟨bs, rb⟩ := h2.reads I ry
  exact eq_dataH ra rb s1 s2 hu ⟨.bl _, H, I, rfl, q⟩
theorem op_neD (hu : X.A.units + 64 < cLine) : OpR X (compareOp .NotEq) (rNeD X.K) := by
  intro pins s σ H x y v u Q I rx ry h
  obtain ⟨d, e, h1, h2, s1, s2, q⟩ := h
  obtain ⟨as, ra⟩ := h1.reads I rx
  obtain ⟨bs, rb⟩ := h2.reads I ry
  exact ne_dataH ra rb s1 s2 hu ⟨.bl _, H, I, rfl, q⟩
theorem mt_bits : MtR X "int.bit_length" (fun x xs H Q => ∃ i, x = .int i ∧ xs = [] ∧ Q (.int (Builtin.Int.intBits i)) H) := by
  intro pins s σ H x xs v us Q I rx rs h
  obtain ⟨i, rfl, rfl, q⟩ := h
  obtain ⟨t, rfl⟩ := rx
  cases rs
  exact call_int_bit_length ⟨.int _, H, I.tok _, ⟨_, rfl⟩, q⟩
end
end L2
namespace L2
open PySem PySem.Spec PyProof.Rows
section
variable {X : Cx}
end
theorem dl {n : Nat} (h : Nat.ble n 1000 = true) : n ≤ sizeLine := Nat.le_of_lt (small1000 (Nat.le_of_ble_eq_true h))
theorem modC {j : Int} (h : decide (0 < j) = true) : 0 < j := of_decide_eq_true h
theorem iteD {c A B : Prop} [Decidable c] (h : ¬ c) (hb : B) : if decide c = true then A else B := by
  rw [decide_eq_false h]
  exact iteF hb
theorem iteP {c A B : Prop} [Decidable c] (h : c) (ha : A) : if decide c = true then A else B := by
  rw [decide_eq_true h]
  exact iteT ha
theorem Same.new {H : Hp} {p : Addr} {o : HO} (h : H p = none) : Same H (upd H p o) := fun b u e => by
  rw [upd_ne (ne_of_none e h)]
  exact e
theorem Same.put {H H2 : Hp} {D : Addr} {o : HO} (s : Same H H2) (h : H D = none) : Same H (upd H2 D o) := fun b u e => by
  rw [upd_ne (ne_of_none e h)]
  exact s b u e
def Tups (H H' : Hp) : Prop := ∀ b xs, H b = some (.tup xs) → H' b = some (.tup xs)
theorem Same.tups {H H' : Hp} (s : Same H H') : Tups H H' := fun b xs e => s b _ e
theorem Tups.trans {H H1 H2 : Hp} (a : Tups H H1) (b : Tups H1 H2) : Tups H H2 := fun c xs e => b c xs (a c xs e)
theorem Tups.put {H : Hp} {D : Addr} {o : HO} {ys : List V} (h : H D = some (.lst ys)) : Tups H (upd H D o) := fun b xs e => by
  rw [upd_ne (ne_of e h (by intro z; cases z))]
  exact e
theorem Paired.getP {α β : Type} {F : α → β → Prop} : ∀ {l : List α} {r : List β} {i : Nat} {x : α}, Paired F l r → l[i]? = some x → ∃ y, r[i]? = some y ∧ F x y
  | _, _, _, _, .nil, e => by simp at e
  | _, _, 0, _, .cons h _, e => by
    simp at e
    subst e
    exact ⟨_, rfl, h⟩
  | _, _, i + 1, x, .cons _ t, e => by
    obtain ⟨y, h1, h2⟩ := Paired.getP (i := i) (x := x) t (by simpa using e)
    exact ⟨y, by simpa using h1, h2⟩
end L2

namespace L2
open PySem PySem.Spec PyProof.Rows
section
variable {X : Cx} {l : Expr} {tl : TE} {tg a b o e : Expr} {ta tb to : TE} {es : List Expr}
theorem op_eqK (K : PySem.W.Frag) (hu : X.A.units + 64 < cLine) (h : X.K = K := by rfl) : OpR X (compareOp .Eq) (rEqD K) := by subst h; exact op_eqD hu
theorem op_neK (K : PySem.W.Frag) (hu : X.A.units + 64 < cLine) (h : X.K = K := by rfl) : OpR X (compareOp .NotEq) (rNeD K) := by subst h; exact op_neD hu
def rLen (K : PySem.W.Frag) : List V → Hp → VK → Prop := fun xs H Q => ∃ p ys, xs = [.ref p] ∧ (SqL K H p ys ∨ SqT K H p ys) ∧ Q (.int ys.length) H
theorem lenK (K : PySem.W.Frag) (h : X.K = K := by rfl) : CallR X (.builtin "len") (rLen K) := by subst h; exact call_len_seq
def rTupl (K : PySem.W.Frag) : List V → Hp → VK → Prop := fun xs H Q => ∃ p ys, xs = [.ref p] ∧ ((SqL K H p ys ∧ ∀ l, H l = none → Q (.ref l) (upd H l (.tup ys))) ∨ (SqT K H p ys ∧ Q (.ref p) H))
theorem tuplK (K : PySem.W.Frag) (h : X.K = K := by rfl) : CallR X (.type "tuple") (rTupl K) := by subst h; exact call_tuple_of
theorem ixL (K : PySem.W.Frag) (h : X.K = K := by rfl) : IxR X (rIxL K) := by subst h; exact ix_list
theorem ixT (K : PySem.W.Frag) (h : X.K = K := by rfl) : IxR X (rIxT K) := by subst h; exact ix_tup
theorem slL (K : PySem.W.Frag) (h : X.K = K := by rfl) : SlR X (rSlL K) := by subst h; exact sl_list
theorem slT (K : PySem.W.Frag) (h : X.K = K := by rfl) : SlR X (rSlT K) := by subst h; exact sl_tup
theorem inK (K : PySem.W.Frag) (h : X.K = K := by rfl) : OpR X (compareOp .In) (rIn K false) := by subst h; exact op_in_seq
theorem notInK (K : PySem.W.Frag) (h : X.K = K := by rfl) : OpR X (compareOp .NotIn) (rIn K true) := by subst h; exact op_notIn_seq
theorem piL (K : PySem.W.Frag) (hl : PE X l tl) (h : X.K = K := by rfl) : PI X tg l (iList K tl) := by subst h; exact pi_list hl
theorem piT (K : PySem.W.Frag) (hl : PE X l tl) (h : X.K = K := by rfl) : PI X tg l (iTup K tl) := by subst h; exact pi_tup hl
theorem pgT (K : PySem.W.Frag) {k : Nat} {t : TGs} {n : Nat} {pos : Pos} (hc : X.calm = true) (hp : PGs X es t) (hn : (assignEach es X.env).length = n := by rfl) (hst : (assignEach es X.env).findIdx? (·.1) = none := by rfl) (h : X.K = K := by rfl) :
    PG X (.Tuple es k pos) (gTup K n t) := by subst h; exact pg_tup hc hp hn hst
end
end L2

namespace L2
open PySem PySem.Spec PyProof.Rows

def SecD (od : Option Addr) (c : Value) (e : Addr) (h : Heap) : Prop := ∃ oe vs, h.get? e = some oe ∧ oe.data = .fields vs ∧ vs[2]? = some c ∧ oe.dict = od
theorem dict_map (o : Obj) (f) : (o.mapFields f).dict = o.dict := by
  obtain ⟨c, d, dt, sl⟩ := o
  cases dt <;> rfl
section
variable {M : Model} {A : Around} {E : Value → Shared → Prop} {s : Shared} {B : Heap} {env : Env} {outer l : List Env} {L e : Addr} {cls a0 : Value} {Q : Unit → Shared → Prop} {od : Option Addr} {c : Value}
theorem upd_rec {h : Heap} {T : Addr} {oT : Obj} {ts : Array Value} (f : Obj → Obj) (hT : h.get? T = some oT) (hd : oT.data = .fields ts) : h.UpToSlots (h.update T f) := fun b o hb hn => by
  have ne : T ≠ b := fun z => by
    rw [← z, hT] at hb
    cases hb
    exact hn ts hd
  exact ⟨o.slots, (Heap.get?_update_other h f ne).trans hb⟩
theorem stays_rec {h : Heap} {T : Addr} (f : Obj → Obj) (k : B.StaysIn h) (n : B.get? T = none) : B.StaysIn (h.update T f) := fun b o hb => by
  have ne : T ≠ b := fun z => by
    rw [← z, n] at hb
    cases hb
  exact (Heap.get?_update_other h f ne).trans (k b o hb)
theorem FunFrames_up {h h' : Heap} (x : h.FunFrames B l) (u : h.UpToSlots h') : h'.FunFrames B l := x.of_keeps fun b o hb hn =>
  let ⟨_, q⟩ := u b o hb hn
  ⟨_, q, rfl⟩
theorem land2 {fl : Value} (hk : B.StaysIn s.heap) (hn : B.get? e = none) (hl : s.heap.FunFrames B l) (ht : s.heap.TracedAtW B e cls a0 fl) (h2 : SecD od c e s.heap)
    (q : ∀ h', Heap.FlyingW B l e cls a0 h' → SecD od c e h' → s.heap.UpToSlots h' → Q () { s with heap := h' }) : wpAny M A (setFlight (.ref e) none) Q E s := by
  obtain ⟨oe, vs, T, oT, ts, ge, hc, de, f1, nT, Te, gT, dT, f3⟩ := ht
  have z3 : 3 < ts.size := (Array.getElem?_eq_some_iff.mp f3).1
  rw [setFlight]
  refine wpAny_bind (wpAny_field ge de f1 ?_)
  rw [if_pos (by simp)]
  refine wpAny_setField gT dT z3 ?_
  have up := upd_rec (Obj.mapFields (·.setIfInBounds 3 ((none : Option Addr).elim Value.none fun f => rawInt f))) gT dT
  have ge' := (Heap.get?_update_other s.heap (Obj.mapFields (·.setIfInBounds 3 ((none : Option Addr).elim Value.none fun f => rawInt f))) Te).trans ge
  have dT' := Obj.data_mapFields dT (·.setIfInBounds 3 ((none : Option Addr).elim Value.none fun f => rawInt f))
  refine q _ ⟨stays_rec _ hk nT, hn, FunFrames_up hl up, oe, vs, T, _, _, ge', hc, de, f1, nT, Te, Heap.get?_update_self _ gT (Obj.isFreed_of_fields dT'), dT', by simp [z3]⟩ ?_ up
  obtain ⟨o2, v2, g2, d2, k2, z2⟩ := h2
  rw [ge] at g2
  cases g2
  exact ⟨oe, v2, ge', d2, k2, z2⟩
theorem entry2 {oe : Obj} {vs : Array Value} {head : Value} {hadNext : Bool} (hfr : A.frames = some (env :: outer)) (hl : s.heap.FunFrames B (env :: outer)) (hf : env.frame = some L) (ge : s.heap.get? e = some oe) (hk : B.StaysIn s.heap) (hn : B.get? e = none)
    (de : oe.data = .fields vs) (hz : 1 < vs.size) (h0 : vs[0]? = some a0) (h2 : vs[2]? = some c) (hz2 : oe.dict = od)
    (q : ∀ h', Heap.HeldW B (env :: outer) e oe.cls a0 L h' → SecD od c e h' → s.heap.UpToSlots h' → Q () { s with heap := h' }) :
    wpAny M A (do let a ← frameOf env; let pl ← entryPlaceOf L hadNext; let b ← EntryCells.newEntry head a .none (rawInt L) .none pl; setField (.ref e) 1 b) Q E s := by
  have noFr : e ∉ (env :: outer).filterMap (·.frame) := fun z => by
    obtain ⟨_, o, ho, nf⟩ := hl.mem z
    rw [ge] at ho
    cases ho
    exact nf vs de
  refine wpAny_bind (wpAny_frameOf_fun hfr hl hf fun h1 so => wpAny_bind (wpAny_entryPlaceOf fun pl ip => ?_))
  rw [EntryCells.newEntry, newFields]
  refine wpAny_bind (wpAny_newObj_type ?_ (ip.sizeOk5 _ _ _ _ _))
  generalize hnw : ({ cls := .type "traceback", dict := none, data := .fields ([head, .ref L, .none, rawInt L, .none] ++ (if pl.isEmpty then List.replicate 6 Value.none else pl)).toArray } : Obj) = nw
  have dn : nw.data = .fields ([head, .ref L, .none, rawInt L, .none] ++ (if pl.isEmpty then List.replicate 6 Value.none else pl)).toArray := by rw [← hnw]
  have ge1 : h1.get? e = some oe := (so.2.1 e noFr).trans ge
  have ge2 := Heap.get?_push_of_some (h := h1) nw ge1
  have Te : h1.objs.size ≠ e := Nat.ne_of_gt (Heap.lt_size ge1)
  refine wpAny_setField ge2 de hz ?_
  have de3 := Obj.data_mapFields de (·.setIfInBounds 1 (Value.ref h1.objs.size))
  have ge3 := Heap.get?_update_self (Obj.mapFields (·.setIfInBounds 1 (Value.ref h1.objs.size))) ge2 (Obj.isFreed_of_fields de3)
  have gT3 := (Heap.get?_update_other (h1.push nw) (Obj.mapFields (·.setIfInBounds 1 (Value.ref h1.objs.size))) (Ne.symm Te)).trans (Heap.get?_push_size h1 (by rw [← hnw]; rfl))
  have up : s.heap.UpToSlots ((h1.push nw).update e (Obj.mapFields (·.setIfInBounds 1 (Value.ref h1.objs.size)))) := by
    have u1 : s.heap.UpToSlots h1 := fun b o hb _ => so.2.2 b o hb
    exact (u1.trans (.of_keeps fun b o hb => Heap.get?_push_of_some nw hb)).trans (upd_rec _ ge2 de)
  have k1 : B.StaysIn h1 := fun b o hb => (so.2.1 b fun z => by rw [(hl.mem z).1] at hb; cases hb).trans (hk b o hb)
  have k2 : B.StaysIn (h1.push nw) := fun b o hb => Heap.get?_push_of_some nw (k1 b o hb)
  refine q _ ⟨stays_rec _ k2 hn, hn, FunFrames_up hl up, _, _, h1.objs.size, nw, _, ge3, ⟨Obj.cls_mapFields _ _, by rw [Array.getElem?_setIfInBounds_ne (by decide)]; exact h0⟩, de3, by simp [hz], k1.fresh, Te, gT3, dn, ?_⟩ ?_ up
  · first | (simp; done) | (rcases ip with rfl | ⟨_, _, _, _, _, _, _, rfl⟩ <;> simp)
  · exact ⟨_, _, ge3, de3, by rw [Array.getElem?_setIfInBounds_ne (by decide)]; exact h2, (dict_map _ _).trans hz2⟩
theorem note2 (hfr : A.frames = some (env :: outer)) (hf : env.frame = some L) (fl : Heap.FlyingW B (env :: outer) e cls a0 s.heap) (h2 : SecD od c e s.heap)
    (q : ∀ h', Heap.HeldW B (env :: outer) e cls a0 L h' → SecD od c e h' → s.heap.UpToSlots h' → Q () { s with heap := h' }) : wpAny M A (noteFrame (.ref e) env) Q E s := by
  obtain ⟨hk, hn, hl, oe, vs, T, oT, ts, ge, ⟨hc, h0⟩, de, f1, nT, Te, gT, dT, f3⟩ := fl
  obtain ⟨o2, v2, g2, d2, k2, z2⟩ := h2
  rw [ge] at g2
  cases g2
  rw [de] at d2
  cases d2
  cases hc
  rw [noteFrame]
  simp only [hf]
  refine wpAny_bind (wpAny_field ge de f1 ?_)
  rw [if_pos (by simp)]
  refine wpAny_bind (wpAny_field gT dT f3 ?_)
  rw [if_neg (by simp [rawInt])]
  refine wpAny_bind (wpAny_setField gT dT (Array.getElem?_eq_some_iff.mp f3).1 ?_)
  have up := upd_rec (Obj.mapFields (·.setIfInBounds 3 Value.none)) gT dT
  have ge' := (Heap.get?_update_other s.heap (Obj.mapFields (·.setIfInBounds 3 Value.none)) Te).trans ge
  exact entry2 (s := { s with heap := s.heap.update T (Obj.mapFields (·.setIfInBounds 3 Value.none)) }) hfr (FunFrames_up hl up) hf ge' (stays_rec _ hk nT) hn de (Array.getElem?_eq_some_iff.mp f1).1 h0 k2 z2 fun h' x1 x2 x3 => q h' x1 x2 (up.trans x3)
theorem fly2 (x : Heap.FlyingW B (env :: outer) e cls a0 s.heap) : Heap.FlyingW B outer e cls a0 s.heap :=
  let ⟨k1, k2, ⟨_, _, k3⟩, k4⟩ := x
  ⟨k1, k2, k3, k4⟩
theorem leave_on2 (hfr : A.frames = some (env :: outer)) (hf : env.frame = some L) (fl : Heap.FlyingW B (env :: outer) e cls a0 s.heap) (h2 : SecD od c e s.heap)
    (q : ∀ h', Heap.FlyingW B outer e cls a0 h' → SecD od c e h' → s.heap.UpToSlots h' → Q () { s with heap := h' }) : wpAny M A (leaving env (.ref e)) Q E s := by
  rw [leaving]
  refine wpAny_bind (note2 hfr hf fl h2 fun h' x1 x2 x3 => ?_)
  obtain ⟨y1, y2, y3, y4⟩ := x1
  exact land2 (s := { s with heap := h' }) y1 y2 y3 y4 x2 fun h'' z1 z2 z3 => q h'' (fly2 (s := { s with heap := h'' }) z1) z2 (x3.trans z3)
theorem leave_new {oe : Obj} {vs : Array Value} (hfr : A.frames = some (env :: outer)) (hf : env.frame = some L) (hk : B.StaysIn s.heap) (hn : B.get? e = none) (hl : s.heap.FunFrames B (env :: outer)) (ge : s.heap.get? e = some oe) (de : oe.data = .fields vs)
    (h0 : vs[0]? = some a0) (h1 : vs[1]? = some .none) (h2 : vs[2]? = some c) (hz2 : oe.dict = od)
    (q : ∀ h', Heap.FlyingW B outer e oe.cls a0 h' → SecD od c e h' → s.heap.UpToSlots h' → Q () { s with heap := h' }) : wpAny M A (leaving env (.ref e)) Q E s := by
  rw [leaving, noteFrame]
  simp only [hf]
  refine wpAny_bind (wpAny_bind (wpAny_field ge de h1 ?_))
  rw [if_neg (by decide)]
  refine entry2 (a0 := a0) hfr hl hf ge hk hn de (Array.getElem?_eq_some_iff.mp h1).1 h0 h2 hz2 fun h' x1 x2 x3 => ?_
  obtain ⟨y1, y2, y3, y4⟩ := x1
  exact land2 (s := { s with heap := h' }) y1 y2 y3 y4 x2 fun h'' z1 z2 z3 => q h'' (fly2 (s := { s with heap := h'' }) z1) z2 (x3.trans z3)
end
end L2

namespace L2
open PySem PySem.Spec PyProof.Rows

section
variable {P : Program} {w : World} {H H0 H1 : Hp} {h h0 h1 h2 : Heap} {a : Addr} {o : HO} {fs : List Addr} {B : Heap}
theorem ObjOk.thing (x : ObjOk P w H h a o) : ∃ ob, h.get? a = some ob := by
  cases o with
  | lst xs => obtain ⟨_, _, _, _, e⟩ := x; exact ⟨_, e⟩
  | tup xs => obtain ⟨_, _, _, ob, e, _⟩ := x; exact ⟨ob, e⟩
  | dK kvs => obtain ⟨_, _, _, _, ob, _, _, e, _⟩ := x; exact ⟨ob, e⟩
  | dT kvs => obtain ⟨_, _, _, _, ob, _, _, e, _⟩ := x; exact ⟨ob, e⟩
  | set S n => obtain ⟨ob, _, _, _, e, _⟩ := x; exact ⟨ob, e⟩
  | ins C dx fs => obtain ⟨_, _, _, e, _⟩ := x; exact ⟨_, e⟩
  | own y => exact x
  | xd fs => obtain ⟨_, ⟨ob, _, _, e, _⟩, _⟩ := x; exact ⟨ob, e⟩
  | rng lo hi => obtain ⟨_, _, _, e⟩ := x; exact ⟨_, e⟩
  | frz ob u => obtain ⟨e, _⟩ := x; exact ⟨_, e⟩
  | tbl ps => exact ⟨_, (show h.get? a = some _ from x)⟩
  | met f y => exact ⟨_, (show h.get? a = some _ from x)⟩
  | ext φ => obtain ⟨_, e, _⟩ := x; exact e
def Cov (B : Heap) (fs : List Addr) (h0 : Heap) (H : Hp) (h : Heap) : Prop := ∀ b o, h.get? b = some o → (H b ≠ none ∨ ∃ o', h0.get? b = some o') → b ∉ fs → B.get? b = some o
theorem stays_un (un : Un fs [] H0 H1 h0 h1) (hok : HOk P w H1 h1) (nof : ∀ b ∈ fs, H1 b = none) (fr : ∀ b ∈ fs, ∀ ob, h1.get? b = some ob → ∀ vs, ob.data ≠ .fields vs) (cov : Cov B fs h0 H1 h1)
    (hB : B.StaysIn h2) (up : h1.UpToSlots h2) : Un fs [] H0 H1 h0 h2 ∧ HOk P w H1 h2 ∧ Cov B fs h0 H1 h2 := by
  have inB : ∀ b ob, h1.get? b = some ob → (H1 b ≠ none ∨ ∃ o', h0.get? b = some o') → b ∉ fs → h2.get? b = some ob := fun b ob e c n => hB b ob (cov b ob e c n)
  have trk : ∀ b u, H1 b = some u → b ∉ fs := fun b u e z => by
    rw [nof b z] at e
    cases e
  refine ⟨⟨fun b ob e n hb hx => inB b ob (un.keep b ob e n hb hx) (.inr ⟨ob, e⟩) hb, fun b ob e n hb hx => ?_, un.free, fun b ob e hx => ?_, un.tups, un.frzs, un.tbls⟩, fun b u e => ?_, fun b ob e c n => ?_⟩
  · obtain ⟨sl, q⟩ := un.slot b ob e n hb hx
    obtain ⟨sl', q'⟩ := up b _ q (fr b hb _ q)
    exact ⟨sl', q'⟩
  · obtain ⟨o', q⟩ := un.there b ob e hx
    by_cases hb : b ∈ fs
    · obtain ⟨sl', q'⟩ := up b _ q (fr b hb _ q)
      exact ⟨_, q'⟩
    · exact ⟨o', inB b o' q (.inr ⟨ob, e⟩) hb⟩
  · refine (hok b u e).stay (fun c v hc q => ?_) (fun _ q => q) fun _ _ q => q
    have hct : ∃ z, H1 c = some z := by
      rcases hc with hc | hc
      · rw [hc]
        exact ⟨u, e⟩
      · exact ⟨_, hc⟩
    obtain ⟨z, hz⟩ := hct
    exact inB c v q (.inl (by rw [hz]; simp)) (trk c z hz)
  · have ht : ∃ o1, h1.get? b = some o1 := by
      rcases c with c | ⟨o', c⟩
      · cases hz : H1 b with
        | none => exact absurd hz c
        | some z => exact (hok b z hz).thing
      · exact un.there b o' c (by simp)
    obtain ⟨o1, q⟩ := ht
    have q2 := cov b o1 q c n
    have q3 := hB b o1 q2
    rw [e] at q3
    rw [Option.some.inj q3]
    exact q2
end
def ExcO (ea : Addr) (cls : Value) : HO := .ext fun h => ∃ oe vs, h.get? ea = some oe ∧ oe.cls = cls ∧ oe.data = .fields vs ∧ vs[2]? = some .none
def CtxE (E : XK) (cls : Value) (od : Option Addr) (c : Value) (H : Hp) : Prop := (c = .none ∧ (∃ C0 : Addr, cls = .ref C0) ∧ E cls od H) ∨ ∃ C e' C', cls = .ref C ∧ od = none ∧ c = .ref e' ∧ H e' = some (ExcO e' C') ∧ E (.int (C : Int) e') none H
def CX1 (P : Program) (w : World) : CXT := fun outer H s E e s' => ∃ (ea : Addr) (cls a0 : Value) (od : Option Addr) (c : Value) (H' : Hp) (B : Heap), e = .ref ea ∧ s'.os = s.os ∧ AllBare s'.gens ∧ Un (frs outer) [] H H' s.heap s'.heap ∧ HOk P w H' s'.heap ∧ H' ea = none ∧
  Cov B (frs outer) s.heap H' s'.heap ∧ Heap.FlyingW B outer ea cls a0 s'.heap ∧ SecD od c ea s'.heap ∧ CtxE E cls od c H'
structure Out (X : Cx) (E : XK) : Prop where
  stk : X.stack = X.env :: X.outer
  fr : X.env.frame = some X.env.locals
  ex : X.ex = []
  xe : ∀ e s', wpAny (model X.prog X.w) X.A (leaving X.env e) (fun _ s'' => CX1 X.prog X.w X.outer X.H₀ X.s₀ E e s'') (fun e' s'' => CX1 X.prog X.w X.outer X.H₀ X.s₀ E e' s'') s' → X.xe e s'
def Thr (X : Cx) (E : XK) : Prop := ∀ (pins : List (Addr × Obj)) (σ : St) (H : Hp) (s : Shared) (h1 : Heap) (ea C0 : Addr) (vs : List Value), Inv X pins σ H s → Heap.MadeExcOf s.heap h1 ea (.ref C0) vs → E (.ref C0) none H → X.xe (.ref ea) { s with heap := h1 }
section
variable {X : Cx} {E : XK} {pins : List (Addr × Obj)} {σ : St} {H : Hp} {s : Shared}
theorem Inv.fsData (I : Inv X pins σ H s) : ∀ b ∈ X.fs, ∀ ob, s.heap.get? b = some ob → ∀ vs, ob.data ≠ .fields vs := fun b hb ob e => by
  obtain ⟨_, o, ho, hnf⟩ := I.funs.mem hb
  rw [e] at ho
  cases ho
  exact hnf
theorem Inv.fsFree (I : Inv X pins σ H s) (hx : X.ex = []) : ∀ b ∈ X.fs, H b = none := fun b hb => by
  obtain ⟨_, o, ho, _⟩ := I.ok.funs.mem hb
  exact I.base.free b o ho (I.ok.frf b hb) (by rw [hx]; simp)
theorem Cov.outer {B h0 : Heap} {h : Heap} (I : Inv X pins σ H s) (cov : Cov B (frs X.stack) h0 H h) (k : ∀ b o, X.s₀.heap.get? b = some o → ∃ o', h0.get? b = some o') : Cov B X.fs X.s₀.heap H h := fun b o e c n => by
  refine cov b o e (c.imp id fun ⟨o', q⟩ => k b o' q) fun z => ?_
  rcases List.mem_cons.mp (I.stkSub b z) with q | q
  · subst q
    rcases c with c | ⟨o', c⟩
    · exact c I.free
    · exact absurd (Nat.lt_of_lt_of_le (Heap.lt_size c) I.ok.above) (Nat.lt_irrefl _)
  · exact n q
theorem fly_out (O : Out X E) (I : Inv X pins σ H s) {B : Heap} {ea : Addr} {cls a0 : Value} {od : Option Addr} {c : Value} {h2 : Heap} (cov : Cov B X.fs X.s₀.heap H s.heap) (fl : Heap.FlyingW B X.outer ea cls a0 h2) (sc : SecD od c ea h2) (up : s.heap.UpToSlots h2) (hn : H ea = none) (q : CtxE E cls od c H) :
    CX1 X.prog X.w X.outer X.H₀ X.s₀ E (.ref ea) { s with heap := h2 } := by
  have un : Un X.fs [] X.H₀ H X.s₀.heap s.heap := by
    have u := I.base
    rw [O.ex] at u
    exact u
  obtain ⟨u2, ok2, c2⟩ := stays_un un I.hok (I.fsFree O.ex) I.fsData cov fl.1 up
  exact ⟨ea, cls, a0, od, c, H, B, rfl, I.os, I.bare, u2, ok2, hn, c2, fl, sc, q⟩
theorem Out.thrC (O : Out X E) {ea : Addr} {oe : Obj} {vs : Array Value} {a0 c : Value} (I : Inv X pins σ H s) (ge : s.heap.get? ea = some oe) (de : oe.data = .fields vs) (h0 : vs[0]? = some a0) (h1 : vs[1]? = some .none) (h2 : vs[2]? = some c)
    (hn : H ea = none) (new : X.s₀.heap.get? ea = none) (q : CtxE E oe.cls oe.dict c H) : X.xe (.ref ea) s := by
  refine O.xe _ _ ?_
  have hfr : X.A.frames = some (X.env :: X.outer) := by rw [I.ok.frames, O.stk]
  have hl : s.heap.FunFrames (PySem.W.hideAll s.heap (ea :: frs X.stack)) (X.env :: X.outer) := by
    have z := PySem.W.funFrames_hide (as := ea :: frs X.stack) I.stack fun env he b hb => List.mem_cons_of_mem _ (List.mem_filterMap.mpr ⟨env, he, hb⟩)
    rw [O.stk] at z ⊢
    exact z
  refine leave_new hfr O.fr (fun b o e => PySem.W.of_hideAll _ e) (PySem.W.hideAll_none _ (List.mem_cons_self ..)) hl ge de h0 h1 h2 rfl fun h3 fl sc up => ?_
  refine fly_out O I (Cov.outer I (h0 := X.s₀.heap) (fun b o e c n => ?_) fun b o e => ⟨o, e⟩) fl sc up hn q
  refine PySem.W.hideAll_get _ e fun z => ?_
  rcases List.mem_cons.mp z with z | z
  · subst z
    rcases c with c | ⟨o', c⟩
    · exact c hn
    · rw [new] at c
      cases c
  · exact n z
theorem Out.thrG (O : Out X E) {ea : Addr} {oe : Obj} {vs : Array Value} {a0 : Value} (I : Inv X pins σ H s) (ge : s.heap.get? ea = some oe) (de : oe.data = .fields vs) (h0 : vs[0]? = some a0) (h1 : vs[1]? = some .none) (h2 : vs[2]? = some .none)
    (hn : H ea = none) (new : X.s₀.heap.get? ea = none) (hcl : ∃ C0 : Addr, oe.cls = .ref C0) (q : E oe.cls oe.dict H) : X.xe (.ref ea) s := O.thrC I ge de h0 h1 h2 hn new (.inl ⟨rfl, hcl, q⟩)
theorem Out.thr (O : Out X E) : Thr X E := by
  intro pins σ H s h1 ea C0 vs I mk q
  have I1 : Inv X pins σ H { s with heap := h1 } := I.kept (t' := s.toks) mk.keeps
  have hn : H ea = none := by
    cases hz : H ea with
    | none => rfl
    | some z =>
      obtain ⟨ob, e⟩ := (I.hok ea z hz).thing
      rw [mk.new] at e
      cases e
  obtain ⟨t, ge, _, _⟩ := mk.there
  refine O.thrG I1 (a0 := .ref t) ge rfl rfl rfl rfl hn ?_ ⟨_, rfl⟩ q
  cases hz : X.s₀.heap.get? ea with
  | none => rfl
  | some o =>
    obtain ⟨o', e⟩ := I.base.there ea o hz (by rw [O.ex]; simp)
    rw [mk.new] at e
    cases e
theorem Inv.threw {H' : Hp} {s' : Shared} (I : Inv X pins σ H s) (os : s'.os = s.os) (bare : AllBare s'.gens) (un : Un (frs X.stack) [] H H' s.heap s'.heap) (hok : HOk X.prog X.w H' s'.heap) : Inv X pins σ H' s' :=
  I.call' (ch := []) os un hok bare fun b z => absurd z (by simp)
theorem Out.passes (O : Out X E) : Passes (CX1 X.prog X.w) X E := by
  intro pins σ H s e s' I q
  obtain ⟨ea, cls, a0, od, c, H', B, rfl, os, bare, un, hok, hn, cov, fl, sc, qE⟩ := q
  have I1 := I.threw os bare un hok
  refine O.xe _ _ ?_
  have hfr : X.A.frames = some (X.env :: X.outer) := by rw [I.ok.frames, O.stk]
  rw [O.stk] at fl
  refine leave_on2 hfr O.fr fl sc fun h2 fl2 sc2 up => ?_
  exact fly_out O I1 (Cov.outer I1 cov fun b o e => I.base.there b o e (by rw [O.ex]; simp)) fl2 sc2 up hn qE
end
theorem out_of {P : Program} {w : World} {K : PySem.W.Frag} {mg : Str → Option Value} {base : Heap} {N : List Str} {qual : Str} {scope : Scope} {f : Addr} {cd : Value} {A : Around} {outer : List Env} {s : Shared} {H : Hp} {E : XK} :
    Out (cxOf (CX1 P w) P w K mg base N qual scope f cd A outer s H E) E := ⟨rfl, rfl, rfl, fun _ _ h => h⟩
theorem Fun.ok1 {P : Program} {w : World} {K : PySem.W.Frag} {mg : Str → Option Value} {base : Heap} {x qual : Str} {st : Stmt} {f : Addr} {fd : FuncData} {N ps : List Str} {k : Nat} {sp : Sp} (F : Fun K x qual st f fd) (S : FnScope N ps (defScope st))
    (len : ∀ vs H Q E, sp vs H Q E → vs.length = ps.length)
    (hbody : ∀ (cdv : Value) (A : Around) (outer : List Env) (s : Shared) (H : Hp) (vs : List V) (Q : VK) (E : XK), Room k (A.deeper (envOfC qual (defScope st) s.heap.objs.size f cdv)) → sp vs H Q E →
      ∃ t, PSs (cxOf (CX1 P w) P w K mg base N qual (defScope st) f cdv A outer s H E) (defBody st) t ∧ t { nx := fun _ H' => Q .non H', rt := Q } (start N vs) H) : FnOk P w K mg base (CX1 P w) (k + 1) f fd ps sp := by
  obtain ⟨oc, od, kV, doc, pm, an, cdv, ct, osl, rfl, lk, hcd⟩ := F.ex
  exact fn_of lk hcd S len fun A outer s H vs Q E hr hsp => hbody cdv A outer s H vs Q E hr hsp
section
variable {X : Cx} {E : XK}
def tRaise (C : Addr) (E : XK) (t : TA) : TS := fun _ σ H => t σ H fun vs H1 => vs.length ≤ sizeLine ∧ E (.ref C) none H1
theorem ps_raise {x : Str} {C : Addr} {bm : List Value} {B newId initId : String} {e : Expr} {es : List Expr} {ta : TA} {np cpos pos : Pos} (th : Thr X E) (hc : X.calm = true) (hg : Gl X x) (O : ∀ h, X.K.In h → h.Ns mainGlobals X.mg → OwnCls x C bm newId X.mg h)
    (FB : ExcBaseFacts B newId initId bm) (ha : PA X (e :: es) ta) (he : starEach (e :: es) X.env = (false, eval e X.env) :: starEach es X.env := by rfl) (hpl : (backTo cpos (starEach es X.env)).any (·.1) = false := by rfl)
    (hd : (x == ("__debug__" : Str)) = false := by decide) : PS X (.Raise (some (.Call (.Name x np) (e :: es) [] cpos)) none pos) (tRaise C E ta) := by
  intro pins s σ H D I h
  have OC := O _ I.mod.kin I.mod.glob
  obtain ⟨tl, N, nm, q, bs, hdct, sn, sub, ab, col, dd, k0, k1, k2, k3, k5, mN, hC, hN, hni, T⟩ := OC.obj
  refine wpAny_Raise_call_subT (C := C) (nm := nm) (q := q) (N := N) (bs := bs) (bm := tl) (hdct := hdct) (sn := sn) (sub := sub) (ab := ab) (col := col) (dd := dd) (k0 := k0) (k1 := k1) (k2 := k2) (k3 := k3) (k5 := k5)
    FB (mN := mN) (T.hasType FB.hasBase) (I.ok.hd hc) (by rw [he]; show (false || (backTo cpos (starEach es X.env)).any (·.1)) = false; rw [hpl]; rfl) hni (ld_glob I hg OC.bound ⟨rfl, ?_⟩ hd)
  have hA := ha cpos pins s σ H _ I h
  rw [he] at hA ⊢
  refine Calls.evalArgs_plain (wpAny_mono hA (fun us s1 ⟨vs, H1, I1, r1, z, q1⟩ => ?_) fun _ _ y => y)
  exact ⟨rfl, by rw [← r1.length]; exact z, I1.bk _ _ hC, hN.keeps I1.bk, T.keeps I1.bk, fun h' ea hm => th pins σ H1 s1 h' ea _ us I1 hm q1⟩
end
end L2

namespace L2
open PySem PySem.Spec PyProof.Rows

section
variable {X : Cx} {pins : List (Addr × Obj)} {σ : St} {H : Hp} {s : Shared}
end
section
variable {X : Cx}
end
end L2

namespace L2
open PySem PySem.Spec PySem.Calls PyProof.Rows PySem.W PySem.Builtin PySem.Builtin.ObjectAttr PySem.Builtin.Getset_descriptor

section
variable {K : Frag} {x D : Addr}
section
variable {prog : Program} {w : World} {A : Around} {E : Value → Shared → Prop} {s : Shared}
end
end
end L2

namespace L2
open PySem PySem.Spec PyProof.Rows
section
variable {X : Cx}
theorem op_mulB : OpR X (binaryOp .Mult) (rI IntMulOk fun i j => .int (i * j)) := opI fun _ _ _ _ _ _ _ hc q => mul_int q hc
theorem mulOk_of {i j : Int} (hi : i.natAbs < 2 ^ 1000) (hj : j.natAbs < 2 ^ 1000) : IntMulOk i j := by
  have bits : ∀ k : Int, k.natAbs < 2 ^ 1000 → Builtin.Int.intBits k ≤ 2 ^ 20 := fun k hk => by
    unfold Builtin.Int.intBits
    by_cases h0 : k.natAbs = 0
    · simp only [h0]
      split <;> decide
    · have h1 : k.natAbs.log2 < 1000 := (Nat.log2_lt h0).mpr hk
      split <;> (first | lia | omega)
  exact IntMulOk.of_bits (bits i hi) (bits j hj)
theorem isNotB : OpR X (compareOp .IsNot) (fun x y H Q => ∃ a b, x = .bl a ∧ y = .bl b ∧ Q (.bl (!(a == b))) H) := by
  intro pins s σ H x y v u Q I rx ry h
  obtain ⟨a, b, rfl, rfl, q⟩ := h
  cases rx
  cases ry
  refine wpAny_isNot_plain rfl ⟨.bl _, H, I, ?_, q⟩
  cases a <;> cases b <;> rfl
def rGetL (K : PySem.W.Frag) : V → V → Hp → VK → Prop := fun o i H Q => ∃ p xs j v, o = .ref p ∧ i = .int ((j : Nat) : Int) ∧ SqL K H p xs ∧ xs[j]? = some v ∧ Q v H
theorem getL (K : PySem.W.Frag) (hK : X.K = K := by rfl) : PGet X (rGetL K) := by
  subst hK
  intro pins s σ H o i ov iv Q I ro ri h
  obtain ⟨p, xs, j, v, rfl, rfl, hq, e, q⟩ := h
  cases ro
  obtain ⟨t, rfl⟩ := ri
  obtain ⟨its, r, pl, hz⟩ := I.list hq
  obtain ⟨u, eu, ru⟩ := r.get e
  have hj : j < xs.length := (List.getElem?_eq_some_iff.mp e).1
  have hn := line63
  exact wpAny_getItem_list pl.isList (by (first | lia | omega)) (by (first | lia | omega)) (by simpa using eu) ⟨v, H, I, ru, q⟩
theorem mt_count : MtM X "list.count" (fun x vs H Q => ∃ l xs y, x = .ref l ∧ vs = [y] ∧ H l = some (.lst xs) ∧ flatV y = true ∧ xs.all flatV = true ∧ Q (.int (xs.countP fun z => eqV z y)) H) := by
  intro pins s σ H x vs v us Q I rx rv h
  obtain ⟨l, xs, y, rfl, rfl, hH, fy, fx, q⟩ := h
  cases rx
  obtain ⟨u, rfl, ru⟩ := rv.one
  obtain ⟨z, its, n, r, hl, e⟩ := I.lstM hH
  have cnt : ∀ {xs : List V} {us : List Value}, Vals xs us → xs.all flatV = true → us.countP (eqU y) = xs.countP fun z => eqV z y := by
    intro xs us r
    induction r with
    | nil => intro _; rfl
    | cons r1 _ ih =>
      intro f
      rw [List.all_cons, Bool.and_eq_true] at f
      rw [List.countP_cons, List.countP_cons, ih f.2, eqU_of r1 f.1]
  refine call_meets PySem.F.slot_list_count ⟨_, e, rfl⟩ PySem.F.entry_list_count (PySem.F.args_list_count_2 _ _) (SeqAt.list_countAt l its.toArray n none #[] u (eqU y)) ⟨e, fun w hw => mem_eqAt ru fy r fx w (by simpa using hw), ?_⟩
  refine ⟨.int _, H, I.tok _, ⟨s.toks, ?_⟩, q⟩
  rw [show its.toArray.toList = its from rfl, cnt r fx]
theorem mt_index : MtM X "list.index" (fun x vs H Q => ∃ l xs y j, x = .ref l ∧ vs = [y] ∧ H l = some (.lst xs) ∧ flatV y = true ∧ xs.all flatV = true ∧ j < xs.length ∧ (∀ m z, xs[m]? = some z → m ≤ j → eqV z y = decide (m = j)) ∧ Q (.int (j : Nat)) H) := by
  intro pins s σ H x vs v us Q I rx rv h
  obtain ⟨l, xs, y, j, rfl, rfl, hH, fy, fx, hj, hit, q⟩ := h
  cases rx
  obtain ⟨u, rfl, ru⟩ := rv.one
  obtain ⟨z, its, n, r, hl, e⟩ := I.lstM hH
  have hn := line63
  have at_ : ∀ m (hm : m < its.toArray.size), m ≤ j → eqU y its.toArray[m] = decide (m = j) := fun m hm hmj => by
    have hm' : m < xs.length := by rw [hl]; simpa using hm
    have ez : xs[m]? = some xs[m] := by simp [hm']
    obtain ⟨u', eu, ru'⟩ := r.get ez
    have e2 : its.toArray[m] = u' := by
      have := (List.getElem?_eq_some_iff.mp eu).2
      simpa using this
    have fz : flatV xs[m] = true := List.all_eq_true.mp fx _ (List.getElem_mem hm')
    rw [e2, eqU_of ru' fz]
    exact hit m _ ez hmj
  have hsz : j < its.toArray.size := by rw [List.size_toArray]; (first | lia | omega)
  refine call_meets PySem.F.slot_list_index ⟨_, e, rfl⟩ PySem.F.entry_list_index (PySem.F.args_list_index_2 _ _) (SeqAt.list_indexAt l its.toArray n none #[] u (eqU y) j hsz (by (first | lia | omega)) ?_ ?_) ⟨e, fun w hw => mem_eqAt ru fy r fx w (by simpa using hw), ?_⟩
  · rw [at_ j hsz (Nat.le_refl _)]
    simp
  · intro m hm hmj
    rw [at_ m hm (by (first | lia | omega))]
    exact decide_eq_false (by (first | lia | omega))
  · exact ⟨.int _, H, I.tok _, ⟨s.toks, rfl⟩, q⟩
end
section
variable {X : Cx} {tg : Expr}
theorem ps_for1 {iter : Expr} {body : List Stmt} {wi : TI} {g : TG} {tb : TS} {pos : Pos} (hc : X.calm = true) (hi : PI X tg iter wi) (hg : PG X.nox tg g) (hb : PSs X.nox body tb) (hs : ∀ x, foldedSetIterable iter X.env x = pure x := by intro _; rfl) :
    PS X (.For tg iter body [] pos) (tFor wi g tb) := by
  intro pins s σ H D I h
  refine wpAny_For (thn (hi pins s σ H _ I h) fun v s1 h1 => thn h1 fun itv s2 h2 => ?_) hs
  obtain ⟨it, fp, tn, J, H2, e, I2, T, st2, f2, W, ⟨m0, w0⟩, turn⟩ := h2
  subst e
  have stat : ∀ {H' : Hp}, (∀ b ∈ fp, H' b = none) → ∀ b ∈ fp, FpOk X.nox pins H' b := fun hn b hb => ⟨hn b hb, (f2 b hb).2⟩
  refine codeAny_forLoop_any (fun n s' => ∃ i σ' H', Inv X.nox pins σ' H' s' ∧ tn i s'.heap ∧ (∀ b ∈ fp, H' b = none) ∧ W i n σ' H') ?_ m0 ⟨0, σ, H2, I2.wish _, st2, fun b hb => (f2 b hb).1, w0⟩
  rintro n s3 ⟨i, σ3, H3, I3, st3, fr3, w3⟩
  rcases turn i n σ3 H3 w3 with ⟨stop, qn⟩ | ⟨go, N, hN, step⟩
  · refine wpAny_mono (T.done X.nox rfl rfl rfl hc i pins s3 σ3 H3 (fun _ _ => False) I3 (stat fr3) st3 stop) (fun r s4 ⟨hr, I4⟩ => ?_) fun _ _ z => z.elim
    subst hr
    exact wpAny_execs_nil ⟨σ3, H3, I4.unwish, qn⟩
  · refine wpAny_mono (T.item X.nox rfl rfl rfl hc i pins s3 σ3 H3 (fun _ _ => False) I3 (stat fr3) st3 go) (fun r s4 ⟨u, hr, h4⟩ => ?_) fun _ _ z => z.elim
    subst hr
    refine wpAny_mono h4 (fun _ s5 ⟨x, H5, I5, r5, y5, st5, fr5⟩ => ?_) fun _ _ z => z.elim
    have I5' := I5.pinned (stat fr5) (T.obj _ _ st5)
    refine wpAny_mono (hg _ s5 σ3 H5 x u _ I5' r5 (step x H5 y5)) (fun _ s6 ⟨σ6, H6, I6, q6⟩ => ?_) fun _ _ z => z.elim
    refine wpAny_mono (hb _ s6 σ6 H6 _ I6 q6) (fun f s7 q7 => ?_) fun _ _ z => z.elim
    have again : ∀ {σ7 : St} {H7 : Hp}, Inv X.nox (pins ++ pinsAt fp s5.heap) σ7 H7 s7 → N σ7 H7 → ∃ m, m < n ∧ ∃ i σ' H', Inv X.nox pins σ' H' s7 ∧ tn i s7.heap ∧ (∀ b ∈ fp, H' b = none) ∧ W i m σ' H' := fun {σ7 H7} I7 n7 => by
      obtain ⟨m', hm, w7⟩ := hN σ7 H7 n7
      refine ⟨m', hm, i + 1, σ7, H7, I7.unpinned, T.keep _ _ _ st5 fun b hb o e => (I7.pin (b, o) (List.mem_append_right _ (List.mem_append_right _ (mem_pinsAt hb e)))).1, fun b hb => ?_, w7⟩
      obtain ⟨o, e, d⟩ := T.obj _ _ st5 b hb
      exact (I7.pin (b, o) (List.mem_append_right _ (List.mem_append_right _ (mem_pinsAt hb e)))).2.1
    cases f with
    | next => obtain ⟨σ7, H7, I7, n7⟩ := q7; exact again I7 n7
    | cont => obtain ⟨σ7, H7, I7, n7⟩ := q7; exact again I7 n7
    | brk => obtain ⟨σ7, H7, I7, q7⟩ := q7; exact ⟨σ7, H7, I7.unpinned.unwish, q7⟩
    | ret v => obtain ⟨x7, σ7, H7, I7, r7, q7⟩ := q7; exact ⟨x7, σ7, H7, I7.unpinned.unwish, r7, q7⟩
theorem passN {P : Program} {w : World} {X : Cx} : Passes (CX1 P w) X (fun _ _ _ => False) := by
  intro pins σ H s e s' I q
  obtain ⟨_, _, _, _, _, _, _, _, _, _, _, _, _, _, _, _, z⟩ := q
  rcases z with ⟨_, _, z⟩ | ⟨_, _, _, _, _, _, _, z⟩
  · exact z.elim
  · exact z.elim
end
theorem own_of {K : PySem.W.Frag} {h : Heap} {mg : Str → Option Value} {x : Str} {C : Addr} {bmB : List Value} {newId : String} (X : K.In h) (G : h.Ns mainGlobals mg) (e : PySem.W.nsIn K mainGlobals x = some (some (.ref C))) (q : PySem.W.excIn K C bmB newId = true) :
    OwnCls x C bmB newId mg h := by
  refine ⟨PySem.W.mg_of X G e, ?_⟩
  unfold PySem.W.excIn at q
  split at q
  · rename_i od cd sl look
    split at q
    · rename_i Cx bm j0 j1 j2 j3 nw j5 hmro hsl
      simp only [Bool.and_eq_true, beq_iff_eq, Bool.not_eq_true'] at q
      obtain ⟨⟨⟨⟨⟨rfl, rfl⟩, hdel⟩, ht⟩, hok⟩, hni⟩ := q
      obtain ⟨nm, bs, mro, ns, qn, hd, sn, sub, ab, col, del⟩ := cd
      (dsimp only at hmro hdel hok hni; subst hmro hdel)
      have hs2 : sl = #[j0, j1, j2, j3, some (.builtin nw), j5] := by
        obtain ⟨l⟩ := sl
        simp only at hsl
        rw [hsl]
      subst hs2
      exact ⟨bm, ns, nm, qn, bs, hd, sn, sub, ab, col, od, j0, j1, j2, j3, j5, _, X _ _ look, .of_isNs (PySem.W.isNs_of_in X hok), PySem.W.nsMap_none_of_in X hok hni, PySem.W.tail_of_in X ht⟩
    · cases q
  · cases q
end L2
namespace L2
end L2
namespace L2
theorem len1 {α : Type} : ∀ us : List α, us.length = 1 → ∃ a, us = [a]
  | [_], _ => ⟨_, rfl⟩
theorem len2 {α : Type} : ∀ us : List α, us.length = 2 → ∃ a b, us = [a, b]
  | [_, _], _ => ⟨_, _, rfl⟩
theorem len3 {α : Type} : ∀ us : List α, us.length = 3 → ∃ a b c, us = [a, b, c]
  | [_, _, _], _ => ⟨_, _, _, rfl⟩
end L2

namespace L2
open PySem PySem.Spec PyProof.Rows

section
variable {X : Cx} {ea : Addr} {k : Nat} {f : Addr} {fd : FuncData} {ps : List Str} {sp : Sp} {dvs : List V} {ds : List Value} {x : Str} {p pos : Pos} {e : Expr} {es : List Expr} {t : TA}
end
section
variable {prog : Program} {w : World} {A : Around} {E : Value → Shared → Prop} {s : Shared}
end
end L2

namespace L2
open PySem PySem.Spec PyProof.Rows
section
variable {X : Cx} {pins : List (Addr × Obj)} {σ : St} {H : Hp} {s : Shared} {h' : Heap}
theorem Inv.yields {t' : Nat} {wr : List Addr} {T : Addr} {o : HO} (I : Inv X pins σ H s) (k : ∀ b u, b ∉ wr → s.heap.get? b = some u → h'.get? b = some u) (hf : ∀ b ∈ wr, FpOk X pins H b) (hT : s.heap.objs.size ≤ T)
    (new : ObjOk X.prog X.w (upd H T o) h' T o) : Inv X pins σ (upd H T o) { s with heap := h', toks := t' } := by
  have hTn : H T = none := I.hok.fresh hT
  have nT : ∀ b u, H b = some u → b ≠ T := fun b u e => ne_of_none e hTn
  have nw : ∀ b u, H b = some u → b ∉ wr := fun b u e hb => by rw [(hf b hb).1] at e; cases e
  refine I.step (g' := s.gens) (d' := s.drawn) (ch := wr) (fun b hb => ?_) (fun b o _ _ hc e _ => k b o hc e) (fun b o _ _ hc e _ => ⟨o.slots, k b o hc e⟩) (fun b u hc e n => ?_)
    (fun b o hc e => ⟨o, k b o hc e⟩) (fun b xs e => ?_) (fun b ob xs e => ?_) (fun b ps e => ⟨#[], ?_⟩) (fun m hm => ?_) (fun b u e => ?_) I.bare
  · obtain ⟨_, f1, _, f3, f4, f5⟩ := hf b hb
    exact ⟨f3, f1, f4, f5⟩
  · rw [upd_ne (Nat.ne_of_lt (Nat.lt_of_lt_of_le (Heap.lt_size e) hT))]; exact n
  · rw [upd_ne (nT b _ e)]; exact e
  · rw [upd_ne (nT b _ e)]; exact e
  · rw [upd_ne (nT b _ e), e]; simp
  · obtain ⟨o, es, ep, ho, r⟩ := hm
    exact ⟨o, es, ep, k _ o (fun hb => (hf _ hb).2.1 rfl) ho, r⟩
  · by_cases hb : b = T
    · subst hb; rw [upd_same] at e; cases e; exact new
    · rw [upd_ne hb] at e
      refine (I.hok b u e).stay (fun c v hc q => k c v ?_ q) (fun c q => by rw [upd_ne (nT c _ q)]; exact q) fun c xs q => by rw [upd_ne (nT c _ q)]; exact q
      rcases hc with z | z
      · rw [z]; exact nw b u e
      · exact nw c _ z
theorem Inv.turnedL {t' : Nat} {wr : List Addr} (I : Inv X pins σ H s) (k : ∀ b u, b ∉ wr → s.heap.get? b = some u → h'.get? b = some u) (hf : ∀ b ∈ wr, FpOk X pins H b) : Inv X pins σ H { s with heap := h', toks := t' } := by
  have nw : ∀ b u, H b = some u → b ∉ wr := fun b u e hb => by rw [(hf b hb).1] at e; cases e
  refine I.step (g' := s.gens) (d' := s.drawn) (ch := wr) (fun b hb => ?_) (fun b o _ _ hc e _ => k b o hc e) (fun b o _ _ hc e _ => ⟨o.slots, k b o hc e⟩) (fun _ _ _ _ n => n)
    (fun b o hc e => ⟨o, k b o hc e⟩) (fun _ _ e => e) (fun _ _ _ e => e) (fun b ps e => ⟨#[], by rw [e]; simp⟩) (fun m hm => ?_) (fun b u e => ?_) I.bare
  · obtain ⟨_, f1, _, f3, f4, f5⟩ := hf b hb
    exact ⟨f3, f1, f4, f5⟩
  · obtain ⟨o, es, ep, ho, r⟩ := hm
    exact ⟨o, es, ep, k _ o (fun hb => (hf _ hb).2.1 rfl) ho, r⟩
  · refine (I.hok b u e).stay (fun c v hc q => k c v ?_ q) (fun _ q => q) fun _ _ q => q
    rcases hc with z | z
    · rw [z]; exact nw b u e
    · exact nw c _ z
end
def Ite (K : PySem.W.Frag) (a : Addr) : It :=
  ⟨fun i H => ∃ xs x, SqL K H a xs ∧ xs[i]? = some x, fun i H v H' => ∃ T x, v = .ref T ∧ H T = none ∧ H' = upd H T (.tup [.int (i : Int), x]) ∧ ∀ xs, SqL K H a xs → xs[i]? = some x, fun i H => ∃ xs, SqL K H a xs ∧ xs.length ≤ i⟩
theorem turn_enum {P : Program} {w : World} {K : PySem.W.Frag} {elts : List Expr} {k : Nat} {pos : Pos} (a e it : Addr) (hne : e ≠ it) :
    Turn P w K (.Tuple elts k pos) (Ite K a) [e, it] e (fun i h => (∃ old, IsEnum h e it (i : Int) old) ∧ h.IsListIter it a i) where
  mem := by simp
  obj := fun i h st b hb => by
    obtain ⟨⟨old, he⟩, o, ho, c, d⟩ := st
    have hb' : b = e ∨ b = it := by simpa using hb
    rcases hb' with rfl | rfl
    · exact ⟨_, he, fun v z => by cases z⟩
    · exact ⟨o, ho, fun v z => by rw [d] at z; cases z⟩
  keep := fun i h h' st k => by
    obtain ⟨⟨old, he⟩, hit⟩ := st
    exact ⟨⟨old, k e (by simp) _ he⟩, hit.at fun o x => k it (by simp) o x⟩
  item := by
    intro X hP hw hK hc i pins s σ H E I hf st hg
    subst hP hw hK
    obtain ⟨xs, x, hq, hx⟩ := hg
    obtain ⟨its, rv, p, hz⟩ := I.list hq
    obtain ⟨u, hu, ru⟩ := rv.get hx
    obtain ⟨⟨old, he⟩, hit⟩ := st
    refine wpAny_pyNext_enum_item he hit p.isList (x := u) (by simpa using hu) hne fun h1 ho hit1 hT hsz hk => ?_
    refine ⟨_, rfl, wpAny_letOwnedTupleGo_enum ho fun h2 he2 hs2 => ?_⟩
    have hTe : s.heap.objs.size ≠ e := Nat.ne_of_gt (Heap.lt_size he)
    have hT2 : h2.get? s.heap.objs.size = some { cls := .type "tuple", data := .seq #[.int i s.toks, u] } := (hs2.2 _ hTe).trans hT
    refine ⟨.ref s.heap.objs.size, upd H s.heap.objs.size (.tup [.int (i : Int), x]), I.yields (wr := [e, it]) (t' := s.toks + 1) (fun b o hb q => ?_) hf (Nat.le_refl _) ?_, rfl, ⟨_, x, rfl, I.fresh, rfl, fun ys hy => by rw [I.list_inj hy hq]; exact hx⟩, ⟨⟨u, by simpa using he2⟩, ?_⟩, fun b hb => ?_⟩
    · have h1' : b ≠ e := fun z => hb (by simp [z])
      have h2' : b ≠ it := fun z => hb (by simp [z])
      exact (hs2.2 b h1').trans (hk b o h1' h2' q)
    · exact ⟨dl rfl, [.int i s.toks, u], .cons ⟨_, rfl⟩ (.cons ru .nil), ⟨_, hT2, rfl, _, rfl⟩⟩
    · exact hit1.at fun o q => (hs2.2 it (Ne.symm hne)).trans q
    · rw [upd_ne]
      · exact (hf b hb).1
      · have hb' : b = e ∨ b = it := by simpa using hb
        rcases hb' with rfl | rfl
        · exact Ne.symm hTe
        · obtain ⟨o, q, _⟩ := hit
          exact Nat.ne_of_lt (Heap.lt_size q)
  done := by
    intro X hP hw hK hc i pins s σ H E I hf st hg
    subst hP hw hK
    obtain ⟨xs, hq, hx⟩ := hg
    obtain ⟨its, rv, p, hz⟩ := I.list hq
    obtain ⟨⟨old, he⟩, hit⟩ := st
    obtain ⟨f0, f1, f2, f3, f4, f5⟩ := hf it (by simp)
    have hl := rv.length
    exact wpAny_pyNext_enum_end (I.ok.hd hc) he hit p.isList (by simp; (first | lia | omega)) fun h' eb => ⟨rfl, I.turned (t' := s.toks) (fun b o hb e => eb b o hb e) f0 f1 f3 f4 f5⟩
  self := fun _ _ _ _ _ st h => by
    obtain ⟨⟨old, he⟩, _⟩ := st
    exact wpAny_pyIter_enum he h
def Itz (K : PySem.W.Frag) (a b : Addr) : It :=
  ⟨fun i H => ∃ xs ys x y, SqL K H a xs ∧ SqL K H b ys ∧ xs[i]? = some x ∧ ys[i]? = some y,
   fun i H v H' => ∃ T x y, v = .ref T ∧ H T = none ∧ H' = upd H T (.tup [x, y]) ∧ (∀ xs, SqL K H a xs → xs[i]? = some x) ∧ ∀ ys, SqL K H b ys → ys[i]? = some y,
   fun i H => ∃ xs ys, SqL K H a xs ∧ SqL K H b ys ∧ (xs.length ≤ i ∨ ys.length ≤ i)⟩
theorem turn_zip {P : Program} {w : World} {K : PySem.W.Frag} {elts : List Expr} {k : Nat} {pos : Pos} (a b z TI TO i1 i2 : Addr) (D : ZipApart z TI TO i1 i2 a b) :
    Turn P w K (.Tuple elts k pos) (Itz K a b) [z, TI, TO, i1, i2] z (fun i h => IsZip h z TI TO .none ∧ IsPair h TI (.ref i1) (.ref i2) ∧ (∃ u v, IsPair h TO u v) ∧ h.IsListIter i1 a i ∧ h.IsListIter i2 b i) where
  mem := by simp
  obj := fun i h st c hc => by
    obtain ⟨hz, hI, ⟨u, v, hO⟩, ⟨o1, ho1, _, d1⟩, o2, ho2, _, d2⟩ := st
    have hc' : c = z ∨ c = TI ∨ c = TO ∨ c = i1 ∨ c = i2 := by simpa using hc
    rcases hc' with rfl | rfl | rfl | rfl | rfl
    · exact ⟨_, hz, fun v z => by cases z⟩
    · exact ⟨_, hI, fun v z => by cases z⟩
    · exact ⟨_, hO, fun v z => by cases z⟩
    · exact ⟨o1, ho1, fun v z => by rw [d1] at z; cases z⟩
    · exact ⟨o2, ho2, fun v z => by rw [d2] at z; cases z⟩
  keep := fun i h h' st k => by
    obtain ⟨hz, hI, ⟨u, v, hO⟩, h1, h2⟩ := st
    exact ⟨k z (by simp) _ hz, k TI (by simp) _ hI, ⟨u, v, k TO (by simp) _ hO⟩, h1.at fun o e => k i1 (by simp) o e, h2.at fun o e => k i2 (by simp) o e⟩
  item := by
    intro X hP hw hK hc i pins s σ H E I hf st hg
    subst hP hw hK
    obtain ⟨xs, ys, x, y, hq, hq2, hx, hy⟩ := hg
    obtain ⟨its, rv, p, hzl⟩ := I.list hq
    obtain ⟨its2, rv2, p2, hzl2⟩ := I.list hq2
    obtain ⟨u, hu, ru⟩ := rv.get hx
    obtain ⟨u2, hu2, ru2⟩ := rv2.get hy
    obtain ⟨hz, hI, ⟨v1, v2, hO⟩, h1, h2⟩ := st
    refine wpAny_pyNext_zip_item D hz hI hO h1 h2 p.isList p2.isList (x := u) (y := u2) (by simpa using hu) (by simpa using hu2) fun h3 hz3 hO3 h13 h23 hT hsz hk => ?_
    refine ⟨_, rfl, wpAny_letOwnedTupleGo_zip hz3 fun h4 hz4 hs4 => ?_⟩
    have lt : ∀ {c o}, s.heap.get? c = some o → s.heap.objs.size ≠ c := fun e => Nat.ne_of_gt (Heap.lt_size e)
    have hT4 : h4.get? s.heap.objs.size = some { cls := .type "tuple", data := .seq #[u, u2] } := (hs4.2 _ (lt hz)).trans hT
    have kk : ∀ c o, c ∉ [z, TO, i1, i2] → s.heap.get? c = some o → h4.get? c = some o := fun c o hc q => by
      have c1 : c ≠ z := fun e => hc (by simp [e])
      exact (hs4.2 c c1).trans (hk c o c1 (fun e => hc (by simp [e])) (fun e => hc (by simp [e])) (fun e => hc (by simp [e])) q)
    have hsub : ∀ c ∈ [z, TO, i1, i2], c ∈ [z, TI, TO, i1, i2] := fun c hc => by
      have hc' : c = z ∨ c = TO ∨ c = i1 ∨ c = i2 := by simpa using hc
      rcases hc' with rfl | rfl | rfl | rfl <;> simp
    refine ⟨.ref s.heap.objs.size, upd H s.heap.objs.size (.tup [x, y]), I.yields (wr := [z, TO, i1, i2]) (t' := s.toks) kk (fun c hc => hf c (hsub c hc)) (Nat.le_refl _) ?_, rfl,
      ⟨_, x, y, rfl, I.fresh, rfl, fun zs hy => by rw [I.list_inj hy hq]; exact hx, fun zs hz => by rw [I.list_inj hz hq2]; exact hy⟩, ⟨hz4, (hs4.2 _ D.TIz).trans (hk _ _ D.TIz D.TITO D.TIi1 D.TIi2 hI), ⟨u, u2, (hs4.2 _ D.TOz).trans hO3⟩, ?_, ?_⟩, fun c hc => ?_⟩
    · exact ⟨dl rfl, [u, u2], .cons ru (.cons ru2 .nil), ⟨_, hT4, rfl, _, rfl⟩⟩
    · exact h13.at fun o q => (hs4.2 _ D.i1z).trans q
    · exact h23.at fun o q => (hs4.2 _ D.i2z).trans q
    · rw [upd_ne]
      · exact (hf c hc).1
      · have hc' : c = z ∨ c = TI ∨ c = TO ∨ c = i1 ∨ c = i2 := by simpa using hc
        rcases hc' with rfl | rfl | rfl | rfl | rfl
        · exact Ne.symm (lt hz)
        · exact Ne.symm (lt hI)
        · exact Ne.symm (lt hO)
        · obtain ⟨o, q, _⟩ := h1
          exact Ne.symm (lt q)
        · obtain ⟨o, q, _⟩ := h2
          exact Ne.symm (lt q)
  done := by
    intro X hP hw hK hc i pins s σ H E I hf st hg
    subst hP hw hK
    obtain ⟨xs, ys, hq, hq2, hx⟩ := hg
    obtain ⟨its, rv, p, hzl⟩ := I.list hq
    obtain ⟨its2, rv2, p2, hzl2⟩ := I.list hq2
    obtain ⟨hz, hI, ⟨v1, v2, hO⟩, h1, h2⟩ := st
    have hl := rv.length
    have hl2 := rv2.length
    have hsub : ∀ c ∈ [z, TO, i1, i2], c ∈ [z, TI, TO, i1, i2] := fun c hc => by
      have hc' : c = z ∨ c = TO ∨ c = i1 ∨ c = i2 := by simpa using hc
      rcases hc' with rfl | rfl | rfl | rfl <;> simp
    refine wpAny_pyNext_zip_end (I.ok.hd hc) D hz hI hO h1 h2 p.isList p2.isList (hx.imp (fun q => by simp; (first | lia | omega)) fun q => by simp; (first | lia | omega)) fun h' kk => ⟨rfl, I.turnedL (wr := [z, TO, i1, i2]) (t' := s.toks) (fun c o hc q => ?_) fun c hc => hf c (hsub c hc)⟩
    exact kk c o (fun e => hc (by simp [e])) (fun e => hc (by simp [e])) (fun e => hc (by simp [e])) (fun e => hc (by simp [e])) q
  self := fun _ _ _ _ _ st h => wpAny_pyIter_zip st.1 h
theorem zip_apart {n a b : Nat} (la : a < n) (lb : b < n) : ZipApart (n + 4) (n + 2) (n + 3) n (n + 1) a b := by
  have k : ∀ {x y : Nat}, x < y ∨ y < x → x ≠ y := fun h => by (first | lia | omega)
  constructor <;> exact k (by (first | lia | omega))
section
variable {X : Cx} {elts : List Expr} {n : Nat} {tp : Pos}
def iEnum (K : PySem.W.Frag) (ta : TA) : TI := fun σ H R => ta σ H fun vs H1 => ∃ a, vs = [.ref a] ∧ (∃ xs, SqL K H1 a xs) ∧ R (Ite K a) H1
def iZip (K : PySem.W.Frag) (ta : TA) : TI := fun σ H R => ta σ H fun vs H1 => ∃ a b, vs = [.ref a, .ref b] ∧ (∃ xs, SqL K H1 a xs) ∧ (∃ ys, SqL K H1 b ys) ∧ R (Itz K a b) H1
theorem pi_enum (K : PySem.W.Frag) {a : Expr} {ta : TA} {p pos : Pos} (hg : Gl X "enumerate") (hm : X.mg "enumerate" = none) (ha : PA X [a] ta) (hs : starEach [a] X.env = [(false, eval a X.env)] := by rfl) (hK : X.K = K := by rfl) :
    PI X (.Tuple elts n tp) (.Call (.Name "enumerate" p) [a] [] pos) (iEnum K ta) := by
  subst hK
  intro pins s σ H R I h
  refine Call_ (ld_blt I hg hm boot_enumerate (PyProof.Rows.callWith_type1 (thn (ha pos pins s σ H _ I h) fun us s1 ⟨vs, H1, I1, r1, q1⟩ => ?_) hs rfl))
  obtain ⟨a, e, ⟨xs, hq⟩, q⟩ := q1
  subst e
  cases r1 with
  | cons r rr =>
    cases rr
    cases r
    obtain ⟨its, rv, pl, hz⟩ := I1.list hq
    refine call_enumerate_list pl.isList fun h' he hit hsz hk => ?_
    have I2 : Inv X pins σ H1 { s1 with heap := h' } := I1.kept (t' := s1.toks) hk
    refine wpAny_pyIter_enum he ⟨_, [s1.heap.objs.size + 1, s1.heap.objs.size], _, _, H1, rfl, I2, turn_enum a _ _ (Nat.succ_ne_self _), ⟨⟨_, he⟩, hit⟩, fun b hb => ?_, q⟩
    have hb' : b = s1.heap.objs.size + 1 ∨ b = s1.heap.objs.size := by simpa using hb
    have hbs : s1.heap.objs.size ≤ b := by
      rcases hb' with rfl | rfl
      · exact Nat.le_succ _
      · exact Nat.le_refl _
    exact I1.fpOk hbs (I1.hok.fresh hbs)
theorem pi_zip (K : PySem.W.Frag) {a b : Expr} {ta : TA} {p pos : Pos} (hg : Gl X "zip") (hm : X.mg "zip" = none) (ha : PA X [a, b] ta) (hs : starEach [a, b] X.env = [(false, eval a X.env), (false, eval b X.env)] := by rfl) (hs2 : starEach [b] X.env = [(false, eval b X.env)] := by rfl) (hK : X.K = K := by rfl) :
    PI X (.Tuple elts n tp) (.Call (.Name "zip" p) [a, b] [] pos) (iZip K ta) := by
  subst hK
  intro pins s σ H R I h
  refine Call_ (ld_blt I hg hm boot_zip (PyProof.Rows.callWith_type1 (thn (ha pos pins s σ H _ I h) fun us s1 ⟨vs, H1, I1, r1, q1⟩ => ?_) (by rw [hs, hs2]) (by rw [hs2]; rfl)))
  obtain ⟨a, b, e, ⟨xs, hq⟩, ⟨ys, hq2⟩, q⟩ := q1
  subst e
  cases r1 with
  | cons r rr =>
    cases rr with
    | cons r' rr =>
      cases rr
      cases r
      cases r'
      obtain ⟨its, rv, pl, hz⟩ := I1.list hq
      obtain ⟨its2, rv2, pl2, hz2⟩ := I1.list hq2
      refine call_zip_2 pl.isList pl2.isList fun h' hzz hI hO h1 h2 hsz hk => ?_
      have I2 : Inv X pins σ H1 { s1 with heap := h' } := I1.kept (t' := s1.toks) hk
      have la : a < s1.heap.objs.size := by obtain ⟨_, q, _⟩ := pl.isList; exact Heap.lt_size q
      have lb : b < s1.heap.objs.size := by obtain ⟨_, q, _⟩ := pl2.isList; exact Heap.lt_size q
      refine wpAny_pyIter_zip hzz ⟨_, [s1.heap.objs.size + 4, s1.heap.objs.size + 2, s1.heap.objs.size + 3, s1.heap.objs.size, s1.heap.objs.size + 1], _, _, H1, rfl, I2,
        turn_zip a b _ _ _ _ _ (zip_apart la lb), ⟨hzz, hI, ⟨_, _, hO⟩, h1, h2⟩, fun c hc => ?_, q⟩
      have hc' : c = s1.heap.objs.size + 4 ∨ c = s1.heap.objs.size + 2 ∨ c = s1.heap.objs.size + 3 ∨ c = s1.heap.objs.size ∨ c = s1.heap.objs.size + 1 := by simpa using hc
      have hcs : s1.heap.objs.size ≤ c := by
        rcases hc' with rfl | rfl | rfl | rfl | rfl
        · exact Nat.le_add_right _ _
        · exact Nat.le_add_right _ _
        · exact Nat.le_add_right _ _
        · exact Nat.le_refl _
        · exact Nat.le_add_right _ _
      exact I1.fpOk hcs (I1.hok.fresh hcs)
end
section
variable {K : PySem.W.Frag} {a b : Addr} {xs ys : List V} {g : TG} {tt : TT} {te : TE} {n : Nat} {fr : St} {D : Addr} {Q : Hp → Prop} {H1 : Hp}
theorem for_enum {tb : TS} {D : Ends} {σ : St} {H : Hp} (Pv : Nat → St → Hp → Prop) (h0 : Pv 0 σ H) (hl : ∀ i σ H, i ≤ xs.length → Pv i σ H → SqL K H a xs)
    (hs : ∀ i x T σ H, xs[i]? = some x → Pv i σ H → H T = none → g (.ref T) σ (upd H T (.tup [.int (i : Int), x])) fun σ2 H2 => tb { D with nx := Pv (i + 1), ct := Pv (i + 1), bk := D.nx } σ2 H2) (hd : ∀ σ H, Pv xs.length σ H → D.nx σ H) :
    ∃ W : Nat → Nat → St → Hp → Prop, (∃ m, W 0 m σ H) ∧ ∀ i m σ H, W i m σ H →
      ((Ite K a).stop i H ∧ D.nx σ H) ∨ ((Ite K a).go i H ∧ ∃ N : St → Hp → Prop, (∀ σ' H', N σ' H' → ∃ m', m' < m ∧ W (i + 1) m' σ' H') ∧ ∀ x H', (Ite K a).yld i H x H' → g x σ H' fun σ2 H2 => tb { D with nx := N, ct := N, bk := D.nx } σ2 H2) := by
  refine ⟨fun i m σ H => m = xs.length - i ∧ i ≤ xs.length ∧ Pv i σ H, ⟨xs.length, by simp, Nat.zero_le _, h0⟩, ?_⟩
  rintro i m σ H ⟨rfl, hi, p⟩
  have q := hl i σ H hi p
  by_cases hlt : i < xs.length
  · refine .inr ⟨⟨xs, xs[i], q, by simp [hlt]⟩, Pv (i + 1), fun σ' H' p' => ⟨xs.length - (i + 1), by (first | lia | omega), rfl, hlt, p'⟩, fun v H' y => ?_⟩
    obtain ⟨T, x, rfl, hT, rfl, y⟩ := y
    exact hs i x T σ _ (y xs q) p hT
  · have e : i = xs.length := by (first | lia | omega)
    subst e
    exact .inl ⟨⟨xs, q, Nat.le_refl _⟩, hd σ H p⟩
theorem comp_zip (hxy : xs.length = ys.length) (Pv : Nat → List V → Hp → Prop) (h0 : Pv 0 [] H1) (hl : ∀ i acc H, i ≤ xs.length → Pv i acc H → SqL K H a xs ∧ SqL K H b ys ∧ H D = some (.lst acc) ∧ acc.length ≤ i) (hz : xs.length ≤ sizeLine)
    (hs : ∀ i x y T acc H, xs[i]? = some x → ys[i]? = some y → Pv i acc H → H T = none → g (.ref T) (List.replicate n none ++ fr) (upd H T (.tup [x, y])) fun σ2 H2 => σ2.drop n = fr ∧ tt σ2 H2 fun b H3 =>
      if b = true then te σ2 H3 fun v H4 => H4 D = some (.lst acc) ∧ Pv (i + 1) (acc ++ [v]) (upd H4 D (.lst (acc ++ [v]))) else Pv (i + 1) acc H3)
    (hd : ∀ acc H, Pv xs.length acc H → Q H) : CompLoop (Itz K a b) g tt te n fr D Q H1 := by
  refine ⟨fun i m acc H => m = xs.length - i ∧ i ≤ xs.length ∧ Pv i acc H, ⟨xs.length, by simp, Nat.zero_le _, h0⟩, ?_⟩
  rintro i m acc H ⟨rfl, hi, p⟩
  obtain ⟨q, q2, hD, ha⟩ := hl i acc H hi p
  refine ⟨hD, ?_⟩
  by_cases hlt : i < xs.length
  · have hlt2 : i < ys.length := by (first | lia | omega)
    refine .inr ⟨⟨xs, ys, xs[i], ys[i], q, q2, by simp [hlt], by simp [hlt2]⟩, by (first | lia | omega), Pv (i + 1), fun acc' H' p' => ⟨xs.length - (i + 1), by (first | lia | omega), rfl, hlt, p'⟩, fun v H' y => ?_⟩
    obtain ⟨T, x, z, rfl, hT, rfl, y1, y2⟩ := y
    exact hs i x z T acc _ (y1 xs q) (y2 ys q2) p hT
  · have e : i = xs.length := by (first | lia | omega)
    subst e
    exact .inl ⟨⟨xs, ys, q, q2, .inl (Nat.le_refl _)⟩, hd acc H p⟩
end
end L2

namespace L2
open PySem PySem.Spec PyProof.Rows
section
variable {X : Cx}
theorem call_rng : CallR X (.type "range") (fun xs H Q => ∃ j : Int, xs = [.int j] ∧ ∀ p, H p = none → Q (.ref p) (upd H p (.rng 0 j))) := by
  intro pins s σ H xs us Q I r h
  obtain ⟨j, rfl, q⟩ := h
  obtain ⟨u, rfl, t, rfl⟩ := vals1 r
  refine call_range_1 ⟨.ref s.heap.objs.size, _, I.laid (t' := s.toks + 1 + 1) (fun b o e => Heap.get?_push_of_some _ e) (Nat.le_refl _) ?_, rfl, q _ I.fresh⟩
  exact ⟨_, _, _, Heap.get?_push_size _ rfl⟩
def rngV (n : Nat) : List V := (List.range n).map fun i => V.int ((i : Nat) : Int)
theorem listR (hc : X.calm = true) : CallR X (.type "list") (fun xs H Q => ∃ p, ∃ n : Nat, xs = [.ref p] ∧ H p = some (.rng 0 (n : Int)) ∧ n ≤ 900 ∧ ∀ l, H l = none → Q (.ref l) (upd H l (.lst (rngV n)))) := by
  intro pins s σ H xs us Q I r h
  obtain ⟨p, n, rfl, hp, hn, q⟩ := h
  obtain ⟨u, rfl, rx⟩ := vals1 r
  cases rx
  obtain ⟨t, u, v, e⟩ := (show ObjOk X.prog X.w H s.heap p (.rng 0 (n : Int)) from I.hok p _ hp)
  have hsz : Builtin.Range.rangeSize 0 (n : Int) 1 = (n : Int) := by rw [rangeSize_one]; split <;> (first | lia | omega)
  refine call_list_range (I.ok.hd hc) e (small_one (by (first | lia | omega)) (by (first | lia | omega)) (by (first | lia | omega)) (by (first | lia | omega))) hsz (Nat.le_trans hn (by decide)) fun h' tk acc c kp e' hacc => ?_
  refine ⟨.ref s.heap.objs.size, _, I.laid (t' := tk) kp (Nat.le_refl _) ?_, rfl, q _ I.fresh⟩
  have hl : acc.toList.length = n := by rw [Array.length_toList]; exact hacc.1
  have hz : (rngV n).length ≤ sizeLine := by
    unfold rngV
    rw [List.length_map, List.length_range]
    exact Nat.le_of_lt (small1000 (by (first | lia | omega)))
  refine ⟨hz, acc.toList, c, ?_, by simpa using e'⟩
  have key : ∀ (ys : List Value) (k : Nat), (∀ j v, ys[j]? = some v → ∃ t, v = Value.int (((k + j : Nat)) : Int) t) → Vals ((List.range' k ys.length).map fun i => V.int ((i : Nat) : Int)) ys := by
    intro ys
    induction ys with
    | nil => intro k _; exact .nil
    | cons y r ih =>
      intro k hy
      obtain ⟨t, ht⟩ := hy 0 y rfl
      refine .cons ⟨t, by simpa using ht⟩ (ih (k + 1) fun j v hv => ?_)
      obtain ⟨t', ht'⟩ := hy (j + 1) v (by simpa using hv)
      exact ⟨t', by rw [ht']; congr 2; (first | lia | omega)⟩
  have z := key acc.toList 0 fun j v hv => by
    obtain ⟨t, ht⟩ := hacc.2 j v (by simpa using hv)
    exact ⟨t, by rw [ht]; congr 1; (first | lia | omega)⟩
  rw [hl] at z
  unfold rngV
  rw [List.range_eq_range']
  exact z
end
end L2

namespace L2
open PySem PySem.Spec PyProof.Rows
theorem valsInts : ∀ {us : List Value} {ns : List Int}, IntsAre us ns → Vals (ns.map V.int) us
  | _, _, .nil => .nil
  | _, _, .cons n t r => .cons ⟨t, rfl⟩ (valsInts r)
section
variable {X : Cx}
theorem sortedK (K : PySem.W.Frag) (hK : X.K = K := by rfl) : CallR X (.builtin "sorted") (fun xs H Q => ∃ (p : Addr) (ns : List Int), xs = [.ref p] ∧ SqL K H p (ns.map V.int) ∧ ns.length < 64 ∧
    ∀ (l : Addr) (ns' : List Int), H l = none → ns'.Perm ns → ns'.Pairwise (· ≤ ·) → Q (.ref l) (upd H l (.lst (ns'.map V.int)))) := by
  subst hK
  intro pins s σ H xs us Q I r h
  obtain ⟨p, ns, rfl, hq, hn, q⟩ := h
  obtain ⟨u, rfl, rx⟩ := vals1 r
  cases rx
  obtain ⟨its, rv, pl, hz⟩ := I.list hq
  have hl := rv.length
  rw [List.length_map] at hl
  refine PyProof.Rows.sorted_ints pl.isList (intsAre_of rv) (by (first | lia | omega)) fun out ns' a1 a2 a3 => ?_
  obtain ⟨e, he⟩ := sortedAll_at s.heap its out
  have hfr : H (s.heap.objs.size + 1) = none := I.hok.fresh (Nat.le_succ _)
  refine ⟨.ref (s.heap.objs.size + 1), _, I.laid (t' := s.toks) (fun _ _ => sortedAll_old) (Nat.le_succ _) ?_, rfl, q _ ns' hfr a2 a3⟩
  refine ⟨?_, out.toList, e, valsInts a1, ?_⟩
  · rw [List.length_map, a2.length_eq]
    exact Nat.le_of_lt (small1000 (by (first | lia | omega)))
  · have : out.toList.toArray = out := by simp
    rw [this]
    exact he
end
end L2

namespace L2
open PySem PySem.Spec PyProof.Rows
theorem minRun_le : ∀ (fuel n r : Nat), minRun' fuel n r ≤ n + r
  | 0, n, r => Nat.le_refl _
  | fuel + 1, n, r => by
    rw [minRun'_succ]
    by_cases h : n < 64
    · rw [if_pos h]; exact Nat.le_refl _
    · rw [if_neg h]
      have z := minRun_le fuel (n / 2) (max r (n % 2))
      (first | lia | omega)
theorem rising_keys {vs : List Value} {ns : List Int} (hI : IntsAre vs ns) (hp : ns.Pairwise (· ≤ ·)) : SortedTo (pairsOf vs) (pairsOf vs).size := by
  have key : ∀ {vs : List Value} {ns : List Int}, IntsAre vs ns → ∀ i : Nat, (vs[i]?).map numOf = ns[i]? := by
    intro vs ns hI
    induction hI with
    | nil => intro i; simp
    | cons n t r ih =>
      intro i
      cases i with
      | zero => simp [numOf]
      | succ i => simpa using ih i
  have kk : ∀ i, PyProof.Rows.K (pairsOf vs) i = (ns[i]?).getD 0 := by
    intro i
    unfold PyProof.Rows.K pairsOf
    rw [← key hI i]
    simp only [Array.getElem?_zip_eq_some, ← Array.getElem?_toList]
    cases h : vs[i]? with
    | none => simp [h, Array.zip, Array.getElem?_zipWith]
    | some v => simp [h, Array.zip, Array.getElem?_zipWith]
  intro i j hij hj
  rw [kk i, kk j]
  have hl : vs.length = ns.length := by
    clear kk hj hp key
    induction hI with
    | nil => rfl
    | cons n t r ih => simp [ih]
  rw [pairsOf_size, hl] at hj
  by_cases e : i = j
  · rw [e]; exact Int.le_refl _
  · rw [List.getElem?_eq_getElem hj, List.getElem?_eq_getElem (by (first | lia | omega) : i < ns.length)]
    exact List.pairwise_iff_getElem.mp hp i j (by (first | lia | omega)) hj (by (first | lia | omega))
section
variable {prog : Program} {w : World} {A : Around} {E : Value → Shared → Prop} {s : Shared} {a₀ : Array Keyed}
theorem run_rising {st : SortSt} {k : Nat} {Q : Option Nat → SortSt → Prop} (h0 : IntKeys a₀) (hk : k = a₀.size) (k1 : 1 ≤ k) (hB : SBase a₀ st) (hs : SortedTo (arrOf st) k) (h : Q (some k) st) :
    wpS (model prog w) A E s (countRun' 0 k) Q st := by
  rw [countRun0_eq]
  refine wpS_bind (wpS_ascLoop h0 (Nat.le_of_eq hk) (Nat.le_refl 1) k1 hB (fun i j hij hj => hs i j hij (by (first | lia | omega))) fun c c1 c2 _ ho => ?_)
  have e : c = k := by
    rcases ho with ho | ho
    · exact ho
    · by_cases e : c = k
      · exact e
      · have z := hs (c - 1) c (Nat.sub_le _ _) (by (first | lia | omega))
        (first | lia | omega)
  subst e
  dsimp only
  rw [if_pos (by simp)]; exact wpS_pure h
theorem runs_rising {st : SortSt} {Q : Unit → SortSt → Prop} (h0 : IntKeys a₀) (hB : SBase a₀ st) (two : 2 ≤ a₀.size) (hs : SortedTo (arrOf st) a₀.size)
    (h : ∀ st', (arrOf st').Perm a₀ → failedOf st' = none → SortedTo (arrOf st') a₀.size → Q () st') : wpS (model prog w) A E s sortRuns' Q st := by
  rw [sortRuns'_eq]; refine wpS_bind (wpS_get ?_); dsimp only
  have mr : minRun' a₀.size a₀.size 0 ≤ a₀.size := minRun_le _ _ _
  simp only [hB.size]
  refine wpS_bind (wpS_mono (wpS_forRange (I := fun x c st' => (x = 0 ∧ c = (none, 0) ∧ st' = st) ∨ (1 ≤ x ∧ c = (none, a₀.size) ∧ SDone a₀ st')) (Q := fun c st' => c = (none, a₀.size) ∧ SDone a₀ st')
    (fun x c st' _ _ hI => ?one) (fun c st' hI => ?all) (.inl ⟨rfl, rfl, rfl⟩)) fun c st' hD => ?post)
  case all =>
    rcases hI with ⟨z, _, _⟩ | ⟨_, e, hD⟩
    · (first | lia | omega)
    · exact ⟨e, hD⟩
  case one =>
    rcases hI with ⟨rfl, rfl, rfl⟩ | ⟨_, rfl, hD⟩
    · dsimp only
      rw [if_neg (by (first | lia | omega)), Nat.sub_zero]
      refine wpS_bind (run_rising h0 rfl (by (first | lia | omega)) hB hs ?_)
      dsimp only
      rw [if_neg (by (first | lia | omega))]
      refine wpS_bind (wpS_get ?_)
      have none_yet : (pendingOf st').back? = none := by rw [hB.pend]; rfl
      rw [none_yet]
      dsimp only
      exact wpS_bind (wpS_modify (wpS_pure (.inr ⟨by (first | lia | omega), by rw [Nat.zero_add], hB.done hs⟩)))
    · dsimp only
      rw [if_pos (Nat.le_refl a₀.size)]; exact wpS_pure ⟨rfl, hD⟩
  case post =>
    obtain ⟨rfl, hD⟩ := hD
    dsimp only
    refine wpS_bind (wpS_mono (wpS_forRange (I := fun _ c u => u = st' ∧ c = (none, ())) (Q := fun c u => u = st' ∧ c = (none, ())) (fun x c u _ _ hI => ?again) (fun _ _ q => q) ⟨rfl, rfl⟩) fun c u hI => ?out)
    case again =>
      obtain ⟨rfl, rfl⟩ := hI
      refine wpS_bind (wpS_get ?_)
      rw [if_pos (by rw [hD.2.2.1]; exact Nat.le_refl 1)]; exact wpS_pure ⟨rfl, rfl⟩
    case out =>
      obtain ⟨rfl, rfl⟩ := hI
      exact wpS_pure (h _ hD.1 hD.2.1 hD.2.2.2)
theorem sort_rising {a : Addr} {vs : List Value} {ns : List Int} {n : Nat} {P : Fin → Shared → Prop} (ho : s.heap.get? a = some (seqObj "list" vs.toArray n)) (hI : IntsAre vs ns) (few : vs.length ≤ 1000) (rise : ns.Pairwise (· ≤ ·))
    (h : ∀ (out : Array Value) (ns' : List Int), IntsAre out.toList ns' → ns'.Perm ns → ns'.Pairwise (· ≤ ·) → P (.done (.ret .none)) { s with heap := sortedHeap s.heap a vs out }) : wpAny (model prog w) A (Builtin.«list.sort» ⟨[.ref a], []⟩) P E s := by
  by_cases h64 : vs.length < 64
  · exact list_sort_tree ho hI h64 h
  rw [list_sort_plain]
  have lt := Heap.lt_size ho
  have z9 : vs.length < sizeLine := small1000 (by (first | lia | omega))
  have z8 : vs.toArray.size = vs.length := by simp
  refine wpAny_bind (listItems_at ho rfl (wpAny_bind (listUpdate_at ho rfl ?_ (by rw [z8]; exact Nat.le_of_lt z9) (Nat.zero_le _))))
  obtain ⟨ep, g1⟩ : ∃ ep, (s.heap.update a (Obj.mapSeq fun _ => #[])).get? a = some (seqObj "list" #[] ep) := ⟨_, get?_update_seq ho (fun _ => #[])⟩
  refine wpAny_bind (seqEpoch_at g1 rfl (wpAny_bind (wpAny_newTuple (wpAny_bind (wpAny_newList (wpAny_holding ?_))) (Nat.le_of_lt z9))))
  have g2 : (((s.heap.update a (Obj.mapSeq fun _ => #[])).push (seqObj "tuple" vs.toArray 0)).push (seqObj "list" #[] 0)).get? a = some (seqObj "list" #[] ep) := Heap.get?_push_of_some _ (Heap.get?_push_of_some _ g1)
  have p9 : (pairsOf vs).size = vs.length := pairsOf_size vs
  have ks := rising_keys hI rise
  match vs, hI, ho, h, h64, z9, z8, p9, ks, g2 with
  | [], _, _, _, h64, _, _, _, _, _ => exact absurd (by show 0 < 64; decide) h64
  | [_], _, _, _, h64, _, _, _, _, _ => exact absurd (by show 1 < 64; decide) h64
  | v :: v' :: r, hI, ho, h, h64, z9, z8, p9, ks, g2 =>
    show wpAny _ A _ P E { s with heap := ((s.heap.update a (Obj.mapSeq fun _ => #[])).push (seqObj "tuple" (v :: v' :: r).toArray 0)).push (seqObj "list" #[] 0) }
    have big : ¬ (v :: v' :: r).toArray.size < 2 := by rw [z8]; (first | lia | omega)
    dsimp only
    rw [if_neg big, if_neg big, keyKind_ints hI]
    refine wpAny_bind (wpAny_pure ?_)
    refine wpAny_bind (wpAny_mono (runs_rising (a₀ := pairsOf (v :: v' :: r)) (st := SortSt.mk' oneType' ((v :: v' :: r).toArray.zip (v :: v' :: r).toArray) #[] 7 none)
      (Q := fun _ u => (arrOf u).Perm (pairsOf (v :: v' :: r)) ∧ failedOf u = none ∧ SortedTo (arrOf u) (pairsOf (v :: v' :: r)).size)
      hI.intKeys ⟨Array.Perm.refl _, rfl, rfl, rfl⟩ (by rw [p9]; (first | lia | omega)) ks fun u b1 b2 b3 => ⟨b1, b2, b3⟩) ?_ fun _ _ e => e)
    rintro ⟨⟨⟩, u⟩ s' ⟨rfl, b1, b2, b3⟩
    dsimp only
    refine wpAny_bind (seqEpoch_at g2 rfl (wpAny_bind (listUpdate_at g2 rfl ?_ (Nat.zero_le _) (by rw [Array.size_map, b1.size_eq, p9]; (first | lia | omega)))))
    rw [b2]
    simp only [bne_self_eq_false, Bool.false_eq_true, if_false]
    obtain ⟨ns', q1, q2, q3⟩ := sorted_out hI b1 b3
    exact wpAny_pure (h _ ns' q1 q2 q3)
theorem sorted_rising {l : Addr} {vs : List Value} {ns : List Int} {Q : Value → Shared → Prop} (hl : s.heap.IsList l vs.toArray) (hI : IntsAre vs ns) (few : vs.length ≤ 1000) (rise : ns.Pairwise (· ≤ ·))
    (h : ∀ (out : Array Value) (ns' : List Int), IntsAre out.toList ns' → ns'.Perm ns → ns'.Pairwise (· ≤ ·) → Q (.ref (s.heap.objs.size + 1)) { s with heap := sortedAll s.heap vs out }) : wpAny (model prog w) A (call (.builtin "sorted") [.ref l]) Q E s := by
  have z9 : vs.length < sizeLine := small1000 (by (first | lia | omega))
  refine Calls.call_function_entry kind_sorted plain_sorted entry_sorted (args_sorted1 _) ?_
  unfold Builtin.«sorted»
  refine wpAny_bind (m := checkCount "sorted" 1 1 _) (wpAny_pure (wpAny_bind (collect_list hl (wpAny_bind (wpAny_newList ?_ (Nat.le_of_lt z9))) (Nat.le_of_lt z9))))
  have sz : ((s.heap.push (seqObj "list" #[] 0)).update s.heap.objs.size (Obj.mapSeq (· ++ vs.toArray))).objs.size = s.heap.objs.size + 1 := (Heap.size_update ..).trans (size_push' ..)
  have g : (((s.heap.push (seqObj "list" #[] 0)).update s.heap.objs.size (Obj.mapSeq (· ++ vs.toArray))).push (seqObj "list" vs.toArray 0)).get? (s.heap.objs.size + 1) = some (seqObj "list" vs.toArray 0) := sz ▸ Heap.get?_push_size _ rfl
  show wpAny _ (A.in1) _ _ E { s with heap := ((s.heap.push (seqObj "list" #[] 0)).update s.heap.objs.size (Obj.mapSeq (· ++ vs.toArray))).push (seqObj "list" vs.toArray 0) }
  rw [sz]
  exact wpAny_bind (wpAny_holding (wpAny_call_entry slot_list_sort ⟨_, g, rfl⟩ entry_list_sort (sort_rising g hI few rise fun out ns' q1 q2 q3 => ⟨_, rfl, wpAny_pure ⟨_, rfl, h out ns' q1 q2 q3⟩⟩) (args_list_sort _)))
end
section
variable {X : Cx}
theorem sortedA (K : PySem.W.Frag) (hK : X.K = K := by rfl) : CallR X (.builtin "sorted") (fun xs H Q => ∃ (p : Addr) (ns : List Int), xs = [.ref p] ∧ SqL K H p (ns.map V.int) ∧ ns.length ≤ 1000 ∧ ns.Pairwise (· ≤ ·) ∧
    ∀ l : Addr, H l = none → Q (.ref l) (upd H l (.lst (ns.map V.int)))) := by
  subst hK
  intro pins s σ H xs us Q I r h
  obtain ⟨p, ns, rfl, hq, hn, rise, q⟩ := h
  obtain ⟨u, rfl, rx⟩ := vals1 r
  cases rx
  obtain ⟨its, rv, pl, hz⟩ := I.list hq
  have hl := rv.length
  rw [List.length_map] at hl
  refine sorted_rising pl.isList (intsAre_of rv) (by (first | lia | omega)) rise fun out ns' a1 a2 a3 => ?_
  have e9 : ns' = ns := List.Perm.eq_of_pairwise (fun x y _ _ h1 h2 => Int.le_antisymm h1 h2) a3 rise a2
  subst e9
  obtain ⟨e, he⟩ := sortedAll_at s.heap its out
  have hfr : H (s.heap.objs.size + 1) = none := I.hok.fresh (Nat.le_succ _)
  refine ⟨.ref (s.heap.objs.size + 1), _, I.laid (t' := s.toks) (fun _ _ => sortedAll_old) (Nat.le_succ _) ?_, rfl, q _ hfr⟩
  refine ⟨?_, out.toList, e, valsInts a1, ?_⟩
  · rw [List.length_map]
    exact Nat.le_of_lt (small1000 (by (first | lia | omega)))
  · have : out.toList.toArray = out := by simp
    rw [this]
    exact he
end
end L2

namespace L2
open PySem PySem.Spec PyProof.Rows
section
variable {X : Cx}
end
end L2
namespace HT
open PySem PyProof.Rows
section
variable {prog : Program} {w : World} {A : Around} {E : Value → Shared → Prop} {s : Shared}
end
end HT
namespace L2
open PySem PySem.Spec PyProof.Rows
section
variable {X : Cx}
end
end L2

namespace Ring
open PySem
abbrev Tie := Int × Int × Int
def bit (S : Int) (k : Nat) : Bool := decide (S / 2 ^ k % 2 = 1)
def tiesOf (S : Int) : List Nat := (List.range (Builtin.Int.intBits S)).filter (bit S)
def bump (e : List Int) (i : Int) : List Int := e.set i.toNat (e.getD i.toNat 0 + 1)
def step (ts : List Tie) (e : List Int) (k : Nat) : List Int := match ts[k]? with
  | some t => bump (bump e t.1) t.2.1
  | none => e
def endsOf (p : Nat) (ts : List Tie) (S : Int) : List Int := (tiesOf S).foldl (step ts) (List.replicate p 0)
def oddOf (p : Nat) (ts : List Tie) (S : Int) : List Nat := (List.range p).filter fun i => decide ((endsOf p ts S).getD i 0 % 2 = 1)
def deg (ts : List Tie) (k i : Nat) : Int := match ts[k]? with
  | some t => (if t.1 = (i : Int) then 1 else 0) + (if t.2.1 = (i : Int) then 1 else 0)
  | none => 0
theorem bump_len (e : List Int) (i : Int) : (bump e i).length = e.length := by unfold bump; rw [List.length_set]
theorem step_len (ts : List Tie) (e : List Int) (k : Nat) : (step ts e k).length = e.length := by
  unfold step
  split
  · rw [bump_len, bump_len]
  · rfl
theorem fold_len (ts : List Tie) : ∀ (ks : List Nat) (e : List Int), (ks.foldl (step ts) e).length = e.length
  | [], _ => rfl
  | k :: r, e => by rw [List.foldl_cons, fold_len ts r, step_len]
theorem bump_get (e : List Int) (j : Int) (i : Nat) (h0 : 0 ≤ j) (h1 : j < e.length) : (bump e j).getD i 0 = e.getD i 0 + if j = (i : Int) then 1 else 0 := by
  unfold bump
  rw [List.getD_eq_getElem?_getD, List.getD_eq_getElem?_getD, List.getD_eq_getElem?_getD]
  by_cases h : j = (i : Int)
  · have hi : j.toNat = i := by (first | lia | omega)
    rw [if_pos h, hi, List.getElem?_set_self (by (first | lia | omega))]
    rfl
  · have hi : j.toNat ≠ i := by (first | lia | omega)
    rw [if_neg h, List.getElem?_set_ne hi]
    (first | lia | omega)
structure InWeb (p : Nat) (ts : List Tie) : Prop where
  ends : ∀ t ∈ ts, 0 ≤ t.1 ∧ t.1 < (p : Int) ∧ 0 ≤ t.2.1 ∧ t.2.1 < (p : Int)
theorem step_get {p : Nat} {ts : List Tie} (W : InWeb p ts) (e : List Int) (k i : Nat) (he : e.length = p) : (step ts e k).getD i 0 = e.getD i 0 + deg ts k i := by
  unfold step deg
  cases h : ts[k]? with
  | none => simp
  | some t =>
    obtain ⟨a0, a1, b0, b1⟩ := W.ends t (List.mem_of_getElem? h)
    dsimp only
    rw [bump_get _ _ _ b0 (by rw [bump_len, he]; exact b1), bump_get _ _ _ a0 (by rw [he]; exact a1)]
    (first | lia | omega)
def sumDeg (ts : List Tie) (ks : List Nat) (i : Nat) : Int := (ks.map fun k => deg ts k i).sum
theorem fold_get {p : Nat} {ts : List Tie} (W : InWeb p ts) (i : Nat) : ∀ (ks : List Nat) (e : List Int), e.length = p → (ks.foldl (step ts) e).getD i 0 = e.getD i 0 + sumDeg ts ks i
  | [], e, _ => by simp [sumDeg]
  | k :: r, e, he => by
    rw [List.foldl_cons, fold_get W i r _ (by rw [step_len, he]), step_get W e k i he]
    unfold sumDeg
    rw [List.map_cons, List.sum_cons]
    (first | lia | omega)
theorem ends_get {p : Nat} {ts : List Tie} (W : InWeb p ts) (S : Int) (i : Nat) : (endsOf p ts S).getD i 0 = sumDeg ts (tiesOf S) i := by
  unfold endsOf
  rw [fold_get W i _ _ (by simp)]
  have e : (List.replicate p (0 : Int)).getD i 0 = 0 := by
    rw [List.getD_eq_getElem?_getD, List.getElem?_replicate]
    split <;> rfl
  rw [e]
  (first | lia | omega)
theorem bit_nat (m k : Nat) : bit (m : Int) k = m.testBit k := by
  unfold bit
  rw [Nat.testBit_eq_decide_div_mod_eq]
  have e : ((m : Int) / 2 ^ k % 2 = 1) ↔ (m / 2 ^ k % 2 = 1) := by
    have h2 : ((2 : Int) ^ k) = ((2 ^ k : Nat) : Int) := by simp
    rw [h2, ← Int.natCast_ediv]
    (first | lia | omega)
  simp only [e]
theorem bits_nat (m : Nat) : Builtin.Int.intBits (m : Int) = if m = 0 then 0 else m.log2 + 1 := by
  unfold Builtin.Int.intBits
  by_cases h : m = 0
  · simp [h]
  · simp [h]
theorem bits_le {m n : Nat} (h : m < 2 ^ n) : Builtin.Int.intBits (m : Int) ≤ n := by
  rw [bits_nat]
  split
  · exact Nat.zero_le _
  · rename_i h0
    exact (Nat.log2_lt h0).mpr h
theorem bit_high {m k : Nat} (h : Builtin.Int.intBits (m : Int) ≤ k) : bit (m : Int) k = false := by
  rw [bit_nat]
  rw [bits_nat] at h
  by_cases h0 : m = 0
  · simp [h0]
  · rw [if_neg h0] at h
    exact Nat.testBit_lt_two_pow (Nat.lt_of_lt_of_le Nat.lt_log2_self (Nat.pow_le_pow_right (by decide) h))
theorem range_filter (f : Nat → Bool) (a : Nat) : ∀ d, (∀ k, a ≤ k → f k = false) → (List.range (a + d)).filter f = (List.range a).filter f
  | 0, _ => rfl
  | d + 1, h => by
    rw [← Nat.add_assoc, List.range_succ, List.filter_append, range_filter f a d h]
    have e : [a + d].filter f = [] := by rw [List.filter_cons, if_neg (by rw [h _ (by (first | lia | omega))]; simp)]; rfl
    rw [e, List.append_nil]
theorem ties_nat {m n : Nat} (h : m < 2 ^ n) : tiesOf (m : Int) = (List.range n).filter fun k => m.testBit k := by
  unfold tiesOf
  have hb := bits_le h
  obtain ⟨d, hd⟩ := Nat.exists_eq_add_of_le hb
  have e : (fun k => m.testBit k) = bit (m : Int) := funext fun k => (bit_nat m k).symm
  rw [e]
  conv => rhs; rw [hd]
  exact (range_filter _ _ d fun k hk => bit_high hk).symm
theorem ties_lt {m n : Nat} (h : m < 2 ^ n) {k : Nat} (hk : k ∈ tiesOf (m : Int)) : k < n := by
  rw [ties_nat h] at hk
  exact List.mem_range.mp (List.mem_filter.mp hk).1
theorem sum_filter (ts : List Tie) (i : Nat) (f : Nat → Bool) : ∀ ks : List Nat, sumDeg ts (ks.filter f) i = (ks.map fun k => if f k = true then deg ts k i else 0).sum
  | [] => rfl
  | k :: r => by
    have ih := sum_filter ts i f r
    rw [List.map_cons, List.sum_cons, ← ih]
    cases h : f k with
    | true =>
      rw [List.filter_cons, if_pos h]
      unfold sumDeg
      rw [List.map_cons, List.sum_cons]
      simp
    | false =>
      rw [List.filter_cons, if_neg (by rw [h]; simp)]
      simp
theorem bits_sum {a b x y : Nat} (q : x / 2 + 2 * (y / 2) = a / 2 + b / 2) (h : x % 2 + 2 * (y % 2) = a % 2 + b % 2) : x + 2 * y = a + b := by (first | lia | omega)
theorem mod_one {u v : Nat} (hu : u = 0 ∨ u = 1) (hv : v = 0 ∨ v = 1) : (u ^^^ v) + 2 * (u &&& v) = u + v := by
  rcases hu with rfl | rfl <;> rcases hv with rfl | rfl <;> rfl
theorem xor_and : ∀ a b : Nat, (a ^^^ b) + 2 * (a &&& b) = a + b := by
  intro a
  induction a using Nat.strongRecOn with
  | ind a ih =>
    intro b
    by_cases h : a = 0
    · subst h
      simp
    · have q := ih (a / 2) (by (first | lia | omega)) (b / 2)
      rw [← Nat.xor_div_two, ← Nat.and_div_two] at q
      refine bits_sum q ?_
      have e1 : (a ^^^ b) % 2 = a % 2 ^^^ b % 2 := Nat.xor_mod_two_pow (n := 1)
      have e2 : (a &&& b) % 2 = a % 2 &&& b % 2 := Nat.and_mod_two_pow (n := 1)
      rw [e1, e2]
      exact mod_one (Nat.mod_two_eq_zero_or_one a) (Nat.mod_two_eq_zero_or_one b)
theorem xor_int (a b : Nat) : Builtin.bitXor (a : Int) (b : Int) = ((a ^^^ b : Nat) : Int) := by
  have h : (a : Int) + b - 2 * ((a &&& b : Nat) : Int) = ((a ^^^ b : Nat) : Int) := by
    have q := xor_and a b
    (first | lia | omega)
  have e := PyProof.Rows.bitXor_and (a : Int) (b : Int)
  rw [e, PyProof.Rows.bitAnd_pp (by (first | lia | omega)) (by (first | lia | omega))]
  simpa using h
end Ring

namespace Ring
open PySem L2
def tieV (t : Tie) : List V := [.int t.1, .int t.2.1, .int t.2.2]
def TupAt (H : Hp) (x : V) (t : Tie) : Prop := ∃ b, x = .ref b ∧ H b = some (.tup (tieV t))
structure WebAt (H : Hp) (w : Addr) (p : Nat) (ts : List Tie) : Prop where
  ex : ∃ b xs, H w = some (.tup [.int (p : Int), .ref b]) ∧ H b = some (.tup xs) ∧ Paired (TupAt H) xs ts
structure Web (p : Nat) (ts : List Tie) : Prop where
  inw : InWeb p ts
  len : ts.length ≤ 24
  pts : p ≤ 10
theorem TupAt.tups {H H' : Hp} (s : Tups H H') {x : V} {t : Tie} (h : TupAt H x t) : TupAt H' x t := by
  obtain ⟨b, e, h⟩ := h
  exact ⟨b, e, s _ _ h⟩
theorem WebAt.tups {H H' : Hp} {w : Addr} {p : Nat} {ts : List Tie} (s : Tups H H') (h : WebAt H w p ts) : WebAt H' w p ts := by
  obtain ⟨b, xs, h1, h2, h3⟩ := h.ex
  exact ⟨b, xs, s _ _ h1, s _ _ h2, Paired.imp' (fun _ _ z => z.tups s) h3⟩
theorem WebAt.same {H H' : Hp} {w : Addr} {p : Nat} {ts : List Tie} (s : Same H H') (h : WebAt H w p ts) : WebAt H' w p ts := h.tups s.tups
def natsV (l : List Nat) : List V := l.map fun k => V.int ((k : Nat) : Int)
theorem natsV_snoc (l : List Nat) (k : Nat) : natsV (l ++ [k]) = natsV l ++ [.int (k : Int)] := by unfold natsV; rw [List.map_append]; rfl
theorem natsV_len (l : List Nat) : (natsV l).length = l.length := by unfold natsV; rw [List.length_map]
theorem natsV_get {l : List Nat} {i : Nat} {x : V} (h : (natsV l)[i]? = some x) : ∃ k, l[i]? = some k ∧ x = .int (k : Int) := by
  unfold natsV at h
  rw [List.getElem?_map] at h
  obtain ⟨k, e, q⟩ := Option.map_eq_some_iff.mp h
  exact ⟨k, e, q.symm⟩
theorem filter_range_succ (f : Nat → Bool) (i : Nat) : (List.range (i + 1)).filter f = (List.range i).filter f ++ (if f i = true then [i] else []) := by
  rw [List.range_succ, List.filter_append]
  congr 1
  cases h : f i with
  | true => rw [List.filter_cons, if_pos h, if_pos rfl]; rfl
  | false => rw [List.filter_cons, if_neg (by rw [h]; simp), if_neg (by simp)]; rfl
def Pick (f : Nat → Bool) (H : Hp) (D : Addr) (i : Nat) (acc : List V) (H2 : Hp) : Prop := Same H H2 ∧ H2 D = some (.lst acc) ∧ acc = natsV ((List.range i).filter f)
section
variable {f : Nat → Bool} {H H2 H3 : Hp} {D : Addr} {i : Nat} {acc : List V}
theorem Pick.start (hD : H D = none) : Pick f H D 0 [] (upd H D (.lst [])) := ⟨Same.new hD, upd_same, rfl⟩
theorem Pick.len (p : Pick f H D i acc H2) : H2 D = some (.lst acc) ∧ acc.length ≤ i := by
  refine ⟨p.2.1, ?_⟩
  rw [p.2.2, natsV_len]
  exact Nat.le_trans (List.length_filter_le _ _) (by rw [List.length_range]; exact Nat.le_refl _)
theorem Pick.yes (p : Pick f H D i acc H2) (hD : H D = none) (s : Same H2 H3) (hf : f i = true) : H3 D = some (.lst acc) ∧ Pick f H D (i + 1) (acc ++ [.int (i : Int)]) (upd H3 D (.lst (acc ++ [.int (i : Int)]))) := by
  refine ⟨s _ _ p.2.1, (p.1.trans s).put hD, upd_same, ?_⟩
  rw [filter_range_succ, if_pos hf, natsV_snoc, ← p.2.2]
theorem Pick.no (p : Pick f H D i acc H2) (s : Same H2 H3) (hf : f i = false) : Pick f H D (i + 1) acc H3 := by
  refine ⟨p.1.trans s, s _ _ p.2.1, ?_⟩
  rw [filter_range_succ, if_neg (by rw [hf]; simp), List.append_nil]
  exact p.2.2
end
def tieAt (ts : List Tie) (k : Nat) : Tie := ts.getD k (0, 0, 0)
def stepT (e : List Int) (t : Tie) : List Int := bump (bump e t.1) t.2.1
theorem fold_ties {ts : List Tie} : ∀ (ks : List Nat) (e : List Int), (∀ k ∈ ks, k < ts.length) → (ks.map (tieAt ts)).foldl stepT e = ks.foldl (step ts) e
  | [], _, _ => rfl
  | k :: r, e, h => by
    rw [List.map_cons, List.foldl_cons, List.foldl_cons, fold_ties r _ fun j hj => h j (List.mem_cons_of_mem _ hj)]
    have hk := h k List.mem_cons_self
    have e1 : ts[k]? = some (tieAt ts k) := by
      unfold tieAt
      rw [List.getD_eq_getElem?_getD]
      simp [hk]
    have e2 : step ts e k = stepT e (tieAt ts k) := by
      unfold step stepT
      rw [e1]
    rw [e2]
theorem ends_ties {p : Nat} {ts : List Tie} {m : Nat} (h : m < 2 ^ ts.length) : endsOf p ts (m : Int) = ((tiesOf (m : Int)).map (tieAt ts)).foldl stepT (List.replicate p 0) := by
  unfold endsOf
  rw [fold_ties _ _ fun k hk => ties_lt h hk]
theorem stepT_len (e : List Int) (t : Tie) : (stepT e t).length = e.length := by unfold stepT; rw [bump_len, bump_len]
theorem foldT_len : ∀ (l : List Tie) (e : List Int), (l.foldl stepT e).length = e.length
  | [], _ => rfl
  | t :: r, e => by rw [List.foldl_cons, foldT_len r, stepT_len]
def intsV (l : List Int) : List V := l.map V.int
theorem intsV_get {l : List Int} {i : Nat} (h : i < l.length) : (intsV l)[i]? = some (.int (l.getD i 0)) := by
  unfold intsV
  rw [List.getElem?_map, List.getD_eq_getElem?_getD]
  simp [h]
theorem intsV_bump (l : List Int) (i : Nat) : (intsV l).set i (.int (l.getD i 0 + 1)) = intsV (bump l (i : Int)) := by
  unfold intsV bump
  rw [Int.toNat_natCast, List.map_set]
theorem rep_zero (p : Nat) : (List.replicate p [V.int 0]).flatten = intsV (List.replicate p 0) := by
  induction p with
  | zero => rfl
  | succ p ih => rw [List.replicate_succ, List.flatten_cons, ih, List.replicate_succ]; rfl
theorem ixN_nat {n j : Nat} (h : j < n) : ixN n (j : Int) = some j := by
  unfold ixN
  rw [if_pos (by (first | lia | omega)), if_pos (by (first | lia | omega)), Int.toNat_natCast]
def natD (k : Nat) : PyData := .int (k : Int)
theorem nats_dat {K : PySem.W.Frag} {H : Hp} : ∀ l : List Nat, DatVs K H (natsV l) (l.map natD)
  | [] => .nil
  | _ :: r => .cons (.int _) (nats_dat r)
theorem lay_nats : ∀ l : List Nat, PyData.canLayAll0 (l.map natD) = true
  | [] => rfl
  | _ :: r => by
    have ih := lay_nats r
    simp only [List.map_cons, PyData.canLayAll0, ih, Bool.and_true]
    rfl
theorem deep_nats : ∀ l : List Nat, PyData.depthAll (l.map natD) = 0
  | [] => rfl
  | _ :: r => by
    have ih := deep_nats r
    show max (PyData.depth (PyData.int _)) (PyData.depthAll (r.map _)) = 0
    rw [ih]
    rfl
theorem shaped_nats (l : List Nat) : SeqAt.shaped (.list (l.map natD)) = true := by
  unfold SeqAt.shaped
  have e : (PyData.list (l.map natD)).canLay0 = PyData.canLayAll0 (l.map natD) := by simp [PyData.canLay0]
  rw [e, lay_nats, Bool.true_and]
  refine decide_eq_true ?_
  have e2 : PyData.depth (PyData.list (l.map natD)) = PyData.depthAll (l.map natD) + 1 := by simp [PyData.depth]
  rw [e2, deep_nats]
  decide
theorem eqv_nil (l : List Nat) : PyData.eqv (.list (l.map natD)) (.list []) = decide (l = []) := by
  cases l with
  | nil => rfl
  | cons a r => rfl
theorem has_eq (S : Int) (k : Nat) : decide (V.int (Builtin.bitAnd (S / 2 ^ k) 1) = V.int 1) = bit S k := by
  unfold bit
  rw [PyProof.Rows.bitAnd_m1]
  rw [Bool.eq_iff_iff]
  simp
theorem bit_eq (S : Int) (k : Nat) : decide (V.int (S / 2 ^ k % 2) = V.int 1) = bit S k := by
  unfold bit
  rw [Bool.eq_iff_iff]
  simp
theorem dec_one (x : Int) : decide (V.int x = V.int 1) = decide (x = 1) := by
  rw [Bool.eq_iff_iff]
  simp
end Ring

namespace Ring
open PySem L2
structure GoodTie (p : Int) (t : Tie) : Prop where
  a0 : 0 ≤ t.1
  a1 : t.1 < p
  b0 : 0 ≤ t.2.1
  b1 : t.2.1 < p
  ne : t.1 ≠ t.2.1
  l0 : 1 ≤ t.2.2
  l1 : t.2.2 ≤ 1000000000000000000000000000000
structure GoodWeb (p : Nat) (ts : List Tie) : Prop where
  p1 : 1 ≤ p
  p2 : p ≤ 10
  len : ts.length ≤ 24
  ties : ∀ t ∈ ts, GoodTie (p : Int) t
theorem GoodWeb.web {p : Nat} {ts : List Tie} (g : GoodWeb p ts) : Web p ts := ⟨⟨fun t ht => let z := g.ties t ht; ⟨z.a0, z.a1, z.b0, z.b1⟩⟩, g.len, g.p2⟩
def Ties (p : Int) (H : Hp) (D : Addr) (n : Nat) (H2 : Hp) : Prop := Same H H2 ∧ ∃ acc ts, H2 D = some (.lst acc) ∧ Paired (TupAt H2) acc ts ∧ acc.length = n ∧ ∀ t ∈ ts, GoodTie p t
section
variable {p : Int} {H H2 H3 : Hp} {D b : Addr} {n : Nat} {t : Tie}
theorem Ties.start (hD : H D = none) : Ties p H D 0 (upd H D (.lst [])) := ⟨Same.new hD, [], [], upd_same, .nil, rfl, fun t ht => nomatch ht⟩
theorem Ties.push (h : Ties p H D n H2) (hD : H D = none) (s : Same H2 H3) (g : GoodTie p t) (hb : H3 b = some (.tup (tieV t))) :
    ∃ acc, H3 D = some (.lst acc) ∧ acc.length = n ∧ Ties p H D (n + 1) (upd H3 D (.lst (acc ++ [.ref b]))) := by
  obtain ⟨s2, acc, ts, hd, pr, hn, gt⟩ := h
  have hd3 : H3 D = some (.lst acc) := s _ _ hd
  refine ⟨acc, hd3, hn, (s2.trans s).put hD, acc ++ [.ref b], ts ++ [t], upd_same, ?_, by rw [List.length_append, List.length_singleton, hn], fun u hu => ?_⟩
  · exact Paired.snoc (Paired.imp' (fun _ _ z => z.tups (s.tups.trans (Tups.put hd3))) pr) ⟨b, rfl, Tups.put hd3 _ _ hb⟩
  · rcases List.mem_append.mp hu with hu | hu
    · exact gt u hu
    · cases List.mem_singleton.mp hu
      exact g
theorem Ties.fin {q : Nat} (h : Ties (q : Int) H D n H2) : ∃ acc ts, H2 D = some (.lst acc) ∧ ts.length = n ∧ (∀ t ∈ ts, GoodTie (q : Int) t) ∧ ∀ l, H2 l = none → ∀ w, upd H2 l (.tup acc) w = none →
    Same H (upd (upd H2 l (.tup acc)) w (.tup [.int (q : Int), .ref l])) ∧ WebAt (upd (upd H2 l (.tup acc)) w (.tup [.int (q : Int), .ref l])) w q ts := by
  obtain ⟨s2, acc, ts, hd, pr, hn, gt⟩ := h
  refine ⟨acc, ts, hd, by rw [← pr.length, hn], gt, fun l hl w hw => ?_⟩
  have n1 : Same H2 (upd H2 l (.tup acc)) := Same.new hl
  have n2 := n1.trans (Same.new (o := .tup [.int (q : Int), .ref l]) hw)
  refine ⟨s2.trans n2, l, acc, upd_same, ?_, Paired.imp' (fun _ _ z => z.tups n2.tups) pr⟩
  rw [upd_ne (ne_of_none upd_same hw), upd_same]
end
theorem other_ne {p o r : Int} (h : 0 ≤ o) (h1 : o < p) (r0 : 0 ≤ r) (r1 : r < p - 1) : 0 ≤ (o + 1 + r) % p ∧ (o + 1 + r) % p < p ∧ o ≠ (o + 1 + r) % p := by
  have hp : 0 < p := by (first | lia | omega)
  refine ⟨Int.emod_nonneg _ (by (first | lia | omega)), Int.emod_lt_of_pos _ hp, ?_⟩
  by_cases hlt : o + 1 + r < p
  · rw [Int.emod_eq_of_lt (by (first | lia | omega)) hlt]
    (first | lia | omega)
  · have e : (o + 1 + r) % p = o + 1 + r - p := by
      rw [← Int.sub_emod_right, Int.emod_eq_of_lt (by (first | lia | omega)) (by (first | lia | omega))]
    rw [e]
    (first | lia | omega)
theorem small24 {n : Nat} (h : n ≤ 24) : n ≤ sizeLine := Nat.le_of_lt (small1000 (by (first | lia | omega)))
theorem smallL {n : Nat} (h : n ≤ 900) : n < sizeLine := small1000 (by (first | lia | omega))
theorem ints_at {ns : List Int} {k : Nat} (h : k < ns.length) : (ns.map V.int)[k]? = some (.int (ns.getD k 0)) := by
  rw [List.getElem?_map, List.getD_eq_getElem?_getD]
  simp [h]
theorem emod2 (x m : Int) (h : 0 < m) : 0 ≤ x % m ∧ x % m < m := ⟨Int.emod_nonneg _ (by (first | lia | omega)), Int.emod_lt_of_pos _ h⟩
end Ring

namespace RM
def xsum (f : Nat → Bool) : Nat → Bool
  | 0 => false
  | n + 1 => xsum f n ^^ f n
theorem xsum_congr {f g : Nat → Bool} : ∀ {n : Nat}, (∀ k, k < n → f k = g k) → xsum f n = xsum g n
  | 0, _ => rfl
  | n + 1, h => by
    unfold xsum
    rw [xsum_congr fun k hk => h k (by (first | lia | omega)), h n (by (first | lia | omega))]
theorem xsum_xor (f g : Nat → Bool) : ∀ n, xsum (fun k => f k ^^ g k) n = (xsum f n ^^ xsum g n)
  | 0 => rfl
  | n + 1 => by
    unfold xsum
    rw [xsum_xor f g n]
    cases xsum f n <;> cases xsum g n <;> cases f n <;> cases g n <;> rfl
theorem xsum_false : ∀ n, xsum (fun _ => false) n = false
  | 0 => rfl
  | n + 1 => by unfold xsum; rw [xsum_false n]; rfl
theorem xsum_and (c : Bool) (f : Nat → Bool) : ∀ n, xsum (fun k => c && f k) n = (c && xsum f n)
  | 0 => by cases c <;> rfl
  | n + 1 => by
    unfold xsum
    rw [xsum_and c f n]
    cases c <;> simp
theorem xsum_comm (f : Nat → Nat → Bool) (n : Nat) : ∀ m, xsum (fun x => xsum (fun k => f x k) n) m = xsum (fun k => xsum (fun x => f x k) m) n
  | 0 => by
    show false = _
    rw [← xsum_false n]
    rfl
  | m + 1 => by
    show (xsum (fun x => xsum (fun k => f x k) n) m ^^ xsum (fun k => f m k) n) = _
    rw [xsum_comm f n m, ← xsum_xor]
    rfl
theorem xsum_none {f : Nat → Bool} {n : Nat} (h : ∀ k, k < n → f k = false) : xsum f n = false := by
  rw [xsum_congr (g := fun _ => false) h, xsum_false]
theorem xsum_one {f : Nat → Bool} {a : Nat} : ∀ {n : Nat}, a < n → (∀ k, k < n → k ≠ a → f k = false) → xsum f n = f a
  | 0, h, _ => absurd h (Nat.not_lt_zero _)
  | n + 1, h, z => by
    unfold xsum
    by_cases e : a = n
    · subst e
      rw [xsum_none fun k hk => z k (by (first | lia | omega)) (by (first | lia | omega))]
      simp
    · rw [xsum_one (a := a) (by (first | lia | omega)) fun k hk hn => z k (by (first | lia | omega)) hn, z n (by (first | lia | omega)) (fun q => e q.symm)]
      simp
theorem xsum_point (C : Nat → Bool) {a m : Nat} (h : a < m) : xsum (fun x => C x && decide (a = x)) m = C a := by
  rw [xsum_one h fun k _ hk => by simp [Ne.symm hk]]
  simp
structure Net where
  p : Nat
  n : Nat
  a : Nat → Nat
  b : Nat → Nat
  al : ∀ k, k < n → a k < p
  bl : ∀ k, k < n → b k < p
  ne : ∀ k, k < n → a k ≠ b k
variable (N : Net)
def Net.inc (k x : Nat) : Bool := decide (N.a k = x) ^^ decide (N.b k = x)
def Net.bd (m x : Nat) : Bool := xsum (fun k => m.testBit k && N.inc k x) N.n
def Net.Even (m : Nat) : Prop := ∀ x, x < N.p → N.bd m x = false
variable {N}
theorem bd_xor (m q x : Nat) : N.bd (m ^^^ q) x = (N.bd m x ^^ N.bd q x) := by
  unfold Net.bd
  rw [← xsum_xor]
  refine xsum_congr fun k _ => ?_
  rw [Nat.testBit_xor]
  cases m.testBit k <;> cases q.testBit k <;> cases N.inc k x <;> rfl
theorem bd_zero (x : Nat) : N.bd 0 x = false := by
  unfold Net.bd
  exact xsum_none fun k _ => by simp
theorem bd_pow {k : Nat} (h : k < N.n) (x : Nat) : N.bd (2 ^ k) x = N.inc k x := by
  unfold Net.bd
  rw [xsum_one h fun j _ hj => by simp [Nat.testBit_two_pow, Ne.symm hj]]
  simp [Nat.testBit_two_pow]
theorem Even.xor {m q : Nat} (h : N.Even m) (h' : N.Even q) : N.Even (m ^^^ q) := fun x hx => by rw [bd_xor, h x hx, h' x hx]; rfl
theorem Even.zero : N.Even 0 := fun x _ => bd_zero x
theorem bd_class {m : Nat} (C : Nat → Bool) (h : ∀ k, k < N.n → m.testBit k = true → C (N.a k) = C (N.b k)) : xsum (fun x => C x && N.bd m x) N.p = false := by
  have e : xsum (fun x => C x && N.bd m x) N.p = xsum (fun x => xsum (fun k => C x && (m.testBit k && N.inc k x)) N.n) N.p :=
    xsum_congr fun x _ => (xsum_and (C x) _ N.n).symm
  rw [e, xsum_comm]
  refine xsum_none fun k hk => ?_
  have e2 : xsum (fun x => C x && (m.testBit k && N.inc k x)) N.p = (m.testBit k && (C (N.a k) ^^ C (N.b k))) := by
    rw [← xsum_point C (N.al k hk), ← xsum_point C (N.bl k hk), ← xsum_xor, ← xsum_and]
    refine xsum_congr fun x _ => ?_
    unfold Net.inc
    cases C x <;> cases m.testBit k <;> cases decide (N.a k = x) <;> cases decide (N.b k = x) <;> rfl
  rw [e2]
  cases hb : m.testBit k with
  | false => rfl
  | true => rw [h k hk hb]; simp
def join (L : Nat → Nat) (u v : Nat) : Nat → Nat := fun x => if L x = max (L u) (L v) then min (L u) (L v) else L x
theorem join_eq {L : Nat → Nat} {u v x y : Nat} (h : L x = L y) : join L u v x = join L u v y := by unfold join; rw [h]
theorem join_ends (L : Nat → Nat) (u v : Nat) : join L u v u = join L u v v := by
  unfold join
  split <;> split <;> (first | lia | omega)
theorem join_same {L : Nat → Nat} {u v : Nat} (h : L u = L v) : join L u v = L := by
  funext x
  unfold join
  rw [h]
  split <;> (first | lia | omega)
theorem join_apart {L : Nat → Nat} {u v x y : Nat} (h : join L u v x = join L u v y) : L x = L y ∨ (L x = L u ∧ L y = L v) ∨ (L x = L v ∧ L y = L u) := by
  unfold join at h
  have mm : (max (L u) (L v) = L u ∧ min (L u) (L v) = L v) ∨ (max (L u) (L v) = L v ∧ min (L u) (L v) = L u) := by
    rcases Nat.le_total (L u) (L v) with q | q
    · exact .inr ⟨Nat.max_eq_right q, Nat.min_eq_left q⟩
    · exact .inl ⟨Nat.max_eq_left q, Nat.min_eq_right q⟩
  rcases mm with ⟨e1, e2⟩ | ⟨e1, e2⟩
  · rw [e1, e2] at h
    split at h
    · rename_i hx
      split at h
      · rename_i hy
        exact .inl (hx.trans hy.symm)
      · exact .inr (.inl ⟨hx, h.symm⟩)
    · split at h
      · rename_i hy
        exact .inr (.inr ⟨h, hy⟩)
      · exact .inl h
  · rw [e1, e2] at h
    split at h
    · rename_i hx
      split at h
      · rename_i hy
        exact .inl (hx.trans hy.symm)
      · exact .inr (.inr ⟨hx, h.symm⟩)
    · split at h
      · rename_i hy
        exact .inr (.inl ⟨h, hy⟩)
      · exact .inl h
theorem join_le {L : Nat → Nat} {u v x : Nat} (h : L x ≤ x) : join L u v x ≤ x := by
  unfold join
  split <;> (first | lia | omega)
theorem join_root {L : Nat → Nat} {u v : Nat} (h : ∀ x, L (L x) = L x) (x : Nat) : join L u v (join L u v x) = join L u v x := by
  have hu := h u
  have hv := h v
  have hx := h x
  have hlo : L (min (L u) (L v)) = min (L u) (L v) := by
    rcases Nat.le_total (L u) (L v) with q | q
    · rw [Nat.min_eq_left q]; exact hu
    · rw [Nat.min_eq_right q]; exact hv
  unfold join
  split
  · rw [hlo]
    split <;> (first | lia | omega)
  · rw [hx]
    split <;> (first | lia | omega)
def Net.labs (N : Net) (S : Nat → Bool) : Nat → Nat → Nat
  | 0 => fun x => x
  | k + 1 => if S k = true then join (Net.labs N S k) (N.a k) (N.b k) else Net.labs N S k
variable {S : Nat → Bool}
theorem labs_le : ∀ (k x : Nat), N.labs S k x ≤ x
  | 0, _ => Nat.le_refl _
  | k + 1, x => by
    unfold Net.labs
    split
    · exact join_le (labs_le k x)
    · exact labs_le k x
theorem labs_root : ∀ (k x : Nat), N.labs S k (N.labs S k x) = N.labs S k x
  | 0, _ => rfl
  | k + 1, x => by
    by_cases hs : S k = true
    · have e : N.labs S (k + 1) = join (N.labs S k) (N.a k) (N.b k) := by
        conv => lhs; unfold Net.labs
        rw [if_pos hs]
      rw [e]
      exact join_root (labs_root k) x
    · have e : N.labs S (k + 1) = N.labs S k := by
        conv => lhs; unfold Net.labs
        rw [if_neg hs]
      rw [e]
      exact labs_root k x
theorem labs_mono {x y k : Nat} (h : N.labs S k x = N.labs S k y) : ∀ d, N.labs S (k + d) x = N.labs S (k + d) y
  | 0 => h
  | d + 1 => by
    have ih := labs_mono h d
    show N.labs S (k + d + 1) x = N.labs S (k + d + 1) y
    unfold Net.labs
    split
    · exact join_eq ih
    · exact ih
theorem labs_tie {j k : Nat} (h : j < k) (hs : S j = true) : N.labs S k (N.a j) = N.labs S k (N.b j) := by
  obtain ⟨d, rfl⟩ := Nat.exists_eq_add_of_le (Nat.succ_le_of_lt h)
  refine labs_mono ?_ d
  show N.labs S (j + 1) (N.a j) = N.labs S (j + 1) (N.b j)
  unfold Net.labs
  rw [if_pos hs]
  exact join_ends _ _ _
inductive Net.Conn (N : Net) (S : Nat → Bool) (k u : Nat) : Nat → Prop
  | refl : Net.Conn N S k u u
  | fwd {j : Nat} (h : Net.Conn N S k u (N.a j)) (hj : j < k) (hs : S j = true) : Net.Conn N S k u (N.b j)
  | bwd {j : Nat} (h : Net.Conn N S k u (N.b j)) (hj : j < k) (hs : S j = true) : Net.Conn N S k u (N.a j)
theorem Net.Conn.trans {k u v w : Nat} (h : N.Conn S k u v) (h' : N.Conn S k v w) : N.Conn S k u w := by
  induction h' with
  | refl => exact h
  | fwd _ hj hs ih => exact .fwd ih hj hs
  | bwd _ hj hs ih => exact .bwd ih hj hs
theorem Net.Conn.mono {k l u v : Nat} (h : N.Conn S k u v) (hkl : k ≤ l) : N.Conn S l u v := by
  induction h with
  | refl => exact .refl
  | fwd _ hj hs ih => exact .fwd ih (by (first | lia | omega)) hs
  | bwd _ hj hs ih => exact .bwd ih (by (first | lia | omega)) hs
theorem labs_conn : ∀ (k u v : Nat), N.labs S k u = N.labs S k v → N.Conn S k u v
  | 0, u, v, h => by
    have e : u = v := h
    subst e
    exact .refl
  | k + 1, u, v, h => by
    unfold Net.labs at h
    split at h
    · rename_i hs
      rcases join_apart h with q | ⟨q1, q2⟩ | ⟨q1, q2⟩
      · exact (labs_conn k u v q).mono (by (first | lia | omega))
      · have c1 := (labs_conn k u _ q1).mono (Nat.le_succ k)
        have c2 := (labs_conn k _ v q2.symm).mono (Nat.le_succ k)
        exact Net.Conn.trans (.fwd c1 (by (first | lia | omega)) hs) c2
      · have c1 := (labs_conn k u _ q1).mono (Nat.le_succ k)
        have c2 := (labs_conn k _ v q2.symm).mono (Nat.le_succ k)
        exact Net.Conn.trans (.bwd c1 (by (first | lia | omega)) hs) c2
    · exact (labs_conn k u v h).mono (by (first | lia | omega))
def Net.lab (N : Net) (k : Nat) : Nat → Nat := N.labs (fun _ => true) k
def Net.inF (N : Net) (k : Nat) : Bool := !decide (N.lab k (N.a k) = N.lab k (N.b k))
theorem lab_succ (k : Nat) : N.lab (k + 1) = if N.inF k = true then join (N.lab k) (N.a k) (N.b k) else N.lab k := by
  show N.labs (fun _ => true) (k + 1) = _
  unfold Net.labs
  rw [if_pos rfl]
  unfold Net.inF
  by_cases h : N.lab k (N.a k) = N.lab k (N.b k)
  · rw [if_neg (by simp [h])]
    exact join_same h
  · rw [if_pos (by simp [h])]
    rfl
theorem forest_empty {m : Nat} (hf : ∀ k, m.testBit k = true → k < N.n ∧ N.inF k = true) (he : N.Even m) : m = 0 := by
  by_cases h0 : m = 0
  · exact h0
  exfalso
  have hK : m.testBit m.log2 = true := Nat.testBit_log2 h0
  obtain ⟨hKn, hKf⟩ := hf _ hK
  generalize hKe : m.log2 = K at hK hKn hKf
  have hlt : m < 2 ^ (K + 1) := by rw [← hKe]; exact Nat.lt_log2_self
  have hcl := bd_class (N := N) (m := m ^^^ 2 ^ K) (fun x => decide (N.lab K x = N.lab K (N.a K))) fun k hk hb => by
    have hkK : k < K := by
      rw [Nat.testBit_xor, Nat.testBit_two_pow] at hb
      by_cases e : K = k
      · subst e
        simp [hK] at hb
      · have hb' : m.testBit k = true := by simpa [e] using hb
        have : k < K + 1 := by
          by_cases q : k < K + 1
          · exact q
          · have z := Nat.testBit_lt_two_pow (Nat.lt_of_lt_of_le hlt (Nat.pow_le_pow_right (by decide) (show K + 1 ≤ k by (first | lia | omega))))
            rw [hb'] at z
            cases z
        (first | lia | omega)
    have e : N.lab K (N.a k) = N.lab K (N.b k) := labs_tie (S := fun _ => true) hkK rfl
    show decide (N.lab K (N.a k) = _) = decide (N.lab K (N.b k) = _)
    rw [e]
  have e : xsum (fun x => decide (N.lab K x = N.lab K (N.a K)) && N.bd (m ^^^ 2 ^ K) x) N.p = xsum (fun x => decide (N.lab K x = N.lab K (N.a K)) && N.inc K x) N.p :=
    xsum_congr fun x hx => by rw [bd_xor, he x hx, bd_pow hKn]; simp
  rw [e] at hcl
  have e2 : xsum (fun x => decide (N.lab K x = N.lab K (N.a K)) && N.inc K x) N.p = (decide (N.lab K (N.a K) = N.lab K (N.a K)) ^^ decide (N.lab K (N.b K) = N.lab K (N.a K))) := by
    rw [← xsum_point (fun x => decide (N.lab K x = N.lab K (N.a K))) (N.al K hKn), ← xsum_point (fun x => decide (N.lab K x = N.lab K (N.a K))) (N.bl K hKn), ← xsum_xor]
    refine xsum_congr fun x _ => ?_
    unfold Net.inc
    cases decide (N.lab K x = N.lab K (N.a K)) <;> cases decide (N.a K = x) <;> cases decide (N.b K = x) <;> rfl
  rw [e2] at hcl
  unfold Net.inF at hKf
  have hne : ¬ N.lab K (N.b K) = N.lab K (N.a K) := fun q => by rw [q] at hKf; simp at hKf
  simp [hne] at hcl
def Net.trail (N : Net) : Nat → Nat → Nat
  | 0 => fun _ => 0
  | k + 1 => if N.inF k = true then fun v => if N.lab k v = max (N.lab k (N.a k)) (N.lab k (N.b k)) then Net.trail N k v ^^^ (Net.trail N k (N.a k) ^^^ Net.trail N k (N.b k) ^^^ 2 ^ k) else Net.trail N k v
    else Net.trail N k
theorem trail_in : ∀ (k v j : Nat), (N.trail k v).testBit j = true → j < k ∧ N.inF j = true
  | 0, v, j, h => by simp [Net.trail] at h
  | k + 1, v, j, h => by
    have ih := trail_in k
    unfold Net.trail at h
    split at h
    · rename_i hf
      dsimp only at h
      split at h
      · rw [Nat.testBit_xor, Nat.testBit_xor, Nat.testBit_xor, Nat.testBit_two_pow] at h
        by_cases e : k = j
        · subst e
          exact ⟨by (first | lia | omega), hf⟩
        · have z : ¬ ((N.trail k v).testBit j = false ∧ (N.trail k (N.a k)).testBit j = false ∧ (N.trail k (N.b k)).testBit j = false) := by
            rintro ⟨z1, z2, z3⟩
            simp [z1, z2, z3, e] at h
          cases h1 : (N.trail k v).testBit j with
          | true => obtain ⟨q, r⟩ := ih v j h1; exact ⟨by (first | lia | omega), r⟩
          | false => cases h2 : (N.trail k (N.a k)).testBit j with
            | true => obtain ⟨q, r⟩ := ih _ j h2; exact ⟨by (first | lia | omega), r⟩
            | false => cases h3 : (N.trail k (N.b k)).testBit j with
              | true => obtain ⟨q, r⟩ := ih _ j h3; exact ⟨by (first | lia | omega), r⟩
              | false => exact absurd ⟨h1, h2, h3⟩ z
      · obtain ⟨q, r⟩ := ih v j h; exact ⟨by (first | lia | omega), r⟩
    · obtain ⟨q, r⟩ := ih v j h; exact ⟨by (first | lia | omega), r⟩
theorem bool_six (a b c d e f g h : Bool) (hlh : (d ^^ f) = (g ^^ h)) : ((a ^^ g) ^^ (((c ^^ d) ^^ (e ^^ f)) ^^ (c ^^ e))) = (a ^^ h) := by
  have e1 : (((c ^^ d) ^^ (e ^^ f)) ^^ (c ^^ e)) = (d ^^ f) := by cases c <;> cases d <;> cases e <;> cases f <;> rfl
  rw [e1, hlh]
  cases a <;> cases g <;> cases h <;> rfl
theorem trail_bd : ∀ (k : Nat), k ≤ N.n → ∀ v x, N.bd (N.trail k v) x = (decide (v = x) ^^ decide (N.lab k v = x))
  | 0, _, v, x => by
    show N.bd 0 x = (decide (v = x) ^^ decide (v = x))
    rw [bd_zero]
    simp
  | k + 1, hk, v, x => by
    have ih := trail_bd k (by (first | lia | omega))
    rw [lab_succ]
    unfold Net.trail
    by_cases hf : N.inF k = true
    · rw [if_pos hf, if_pos hf]
      by_cases hm : N.lab k v = max (N.lab k (N.a k)) (N.lab k (N.b k))
      · have e : join (N.lab k) (N.a k) (N.b k) v = min (N.lab k (N.a k)) (N.lab k (N.b k)) := by unfold join; rw [if_pos hm]
        show N.bd (if N.lab k v = _ then _ else _) x = _
        rw [if_pos hm, e, bd_xor, bd_xor, bd_xor, bd_pow (by (first | lia | omega)), ih, ih, ih]
        unfold Net.inc
        refine bool_six _ false _ _ _ _ _ _ ?_
        rw [hm]
        rcases Nat.le_total (N.lab k (N.a k)) (N.lab k (N.b k)) with q | q
        · rw [Nat.max_eq_right q, Nat.min_eq_left q, Bool.xor_comm]
        · rw [Nat.max_eq_left q, Nat.min_eq_right q]
      · have e : join (N.lab k) (N.a k) (N.b k) v = N.lab k v := by unfold join; rw [if_neg hm]
        show N.bd (if N.lab k v = _ then _ else _) x = _
        rw [if_neg hm, e, ih]
    · rw [if_neg hf, if_neg hf]
      exact ih v x
def Net.ring (N : Net) (c : Nat) : Nat := N.trail N.n (N.a c) ^^^ N.trail N.n (N.b c) ^^^ 2 ^ c
theorem lab_ends {c : Nat} (h : c < N.n) : N.lab N.n (N.a c) = N.lab N.n (N.b c) := labs_tie (S := fun _ => true) h rfl
theorem ring_even {c : Nat} (h : c < N.n) : N.Even (N.ring c) := fun x _ => by
  unfold Net.ring
  rw [bd_xor, bd_xor, bd_pow h, trail_bd _ (Nat.le_refl _), trail_bd _ (Nat.le_refl _), lab_ends h]
  unfold Net.inc
  cases decide (N.a c = x) <;> cases decide (N.b c = x) <;> cases decide (N.lab N.n (N.b c) = x) <;> rfl
theorem ring_bit {c j : Nat} (h : (N.ring c).testBit j = true) : j = c ∨ (j < N.n ∧ N.inF j = true) := by
  unfold Net.ring at h
  rw [Nat.testBit_xor, Nat.testBit_xor, Nat.testBit_two_pow] at h
  by_cases e : c = j
  · exact .inl e.symm
  · right
    cases h1 : (N.trail N.n (N.a c)).testBit j with
    | true => exact trail_in _ _ _ h1
    | false => cases h2 : (N.trail N.n (N.b c)).testBit j with
      | true => exact trail_in _ _ _ h2
      | false => simp [h1, h2, e] at h
theorem ring_own {c : Nat} (hf : N.inF c = false) : (N.ring c).testBit c = true := by
  unfold Net.ring
  rw [Nat.testBit_xor, Nat.testBit_xor, Nat.testBit_two_pow]
  cases h1 : (N.trail N.n (N.a c)).testBit c with
  | true => obtain ⟨_, q⟩ := trail_in _ _ _ h1; rw [hf] at q; cases q
  | false => cases h2 : (N.trail N.n (N.b c)).testBit c with
    | true => obtain ⟨_, q⟩ := trail_in _ _ _ h2; rw [hf] at q; cases q
    | false => simp
theorem forest_on {j : Nat} (h : j < N.n) (hf : N.inF j = true) : (N.trail N.n (N.a j)).testBit j = true ∨ (N.trail N.n (N.b j)).testBit j = true := by
  have z : N.ring j = 0 := forest_empty (fun k hk => by
    rcases ring_bit hk with rfl | q
    · exact ⟨h, hf⟩
    · exact q) (ring_even h)
  have b : (N.ring j).testBit j = false := by rw [z]; simp
  unfold Net.ring at b
  rw [Nat.testBit_xor, Nat.testBit_xor, Nat.testBit_two_pow] at b
  cases h1 : (N.trail N.n (N.a j)).testBit j with
  | true => exact .inl rfl
  | false => cases h2 : (N.trail N.n (N.b j)).testBit j with
    | true => exact .inr rfl
    | false => simp [h1, h2] at b
end RM

namespace RM
def cnt (f : Nat → Bool) : Nat → Nat
  | 0 => 0
  | n + 1 => cnt f n + (if f n = true then 1 else 0)
theorem cnt_congr {f g : Nat → Bool} : ∀ {n : Nat}, (∀ k, k < n → f k = g k) → cnt f n = cnt g n
  | 0, _ => rfl
  | n + 1, h => by
    unfold cnt
    rw [cnt_congr fun k hk => h k (by (first | lia | omega)), h n (by (first | lia | omega))]
theorem cnt_drop {f g : Nat → Bool} {h : Nat} (hg : g h = true) : ∀ {p : Nat}, h < p → (∀ x, x < p → f x = (g x && !decide (x = h))) → cnt g p = cnt f p + 1
  | 0, hh, _ => absurd hh (Nat.not_lt_zero _)
  | p + 1, hh, e => by
    unfold cnt
    by_cases q : h = p
    · subst q
      have z : cnt g h = cnt f h := cnt_congr fun k hk => by rw [e k (by (first | lia | omega))]; simp [show k ≠ h by (first | lia | omega)]
      rw [z, if_pos hg, e h (by (first | lia | omega))]
      simp
    · rw [cnt_drop hg (by (first | lia | omega)) fun x hx => e x (by (first | lia | omega)), e p (by (first | lia | omega))]
      simp [Ne.symm q]
      (first | lia | omega)
theorem cnt_range (f : Nat → Bool) : ∀ n, ((List.range n).filter f).length = cnt f n
  | 0 => rfl
  | n + 1 => by
    rw [List.range_succ, List.filter_append, List.length_append, cnt_range f n]
    show _ = cnt f n + (if f n = true then 1 else 0)
    cases h : f n with
    | true => rw [List.filter_cons, if_pos h]; rfl
    | false => rw [List.filter_cons, if_neg (by rw [h]; simp)]; rfl
theorem cnt_not (f : Nat → Bool) : ∀ n, cnt f n + cnt (fun k => !f k) n = n
  | 0 => rfl
  | n + 1 => by
    have ih := cnt_not f n
    unfold cnt
    cases h : f n <;> simp <;> (first | lia | omega)
theorem cnt_all {f : Nat → Bool} : ∀ {n : Nat}, (∀ k, k < n → f k = true) → cnt f n = n
  | 0, _ => rfl
  | n + 1, h => by
    unfold cnt
    rw [cnt_all fun k hk => h k (by (first | lia | omega)), if_pos (h n (by (first | lia | omega)))]
variable {N : Net} {S : Nat → Bool}
def Net.root (N : Net) (S : Nat → Bool) (k x : Nat) : Bool := decide (N.labs S k x = x)
theorem labs_succ (k : Nat) : N.labs S (k + 1) = if S k = true then join (N.labs S k) (N.a k) (N.b k) else N.labs S k := by
  conv => lhs; unfold Net.labs
theorem labs_lt {k x : Nat} (h : x < N.p) : N.labs S k x < N.p := Nat.lt_of_le_of_lt (labs_le k x) h
theorem root_join {L : Nat → Nat} {u v : Nat} (hr : ∀ x, L (L x) = L x) (hne : L u ≠ L v) (x : Nat) : decide (join L u v x = x) = (decide (L x = x) && !decide (x = max (L u) (L v))) := by
  have hhi : L (max (L u) (L v)) = max (L u) (L v) := by
    rcases Nat.le_total (L u) (L v) with q | q
    · rw [Nat.max_eq_right q]; exact hr v
    · rw [Nat.max_eq_left q]; exact hr u
  have hlo : L (min (L u) (L v)) = min (L u) (L v) := by
    rcases Nat.le_total (L u) (L v) with q | q
    · rw [Nat.min_eq_left q]; exact hr u
    · rw [Nat.min_eq_right q]; exact hr v
  unfold join
  by_cases h : L x = max (L u) (L v)
  · rw [if_pos h]
    have h1 : ¬ min (L u) (L v) = x := fun z => by
      rw [← z, hlo] at h
      (first | lia | omega)
    by_cases h2 : x = max (L u) (L v)
    · simp [h1, h2]
      (first | lia | omega)
    · have h3 : ¬ L x = x := fun z => h2 (z.symm.trans h)
      simp [h1, h3]
  · rw [if_neg h]
    have h2 : ¬ x = max (L u) (L v) := fun z => h (by rw [z]; exact hhi)
    simp [h2]
theorem roots_step {k : Nat} (hk : k < N.n) : cnt (N.root S k) N.p = cnt (N.root S (k + 1)) N.p + (if (S k && !decide (N.labs S k (N.a k) = N.labs S k (N.b k))) = true then 1 else 0) := by
  cases hs : S k with
  | false =>
    have e : N.root S (k + 1) = N.root S k := by unfold Net.root; rw [labs_succ, if_neg (by rw [hs]; simp)]
    rw [e]; simp
  | true =>
    by_cases h : N.labs S k (N.a k) = N.labs S k (N.b k)
    · have e : N.root S (k + 1) = N.root S k := by unfold Net.root; rw [labs_succ, if_pos hs, join_same h]
      rw [e]; simp [h]
    · have hhi : N.labs S k (max (N.labs S k (N.a k)) (N.labs S k (N.b k))) = max (N.labs S k (N.a k)) (N.labs S k (N.b k)) := by
        rcases Nat.le_total (N.labs S k (N.a k)) (N.labs S k (N.b k)) with q | q
        · rw [Nat.max_eq_right q]; exact labs_root _ _
        · rw [Nat.max_eq_left q]; exact labs_root _ _
      have h1 := labs_lt (S := S) (k := k) (N.al k hk)
      have h2 := labs_lt (S := S) (k := k) (N.bl k hk)
      rw [cnt_drop (f := N.root S (k + 1)) (g := N.root S k) (h := max (N.labs S k (N.a k)) (N.labs S k (N.b k))) (decide_eq_true hhi) (by (first | lia | omega)) fun x _ => by
        unfold Net.root
        rw [labs_succ, if_pos hs]
        exact root_join (labs_root k) h x]
      simp [h]
theorem roots_forest : ∀ k, k ≤ N.n → cnt (N.root (fun _ => true) k) N.p + cnt N.inF k = N.p
  | 0, _ => by
    show cnt (N.root (fun _ => true) 0) N.p + 0 = N.p
    rw [cnt_all (f := N.root (fun _ => true) 0) fun x _ => decide_eq_true rfl]
    rfl
  | k + 1, hk => by
    have ih := roots_forest k (by (first | lia | omega))
    have st := roots_step (N := N) (S := fun _ => true) (k := k) (by (first | lia | omega))
    have e : ((fun _ => true : Nat → Bool) k && !decide (N.labs (fun _ => true) k (N.a k) = N.labs (fun _ => true) k (N.b k))) = N.inF k   := by rw [Bool.true_and]; rfl
    rw [e] at st
    show cnt (N.root (fun _ => true) (k + 1)) N.p + (cnt N.inF k + if N.inF k = true then 1 else 0) = N.p
    (first | lia | omega)
theorem rank_chords : (N.n : Int) - N.p + cnt (N.root (fun _ => true) N.n) N.p = (cnt (fun k => !N.inF k) N.n : Nat) := by
  have h := roots_forest (N := N) N.n (Nat.le_refl _)
  have h2 := cnt_not N.inF N.n
  (first | lia | omega)
def Net.chords (N : Net) : List Nat := (List.range N.n).filter fun k => !N.inF k
theorem chords_mem {c : Nat} : c ∈ N.chords ↔ c < N.n ∧ N.inF c = false := by
  unfold Net.chords
  rw [List.mem_filter, List.mem_range]
  simp
theorem chords_len : N.chords.length = cnt (fun k => !N.inF k) N.n := cnt_range _ _
theorem lt_of_bits {m n : Nat} (h : ∀ k, m.testBit k = true → k < n) : m < 2 ^ n := Nat.lt_pow_two_of_testBit m fun k hk => by
  cases q : m.testBit k with
  | false => rfl
  | true => exact absurd (h k q) (by (first | lia | omega))
theorem bits_lt {m n k : Nat} (h : m < 2 ^ n) (hb : m.testBit k = true) : k < n := by
  by_cases q : k < n
  · exact q
  · have z := Nat.testBit_lt_two_pow (Nat.lt_of_lt_of_le h (Nat.pow_le_pow_right (by decide) (show n ≤ k by (first | lia | omega))))
    rw [hb] at z
    cases z
theorem even_one {m q : Nat} (hm : m < 2 ^ N.n) (hq : q < 2 ^ N.n) (em : N.Even m) (eq : N.Even q) (h : ∀ c, c < N.n → N.inF c = false → m.testBit c = q.testBit c) : m = q := by
  have z : m ^^^ q = 0 := forest_empty (N := N) (fun k hk => by
    have hk' := bits_lt (Nat.xor_lt_two_pow hm hq) hk
    refine ⟨hk', ?_⟩
    cases hf : N.inF k with
    | true => rfl
    | false =>
      rw [Nat.testBit_xor, h k hk' hf] at hk
      simp at hk) (Even.xor em eq)
  have e : m = m ^^^ q ^^^ q := by rw [Nat.xor_assoc, Nat.xor_self, Nat.xor_zero]
  rw [e, z, Nat.zero_xor]
theorem ring_lt {c : Nat} (h : c < N.n) : N.ring c < 2 ^ N.n := lt_of_bits fun k hk => by
  rcases ring_bit hk with rfl | ⟨q, _⟩
  · exact h
  · exact q
theorem ring_chord {c d : Nat} (hc : N.inF c = false) (hd : N.inF d = false) : (N.ring c).testBit d = decide (c = d) := by
  by_cases e : c = d
  · subst e; rw [ring_own hc]; simp
  · cases q : (N.ring c).testBit d with
    | false => simp [e]
    | true => rcases ring_bit q with rfl | ⟨_, r⟩
              · exact absurd rfl e
              · rw [hd] at r; cases r
def Net.sumR (N : Net) (number : Nat) : List Nat → Nat → Nat
  | [], _ => 0
  | c :: r, i => (if number.testBit i = true then N.ring c else 0) ^^^ Net.sumR N number r (i + 1)
theorem sumR_even {number : Nat} : ∀ {l : List Nat} {i : Nat}, (∀ c ∈ l, c < N.n) → N.Even (N.sumR number l i) ∧ N.sumR number l i < 2 ^ N.n
  | [], _, _ => ⟨Even.zero, Nat.two_pow_pos _⟩
  | c :: r, i, h => by
    obtain ⟨h1, h2⟩ := sumR_even (number := number) (l := r) (i := i + 1) fun d hd => h d (List.mem_cons_of_mem _ hd)
    have hc := h c List.mem_cons_self
    unfold Net.sumR
    split
    · exact ⟨Even.xor (ring_even hc) h1, Nat.xor_lt_two_pow (ring_lt hc) h2⟩
    · rw [Nat.zero_xor]; exact ⟨h1, h2⟩
theorem sumR_out {number d : Nat} (hd : N.inF d = false) : ∀ {l : List Nat} {i : Nat}, (∀ c ∈ l, N.inF c = false) → d ∉ l → (N.sumR number l i).testBit d = false
  | [], _, _, _ => by simp [Net.sumR]
  | c :: r, i, h, hn => by
    have ih := sumR_out (number := number) (d := d) hd (l := r) (i := i + 1) (fun e he => h e (List.mem_cons_of_mem _ he)) fun q => hn (List.mem_cons_of_mem _ q)
    unfold Net.sumR
    rw [Nat.testBit_xor, ih]
    split
    · rw [ring_chord (h c List.mem_cons_self) hd]
      have : c ≠ d := fun q => hn (by rw [q]; exact List.mem_cons_self)
      simp [this]
    · simp
theorem sumR_bit {number : Nat} : ∀ {l : List Nat} {i j : Nat} {d : Nat}, l.Nodup → (∀ c ∈ l, N.inF c = false) → l[j]? = some d → (N.sumR number l i).testBit d = number.testBit (i + j)
  | [], _, _, _, _, _, h => by simp at h
  | c :: r, i, 0, d, hn, hf, h => by
    have e : c = d := by simpa using h
    subst e
    have hc := hf c List.mem_cons_self
    unfold Net.sumR
    rw [Nat.testBit_xor, sumR_out hc (fun e he => hf e (List.mem_cons_of_mem _ he)) (List.nodup_cons.mp hn).1]
    cases q : number.testBit (i + 0) with
    | true => rw [if_pos (by simpa using q), ring_own hc]; rfl
    | false => rw [if_neg (by simpa using q)]; simp
  | c :: r, i, j + 1, d, hn, hf, h => by
    have h' : r[j]? = some d := by simpa using h
    have hd : d ∈ r := List.mem_of_getElem? h'
    have ih := sumR_bit (number := number) (l := r) (i := i + 1) (j := j) (d := d) (List.nodup_cons.mp hn).2 (fun e he => hf e (List.mem_cons_of_mem _ he)) h'
    unfold Net.sumR
    rw [Nat.testBit_xor, ih]
    have hne : c ≠ d := fun q => (List.nodup_cons.mp hn).1 (q ▸ hd)
    have z : (if number.testBit i = true then N.ring c else 0).testBit d = false := by
      split
      · rw [ring_chord (hf c List.mem_cons_self) (hf d (List.mem_cons_of_mem _ hd))]; simp [hne]
      · simp
    rw [z, show i + 1 + j = i + (j + 1) by (first | lia | omega)]
    simp
end RM

namespace Ring
open PySem L2
def maskOf (f : Nat → Bool) : Nat → Nat
  | 0 => 0
  | n + 1 => (if f n = true then 2 ^ n else 0) + maskOf f n
theorem mask_lt (f : Nat → Bool) : ∀ n, maskOf f n < 2 ^ n
  | 0 => by show 0 < 1; decide
  | n + 1 => by
    have ih := mask_lt f n
    have e : 2 ^ (n + 1) = 2 ^ n + 2 ^ n := by rw [Nat.pow_succ]; (first | lia | omega)
    unfold maskOf
    split <;> (first | lia | omega)
theorem mask_bit (f : Nat → Bool) (j : Nat) : ∀ n, (maskOf f n).testBit j = (decide (j < n) && f j)
  | 0 => by simp [maskOf]
  | n + 1 => by
    have ih := mask_bit f j n
    have hl := mask_lt f n
    unfold maskOf
    by_cases h : f n = true
    · rw [if_pos h]
      rcases Nat.lt_trichotomy j n with q | q | q
      · rw [Nat.testBit_two_pow_add_gt q, ih]
        simp [q, show j < n + 1 by (first | lia | omega)]
      · subst q
        rw [Nat.testBit_two_pow_add_eq, ih]
        simp [h]
      · have z : 2 ^ n + maskOf f n < 2 ^ j := Nat.lt_of_lt_of_le (show 2 ^ n + maskOf f n < 2 ^ (n + 1) by rw [Nat.pow_succ]; (first | lia | omega)) (Nat.pow_le_pow_right (by decide) q)
        rw [Nat.testBit_lt_two_pow z]
        simp [show ¬ j < n + 1 by (first | lia | omega)]
    · rw [if_neg h, Nat.zero_add, ih]
      by_cases q : j = n
      · subst q
        have h' : f j = false := by simpa using h
        simp [h']
      · by_cases r : j < n
        · simp [r, show j < n + 1 by (first | lia | omega)]
        · simp [r, show ¬ j < n + 1 by (first | lia | omega)]
theorem mask_all (n : Nat) : maskOf (fun _ => true) n = 2 ^ n - 1 := by
  induction n with
  | zero => rfl
  | succ n ih =>
    unfold maskOf
    rw [ih, if_pos rfl, Nat.pow_succ]
    have := Nat.two_pow_pos n
    (first | lia | omega)
theorem all_bit (n j : Nat) : (2 ^ n - 1).testBit j = decide (j < n) := by
  rw [← mask_all, mask_bit]
  simp
theorem or_sum {a b x y : Nat} (q : x / 2 + y / 2 = a / 2 + b / 2) (h : x % 2 + y % 2 = a % 2 + b % 2) : x + y = a + b := by (first | lia | omega)
theorem or_one {u v : Nat} (hu : u = 0 ∨ u = 1) (hv : v = 0 ∨ v = 1) : (u ||| v) + (u &&& v) = u + v := by
  rcases hu with rfl | rfl <;> rcases hv with rfl | rfl <;> rfl
theorem or_and : ∀ a b : Nat, (a ||| b) + (a &&& b) = a + b := by
  intro a
  induction a using Nat.strongRecOn with
  | ind a ih =>
    intro b
    by_cases h : a = 0
    · subst h
      simp
    · have q := ih (a / 2) (by (first | lia | omega)) (b / 2)
      rw [← Nat.or_div_two, ← Nat.and_div_two] at q
      refine or_sum q ?_
      have e1 : (a ||| b) % 2 = a % 2 ||| b % 2 := Nat.or_mod_two_pow (n := 1)
      have e2 : (a &&& b) % 2 = a % 2 &&& b % 2 := Nat.and_mod_two_pow (n := 1)
      rw [e1, e2]
      exact or_one (Nat.mod_two_eq_zero_or_one a) (Nat.mod_two_eq_zero_or_one b)
theorem or_int (a b : Nat) : Builtin.bitOr (a : Int) (b : Int) = ((a ||| b : Nat) : Int) := by
  have q := or_and a b
  rw [PyProof.Rows.bitOr_and, PyProof.Rows.bitAnd_pp (by (first | lia | omega)) (by (first | lia | omega))]
  have h : (a : Int) + b - ((a &&& b : Nat) : Int) = ((a ||| b : Nat) : Int) := by (first | lia | omega)
  simpa using h
theorem shl_int (k : Nat) : (1 : Int) * 2 ^ (k : Int).toNat = ((2 ^ k : Nat) : Int) := by
  rw [Int.toNat_natCast, Int.one_mul]
  simp
theorem tieAt_mem {ts : List Tie} {k : Nat} (h : k < ts.length) : tieAt ts k ∈ ts := by
  unfold tieAt
  rw [List.getD_eq_getElem?_getD]
  simp [h]
theorem tieAt_get {ts : List Tie} {k : Nat} (h : k < ts.length) : ts[k]? = some (tieAt ts k) := by
  unfold tieAt
  rw [List.getD_eq_getElem?_getD]
  simp [h]
def netOf (p : Nat) (ts : List Tie) (g : GoodWeb p ts) : RM.Net where
  p := p
  n := ts.length
  a := fun k => (tieAt ts k).1.toNat
  b := fun k => (tieAt ts k).2.1.toNat
  al := fun k hk => by
    have z := g.ties _ (tieAt_mem hk)
    have z0 := z.a0
    have z1 := z.a1
    (first | lia | omega)
  bl := fun k hk => by
    have z := g.ties _ (tieAt_mem hk)
    have z0 := z.b0
    have z1 := z.b1
    (first | lia | omega)
  ne := fun k hk e => by
    have z := g.ties _ (tieAt_mem hk)
    have z0 := z.a0
    have z1 := z.b0
    exact z.ne (by (first | lia | omega))
theorem net_a {p : Nat} {ts : List Tie} {g : GoodWeb p ts} {k : Nat} (h : k < ts.length) : (tieAt ts k).1 = (((netOf p ts g).a k : Nat) : Int) := by
  have z := (g.ties _ (tieAt_mem h)).a0
  show _ = (((tieAt ts k).1.toNat : Nat) : Int)
  (first | lia | omega)
theorem net_b {p : Nat} {ts : List Tie} {g : GoodWeb p ts} {k : Nat} (h : k < ts.length) : (tieAt ts k).2.1 = (((netOf p ts g).b k : Nat) : Int) := by
  have z := (g.ties _ (tieAt_mem h)).b0
  show _ = (((tieAt ts k).2.1.toNat : Nat) : Int)
  (first | lia | omega)
theorem deg_par {p : Nat} {ts : List Tie} {g : GoodWeb p ts} {k : Nat} (h : k < ts.length) (x : Nat) : deg ts k x % 2 = if (netOf p ts g).inc k x = true then 1 else 0 := by
  unfold deg RM.Net.inc
  rw [tieAt_get h]
  dsimp only
  rw [net_a (g := g) h, net_b (g := g) h]
  generalize (netOf p ts g).a k = u
  generalize (netOf p ts g).b k = v
  by_cases h1 : u = x
  · by_cases h2 : v = x
    · simp [h1, h2]
    · have h2' : ¬ ((v : Int) = (x : Int)) := by (first | lia | omega)
      simp [h1, h2, h2']
  · have h1' : ¬ ((u : Int) = (x : Int)) := by (first | lia | omega)
    by_cases h2 : v = x
    · simp [h1, h2, h1']
    · have h2' : ¬ ((v : Int) = (x : Int)) := by (first | lia | omega)
      simp [h1, h2, h1', h2']
theorem bd_par {p : Nat} {ts : List Tie} {g : GoodWeb p ts} (m x : Nat) : ∀ n, n ≤ ts.length → ((List.range n).map fun k => if m.testBit k = true then deg ts k x else 0).sum % 2 = if RM.xsum (fun k => m.testBit k && (netOf p ts g).inc k x) n = true then 1 else 0
  | 0, _ => rfl
  | n + 1, h => by
    have ih := bd_par (g := g) m x n (by (first | lia | omega))
    have hd := deg_par (g := g) (k := n) (by (first | lia | omega)) x
    rw [List.range_succ, List.map_append, List.sum_append]
    show (_ + ((if m.testBit n = true then deg ts n x else 0) + 0)) % 2 = if (RM.xsum _ n ^^ (m.testBit n && (netOf p ts g).inc n x)) = true then 1 else 0
    generalize ((List.range n).map fun k => if m.testBit k = true then deg ts k x else 0).sum = u at ih ⊢
    generalize RM.xsum (fun k => m.testBit k && (netOf p ts g).inc k x) n = v at ih ⊢
    generalize (netOf p ts g).inc n x = i at hd ⊢
    generalize deg ts n x = d at hd ⊢
    cases m.testBit n <;> cases v <;> cases i <;> simp at ih hd ⊢ <;> (first | lia | omega)
theorem odd_iff {p : Nat} {ts : List Tie} (g : GoodWeb p ts) {m : Nat} (hm : m < 2 ^ ts.length) {x : Nat} : decide ((endsOf p ts (m : Int)).getD x 0 % 2 = 1) = (netOf p ts g).bd m x := by
  rw [ends_get g.web.inw, ties_nat hm, sum_filter]
  have h := bd_par (g := g) m x ts.length (Nat.le_refl _)
  rw [h]
  show _ = RM.xsum _ ts.length
  generalize RM.xsum (fun k => m.testBit k && (netOf p ts g).inc k x) ts.length = v
  cases v <;> simp
theorem even_net {p : Nat} {ts : List Tie} (g : GoodWeb p ts) {m : Nat} (hm : m < 2 ^ ts.length) : oddOf p ts (m : Int) = [] ↔ (netOf p ts g).Even m := by
  unfold oddOf
  rw [List.filter_eq_nil_iff]
  constructor
  · intro h x hx
    have q := h x (List.mem_range.mpr hx)
    rw [odd_iff g hm] at q
    simpa using q
  · intro h x hx
    rw [odd_iff g hm, h x (List.mem_range.mp hx)]
    simp
def mapV (f : Nat → Nat) (n : Nat) : List V := (List.range n).map fun x => V.int ((f x : Nat) : Int)
theorem mapV_len (f : Nat → Nat) (n : Nat) : (mapV f n).length = n := by unfold mapV; rw [List.length_map, List.length_range]
theorem mapV_get {f : Nat → Nat} {n x : Nat} (h : x < n) : (mapV f n)[x]? = some (.int ((f x : Nat) : Int)) := by
  unfold mapV
  rw [List.getElem?_map, List.getElem?_range h]
  rfl
theorem mapV_of {f : Nat → Nat} {n x : Nat} {v : V} (h : (mapV f n)[x]? = some v) : x < n ∧ v = .int ((f x : Nat) : Int) := by
  have hx : x < n := by
    have := (List.getElem?_eq_some_iff.mp h).1
    rwa [mapV_len] at this
  rw [mapV_get hx] at h
  exact ⟨hx, (Option.some.inj h).symm⟩
theorem mapV_succ (f : Nat → Nat) (n : Nat) : mapV f (n + 1) = mapV f n ++ [.int ((f n : Nat) : Int)] := by
  unfold mapV
  rw [List.range_succ, List.map_append]
  rfl
theorem rep_mapV (p : Nat) : (List.replicate p [V.int 0]).flatten = mapV (fun _ => 0) p := by
  induction p with
  | zero => rfl
  | succ p ih =>
    rw [mapV_succ, ← ih, List.replicate_succ', List.flatten_append]
    rfl
def Mapd (f : Nat → Nat) (H : Hp) (D : Addr) (i : Nat) (acc : List V) (H2 : Hp) : Prop := Same H H2 ∧ H2 D = some (.lst acc) ∧ acc = mapV f i
section
variable {f : Nat → Nat} {H H2 H3 : Hp} {D : Addr} {i : Nat} {acc : List V} {v : V}
theorem Mapd.start (hD : H D = none) : Mapd f H D 0 [] (upd H D (.lst [])) := ⟨Same.new hD, upd_same, rfl⟩
theorem Mapd.len (p : Mapd f H D i acc H2) : H2 D = some (.lst acc) ∧ acc.length ≤ i := ⟨p.2.1, by rw [p.2.2, mapV_len]; exact Nat.le_refl _⟩
theorem Mapd.next (p : Mapd f H D i acc H2) (hD : H D = none) (s : Same H2 H3) (hv : v = .int ((f i : Nat) : Int)) : H3 D = some (.lst acc) ∧ Mapd f H D (i + 1) (acc ++ [v]) (upd H3 D (.lst (acc ++ [v]))) := by
  refine ⟨s _ _ p.2.1, (p.1.trans s).put hD, upd_same, ?_⟩
  rw [mapV_succ, ← p.2.2, hv]
end
theorem labs_fold {N : RM.Net} {m : Nat} : ∀ n, ((List.range n).filter fun k => m.testBit k).foldl (fun L k => RM.join L (N.a k) (N.b k)) (fun x => x) = N.labs (fun k => m.testBit k) n
  | 0 => rfl
  | n + 1 => by
    rw [filter_range_succ, List.foldl_append, labs_fold n, RM.labs_succ]
    split <;> rfl
end Ring

namespace RM
theorem labs_congr {N : Net} {S S' : Nat → Bool} : ∀ {n : Nat}, (∀ k, k < n → S k = S' k) → N.labs S n = N.labs S' n
  | 0, _ => rfl
  | n + 1, h => by rw [labs_succ, labs_succ, labs_congr fun k hk => h k (by (first | lia | omega)), h n (by (first | lia | omega))]
end RM
namespace Ring
open PySem L2
def pieceOf (L : Nat → Nat) (p s : Nat) : List Nat := (List.range p).filter fun x => decide (L x = s)
def rootsOf (L : Nat → Nat) (p : Nat) : List Nat := (List.range p).filter fun x => decide (L x = x)
def LstFr (D : Addr) (H0 H : Hp) (y : V) (l : List Nat) : Prop := ∃ b, y = .ref b ∧ b ≠ D ∧ H0 b = none ∧ H b = some (.lst (natsV l))
def Gath (L : Nat → Nat) (p : Nat) (H : Hp) (D : Addr) (i : Nat) (H2 : Hp) : Prop := Same H H2 ∧ ∃ ys, H2 D = some (.lst ys) ∧ Paired (LstFr D H H2) ys ((rootsOf L i).map (pieceOf L p)) ∧ ys.length ≤ i
section
variable {L : Nat → Nat} {p i : Nat} {H H2 H3 : Hp} {D b : Addr}
theorem Gath.start (hD : H D = none) : Gath L p H D 0 (upd H D (.lst [])) := ⟨Same.new hD, [], upd_same, .nil, Nat.le_refl _⟩
theorem roots_succ : rootsOf L (i + 1) = rootsOf L i ++ (if L i = i then [i] else []) := by
  unfold rootsOf
  rw [filter_range_succ]
  by_cases h : L i = i <;> simp [h]
theorem Gath.skip (h : Gath L p H D i H2) (hn : ¬ L i = i) : Gath L p H D (i + 1) H2 := by
  obtain ⟨s, ys, hd, pr, hl⟩ := h
  refine ⟨s, ys, hd, ?_, by (first | lia | omega)⟩
  rw [roots_succ, if_neg hn, List.append_nil]
  exact pr
theorem Gath.push (h : Gath L p H D i H2) (hD : H D = none) (hr : L i = i) (s : Same H2 H3) (hb : H2 b = none) (hb3 : H3 b = some (.lst (natsV (pieceOf L p i)))) :
    ∃ ys, H3 D = some (.lst ys) ∧ ys.length ≤ i ∧ Gath L p H D (i + 1) (upd H3 D (.lst (ys ++ [.ref b]))) := by
  obtain ⟨s2, ys, hd, pr, hl⟩ := h
  have hd3 := s _ _ hd
  have hbD : b ≠ D := fun e => by rw [e, hd] at hb; cases hb
  refine ⟨ys, hd3, hl, (s2.trans s).put hD, ys ++ [.ref b], upd_same, ?_, by rw [List.length_append, List.length_singleton]; (first | lia | omega)⟩
  rw [roots_succ, if_pos hr, List.map_append]
  refine Paired.snoc (Paired.imp' (fun _ _ ⟨e, he, hn, h0, q⟩ => ⟨e, he, hn, h0, by rw [upd_ne hn]; exact s _ _ q⟩) pr) ?_
  exact ⟨b, rfl, hbD, s2.free hb, by rw [upd_ne hbD]; exact hb3⟩
end
def foldJ (p : Nat) (ts : List Tie) (g : GoodWeb p ts) (ks : List Nat) : Nat → Nat := ks.foldl (fun L k => RM.join L ((netOf p ts g).a k) ((netOf p ts g).b k)) fun x => x
theorem foldJ_snoc {p : Nat} {ts : List Tie} {g : GoodWeb p ts} {ks : List Nat} {k : Nat} : foldJ p ts g (ks ++ [k]) = RM.join (foldJ p ts g ks) ((netOf p ts g).a k) ((netOf p ts g).b k) := by
  unfold foldJ
  rw [List.foldl_append]
  rfl
def labOf (p : Nat) (ts : List Tie) (g : GoodWeb p ts) (m : Nat) : Nat → Nat := (netOf p ts g).labs (fun k => m.testBit k) ts.length
theorem foldJ_ties {p : Nat} {ts : List Tie} {g : GoodWeb p ts} {m : Nat} (hm : m < 2 ^ ts.length) : foldJ p ts g (tiesOf (m : Int)) = labOf p ts g m := by
  unfold foldJ labOf
  rw [ties_nat hm]
  exact labs_fold _
theorem lab_all {p : Nat} {ts : List Tie} {g : GoodWeb p ts} : labOf p ts g (2 ^ ts.length - 1) = (netOf p ts g).lab ts.length := by
  unfold labOf RM.Net.lab
  exact RM.labs_congr fun k hk => by rw [all_bit]; simp [hk]
theorem rank_is {p : Nat} {ts : List Tie} {g : GoodWeb p ts} : (ts.length : Int) - (p : Int) + (rootsOf (labOf p ts g (2 ^ ts.length - 1)) p).length = ((netOf p ts g).chords.length : Int) := by
  have h := RM.rank_chords (N := netOf p ts g)
  rw [RM.chords_len]
  unfold rootsOf
  rw [RM.cnt_range, lab_all]
  exact h
theorem min_int (a b : Nat) : (if (b : Int) < (a : Int) then (b : Int) else (a : Int)) = ((min a b : Nat) : Int) := by
  split <;> (first | lia | omega)
theorem max_int (a b : Nat) : (if (b : Int) > (a : Int) then (b : Int) else (a : Int)) = ((max a b : Nat) : Int) := by
  split <;> (first | lia | omega)
theorem dec_nat (a b : Nat) : decide (V.int (a : Int) = V.int (b : Int)) = decide (a = b) := by
  rw [Bool.eq_iff_iff]
  simp
  (first | lia | omega)
end Ring

namespace RM
variable {N : Net} {S : Nat → Bool}
variable {pt r j : Nat} {l : List Nat}
theorem nodup_le {l : List Nat} : ∀ {p : Nat}, l.Nodup → (∀ x ∈ l, x < p) → l.length ≤ p := by
  intro p hn hl
  have hp : l.Perm ((List.range p).filter fun x => decide (x ∈ l)) := by
    refine (List.perm_ext_iff_of_nodup hn (List.Pairwise.filter _ List.nodup_range)).mpr fun a => ?_
    rw [List.mem_filter, List.mem_range]
    simp
    exact fun h => hl a h
  rw [hp.length_eq]
  have := List.length_filter_le (fun x => decide (x ∈ l)) (List.range p)
  rwa [List.length_range] at this
end RM
namespace Ring
open PySem L2
theorem natsV_ints (l : List Nat) : natsV l = (l.map fun x => ((x : Nat) : Int)).map V.int := by unfold natsV; rw [List.map_map]; rfl
theorem inV_nats (u : Nat) (l : List Nat) : inV (.int (u : Int)) (natsV l) = decide (u ∈ l) := by
  unfold inV natsV
  rw [List.any_map, Bool.eq_iff_iff, List.any_eq_true]
  simp only [Function.comp, decide_eq_true_eq]
  constructor
  · rintro ⟨x, hx, h⟩
    have e : ((x : Nat) : Int) = (u : Int) := eq_of_beq h
    have : x = u := by (first | lia | omega)
    exact this ▸ hx
  · intro h
    exact ⟨u, h, by simp [eqV]⟩
theorem flat_nats (l : List Nat) : (natsV l).all flatV = true := by
  unfold natsV
  rw [List.all_map, List.all_eq_true]
  intro x _
  rfl
end Ring

namespace RM
variable {N : Net}
end RM
namespace Ring
open PySem L2
def orT (T : Nat → Nat) : Nat → Nat
  | 0 => 0
  | n + 1 => orT T n ||| T n
theorem orT_bit (T : Nat → Nat) (j : Nat) : ∀ n, (orT T n).testBit j = true ↔ ∃ x, x < n ∧ (T x).testBit j = true
  | 0 => by simp [orT]
  | n + 1 => by
    unfold orT
    rw [Nat.testBit_or, Bool.or_eq_true, orT_bit T j n]
    constructor
    · rintro (⟨x, hx, h⟩ | h)
      · exact ⟨x, by (first | lia | omega), h⟩
      · exact ⟨n, by (first | lia | omega), h⟩
    · rintro ⟨x, hx, h⟩
      by_cases e : x = n
      · subst e; exact .inr h
      · exact .inl ⟨x, by (first | lia | omega), h⟩
section
variable {p : Nat} {ts : List Tie} {g : GoodWeb p ts}
def forestN (p : Nat) (ts : List Tie) (g : GoodWeb p ts) : Nat := maskOf (netOf p ts g).inF ts.length
theorem orT_forest : orT ((netOf p ts g).trail ts.length) p = forestN p ts g := by
  refine Nat.eq_of_testBit_eq fun j => ?_
  unfold forestN
  rw [mask_bit, Bool.eq_iff_iff, orT_bit]
  simp only [Bool.and_eq_true, decide_eq_true_eq]
  constructor
  · rintro ⟨x, _, h⟩
    exact RM.trail_in _ _ _ h
  · rintro ⟨h1, h2⟩
    rcases RM.forest_on (N := netOf p ts g) h1 h2 with h | h
    · exact ⟨_, (netOf p ts g).al j h1, h⟩
    · exact ⟨_, (netOf p ts g).bl j h1, h⟩
theorem chordM_bit (j : Nat) : ((2 ^ ts.length - 1) ^^^ forestN p ts g).testBit j = (decide (j < ts.length) && !(netOf p ts g).inF j) := by
  unfold forestN
  rw [Nat.testBit_xor, all_bit, mask_bit]
  cases decide (j < ts.length) <;> cases (netOf p ts g).inF j <;> rfl
theorem chordM_lt : (2 ^ ts.length - 1) ^^^ forestN p ts g < 2 ^ ts.length := Nat.xor_lt_two_pow (by have := Nat.two_pow_pos ts.length; (first | lia | omega)) (mask_lt _ _)
theorem chordM_ties : tiesOf (((2 ^ ts.length - 1) ^^^ forestN p ts g : Nat) : Int) = (netOf p ts g).chords := by
  rw [ties_nat chordM_lt]
  unfold RM.Net.chords
  refine List.filter_congr fun k hk => ?_
  have := List.mem_range.mp hk
  rw [chordM_bit]
  simp [this]
end
theorem pow_sub (n : Nat) : ((2 : Int) ^ n - 1) = ((2 ^ n - 1 : Nat) : Int) := by
  have h : ((2 : Int) ^ n) = ((2 ^ n : Nat) : Int) := by simp
  have := Nat.two_pow_pos n
  (first | lia | omega)
theorem inV_no {S : Int} {l : List Nat} (h : ∀ c ∈ l, S ≠ ((c : Nat) : Int)) : inV (.int S) (natsV l) = false := by
  unfold inV natsV
  rw [List.any_map, List.any_eq_false]
  intro x hx z
  exact h x hx (eq_of_beq z).symm
theorem filter_single {c : Nat} : ∀ {n : Nat}, c < n → (List.range n).filter (fun k => decide (k = c)) = [c]
  | 0, h => absurd h (Nat.not_lt_zero _)
  | n + 1, h => by
    rw [filter_range_succ]
    by_cases e : c = n
    · subst e
      have z : (List.range c).filter (fun k => decide (k = c)) = [] := by
        rw [List.filter_eq_nil_iff]
        intro x hx
        have := List.mem_range.mp hx
        simp
        (first | lia | omega)
      rw [z]
      simp
    · rw [filter_single (by (first | lia | omega))]
      simp [Ne.symm e]
theorem nats_at {l : List Nat} {i : Nat} {k : Nat} (h : l[i]? = some k) : (natsV l)[i]? = some (.int (k : Int)) := by
  unfold natsV
  rw [List.getElem?_map, h]
  rfl
end Ring

namespace Ring
open PySem L2
def Filt (f : Nat → Bool) (l : List Nat) (H : Hp) (D : Addr) (i : Nat) (acc : List V) (H2 : Hp) : Prop := Same H H2 ∧ H2 D = some (.lst acc) ∧ acc = natsV ((l.take i).filter f)
section
variable {f : Nat → Bool} {l : List Nat} {H H2 H3 : Hp} {D : Addr} {i k : Nat} {acc : List V}
theorem Filt.start (hD : H D = none) : Filt f l H D 0 [] (upd H D (.lst [])) := ⟨Same.new hD, upd_same, rfl⟩
theorem Filt.len (p : Filt f l H D i acc H2) : H2 D = some (.lst acc) ∧ acc.length ≤ i := by
  refine ⟨p.2.1, ?_⟩
  rw [p.2.2, natsV_len]
  exact Nat.le_trans (List.length_filter_le _ _) (by rw [List.length_take]; (first | lia | omega))
theorem Filt.yes (p : Filt f l H D i acc H2) (hD : H D = none) (s : Same H2 H3) (hk : l[i]? = some k) (hf : f k = true) : H3 D = some (.lst acc) ∧ Filt f l H D (i + 1) (acc ++ [.int (k : Int)]) (upd H3 D (.lst (acc ++ [.int (k : Int)]))) := by
  refine ⟨s _ _ p.2.1, (p.1.trans s).put hD, upd_same, ?_⟩
  rw [List.take_add_one, hk, List.filter_append]
  show _ = natsV (_ ++ [k].filter f)
  rw [List.filter_cons, if_pos hf, List.filter_nil, natsV_snoc, ← p.2.2]
theorem Filt.no (p : Filt f l H D i acc H2) (s : Same H2 H3) (hk : l[i]? = some k) (hf : f k = false) : Filt f l H D (i + 1) acc H3 := by
  refine ⟨p.1.trans s, s _ _ p.2.1, ?_⟩
  rw [List.take_add_one, hk, List.filter_append]
  show _ = natsV (_ ++ [k].filter f)
  rw [List.filter_cons, if_neg (by rw [hf]; simp), List.filter_nil, List.append_nil]
  exact p.2.2
theorem Filt.fin (p : Filt f l H D l.length acc H2) : H2 D = some (.lst (natsV (l.filter f))) := by rw [p.2.1, p.2.2, List.take_length]
end
section
variable {f : Nat → Int} {l : List Nat} {H H2 H3 : Hp} {D : Addr} {i k : Nat} {acc : List V} {v : V}
end
end Ring

namespace RM
theorem xsum_cnt (f : Nat → Bool) : ∀ n, xsum f n = decide (cnt f n % 2 = 1)
  | 0 => rfl
  | n + 1 => by
    unfold xsum cnt
    rw [xsum_cnt f n]
    by_cases h : f n = true
    · rw [h, if_pos rfl]
      by_cases q : cnt f n % 2 = 1
      · have q' : ¬ (cnt f n + 1) % 2 = 1 := by (first | lia | omega)
        simp [q, q']
      · have q' : (cnt f n + 1) % 2 = 1 := by (first | lia | omega)
        simp [q, q']
    · have h' : f n = false := by simpa using h
      rw [h', if_neg (by decide)]
      simp
end RM
namespace Ring
open PySem L2
section
variable {p : Nat} {ts : List Tie} (g : GoodWeb p ts)
include g
end
section
variable {p : Nat} {ts : List Tie}
end
end Ring

namespace L2
open PySem PySem.Spec PyProof.Rows
end L2

namespace Ring
open PySem L2
end Ring

namespace RM
def sm (f : Nat → Nat) : Nat → Nat
  | 0 => 0
  | n + 1 => sm f n + f n
theorem sm_congr {f g : Nat → Nat} : ∀ {n : Nat}, (∀ k, k < n → f k = g k) → sm f n = sm g n
  | 0, _ => rfl
  | n + 1, h => by
    show sm f n + f n = sm g n + g n
    rw [sm_congr fun k hk => h k (by (first | lia | omega)), h n (by (first | lia | omega))]
theorem sm_add (f g : Nat → Nat) : ∀ n, sm (fun k => f k + g k) n = sm f n + sm g n
  | 0 => rfl
  | n + 1 => by
    show sm (fun k => f k + g k) n + (f n + g n) = sm f n + f n + (sm g n + g n)
    rw [sm_add f g n]
    (first | lia | omega)
theorem sm_zero : ∀ n, sm (fun _ => 0) n = 0
  | 0 => rfl
  | n + 1 => by
    show sm (fun _ => 0) n + 0 = 0
    rw [sm_zero n]
theorem sm_comm (f : Nat → Nat → Nat) (n : Nat) : ∀ p, sm (fun x => sm (fun k => f x k) n) p = sm (fun k => sm (fun x => f x k) p) n
  | 0 => (sm_zero n).symm
  | p + 1 => by
    show sm (fun x => sm (fun k => f x k) n) p + sm (fun k => f p k) n = sm (fun k => sm (fun x => f x k) p + f p k) n
    rw [sm_comm f n p, sm_add]
theorem cnt_sm (f : Nat → Bool) : ∀ n, cnt f n = sm (fun k => if f k = true then 1 else 0) n
  | 0 => rfl
  | n + 1 => by
    show cnt f n + (if f n = true then 1 else 0) = sm (fun k => if f k = true then 1 else 0) n + (if f n = true then 1 else 0)
    rw [cnt_sm f n]
theorem sm_le {f g : Nat → Nat} : ∀ {n : Nat}, (∀ k, k < n → f k ≤ g k) → sm f n ≤ sm g n
  | 0, _ => Nat.le_refl _
  | n + 1, h => by
    have h1 := sm_le (f := f) (g := g) (n := n) fun k hk => h k (by (first | lia | omega))
    have h2 := h n (by (first | lia | omega))
    show sm f n + f n ≤ sm g n + g n
    (first | lia | omega)
theorem sm_eq {f g : Nat → Nat} {n : Nat} (h : ∀ k, k < n → f k ≤ g k) (e : sm f n = sm g n) : ∀ k, k < n → f k = g k := by
  induction n with
  | zero => exact fun k hk => absurd hk (Nat.not_lt_zero _)
  | succ n ih =>
    intro k hk
    have h1 := sm_le (f := f) (g := g) (n := n) fun k hk => h k (by (first | lia | omega))
    have h2 := h n (by (first | lia | omega))
    have e : sm f n + f n = sm g n + g n := e
    by_cases hkn : k = n
    · subst hkn
      (first | lia | omega)
    · exact ih (fun j hj => h j (by (first | lia | omega))) (by (first | lia | omega)) k (by (first | lia | omega))
theorem cnt_le {f g : Nat → Bool} {n : Nat} (h : ∀ k, k < n → f k = true → g k = true) : cnt f n ≤ cnt g n := by
  rw [cnt_sm, cnt_sm]
  refine sm_le fun k hk => ?_
  by_cases hf : f k = true
  · rw [if_pos hf, if_pos (h k hk hf)]
    exact Nat.le_refl _
  · rw [if_neg hf]
    exact Nat.zero_le _
theorem cnt_same {f g : Nat → Bool} {n : Nat} (h : ∀ k, k < n → f k = true → g k = true) (e : cnt f n = cnt g n) : ∀ k, k < n → g k = true → f k = true := fun k hk hg => by
  rw [cnt_sm, cnt_sm] at e
  have q := sm_eq (n := n) (fun k hk => by
    by_cases hf : f k = true
    · rw [if_pos hf, if_pos (h k hk hf)]
      exact Nat.le_refl _
    · rw [if_neg hf]
      exact Nat.zero_le _) e k hk
  rw [if_pos hg] at q
  by_cases hf : f k = true
  · exact hf
  · rw [if_neg hf] at q
    (first | lia | omega)
theorem cnt_some {f : Nat → Bool} : ∀ {n : Nat}, 0 < cnt f n → ∃ k, k < n ∧ f k = true
  | 0, h => absurd h (Nat.lt_irrefl _)
  | n + 1, h => by
    by_cases hf : f n = true
    · exact ⟨n, by (first | lia | omega), hf⟩
    · have h : 0 < cnt f n + (if f n = true then 1 else 0) := h
      rw [if_neg hf] at h
      obtain ⟨k, hk, q⟩ := cnt_some (f := f) (n := n) (by (first | lia | omega))
      exact ⟨k, by (first | lia | omega), q⟩
theorem cnt_pos {f : Nat → Bool} {k : Nat} (hf : f k = true) : ∀ {n : Nat}, k < n → 0 < cnt f n
  | 0, h => absurd h (Nat.not_lt_zero _)
  | n + 1, h => by
    show 0 < cnt f n + (if f n = true then 1 else 0)
    by_cases hk : k = n
    · subst hk
      rw [if_pos hf]
      (first | lia | omega)
    · have := cnt_pos hf (n := n) (by (first | lia | omega))
      (first | lia | omega)
theorem cnt_two {f : Nat → Bool} : ∀ {n : Nat}, 2 ≤ cnt f n → ∃ c d, c < d ∧ d < n ∧ f c = true ∧ f d = true
  | 0, h => absurd h (by show ¬ 2 ≤ 0; (first | lia | omega))
  | n + 1, h => by
    have h : 2 ≤ cnt f n + (if f n = true then 1 else 0) := h
    by_cases hf : f n = true
    · rw [if_pos hf] at h
      obtain ⟨k, hk, q⟩ := cnt_some (f := f) (n := n) (by (first | lia | omega))
      exact ⟨k, n, hk, by (first | lia | omega), q, hf⟩
    · rw [if_neg hf] at h
      obtain ⟨c, d, h1, h2, h3, h4⟩ := cnt_two (f := f) (n := n) (by (first | lia | omega))
      exact ⟨c, d, h1, by (first | lia | omega), h3, h4⟩
theorem two_cnt {f : Nat → Bool} {u v : Nat} (hu : f u = true) (hv : f v = true) (ne : u ≠ v) : ∀ {n : Nat}, u < n → v < n → 2 ≤ cnt f n
  | 0, h, _ => absurd h (Nat.not_lt_zero _)
  | n + 1, h1, h2 => by
    show 2 ≤ cnt f n + (if f n = true then 1 else 0)
    by_cases e1 : u = n
    · subst e1
      have := cnt_pos hv (n := u) (by (first | lia | omega))
      rw [if_pos hu]
      (first | lia | omega)
    · by_cases e2 : v = n
      · subst e2
        have := cnt_pos hu (n := v) (by (first | lia | omega))
        rw [if_pos hv]
        (first | lia | omega)
      · have := two_cnt hu hv ne (n := n) (by (first | lia | omega)) (by (first | lia | omega))
        (first | lia | omega)
theorem cnt_eq (a : Nat) : ∀ n, cnt (fun x => decide (a = x)) n = if a < n then 1 else 0
  | 0 => rfl
  | n + 1 => by
    show cnt (fun x => decide (a = x)) n + (if decide (a = n) = true then 1 else 0) = _
    rw [cnt_eq a n]
    by_cases e : a = n
    · subst e
      simp
    · have d : (if decide (a = n) = true then 1 else 0) = 0 := if_neg (by simpa using e)
      rw [d]
      by_cases h : a < n
      · rw [if_pos h, if_pos (by (first | lia | omega))]
      · rw [if_neg h, if_neg (by (first | lia | omega))]
theorem cnt_or {f g : Nat → Bool} : ∀ {n : Nat}, (∀ x, x < n → ¬ (f x = true ∧ g x = true)) → cnt (fun x => f x ^^ g x) n = cnt f n + cnt g n
  | 0, _ => rfl
  | n + 1, h => by
    show cnt (fun x => f x ^^ g x) n + (if (f n ^^ g n) = true then 1 else 0) = cnt f n + (if f n = true then 1 else 0) + (cnt g n + (if g n = true then 1 else 0))
    rw [cnt_or fun x hx => h x (by (first | lia | omega))]
    have q := h n (by (first | lia | omega))
    cases hf : f n <;> cases hg : g n
    · simp
    · simp
      (first | lia | omega)
    · simp
      (first | lia | omega)
    · exact absurd ⟨hf, hg⟩ q
variable {N : Net}
def Net.dg (N : Net) (m x : Nat) : Nat := cnt (fun k => m.testBit k && N.inc k x) N.n
theorem bd_dg (m x : Nat) : N.bd m x = decide (N.dg m x % 2 = 1) := xsum_cnt _ _
theorem even_dg {m x : Nat} (e : N.Even m) (hx : x < N.p) : N.dg m x % 2 = 0 := by
  have h := e x hx
  rw [bd_dg] at h
  have := of_decide_eq_false h
  (first | lia | omega)
theorem inc_iff {k x : Nat} (hk : k < N.n) : N.inc k x = true ↔ (N.a k = x ∨ N.b k = x) := by
  have ne := N.ne k hk
  unfold Net.inc
  by_cases h1 : N.a k = x
  · have h2 : ¬ N.b k = x := fun z => ne (h1.trans z.symm)
    simp [h1, h2]
  · by_cases h2 : N.b k = x
    · simp [h1, h2]
    · simp [h1, h2]
theorem inc_two {k : Nat} (hk : k < N.n) : cnt (N.inc k) N.p = 2 := by
  have ne := N.ne k hk
  have e : cnt (N.inc k) N.p = cnt (fun x => decide (N.a k = x) ^^ decide (N.b k = x)) N.p := rfl
  rw [e, cnt_or fun x _ ⟨h1, h2⟩ => ne ((of_decide_eq_true h1).trans (of_decide_eq_true h2).symm), cnt_eq, cnt_eq, if_pos (N.al k hk), if_pos (N.bl k hk)]
theorem dg_sum (m : Nat) : sm (fun x => N.dg m x) N.p = 2 * cnt (fun k => m.testBit k) N.n := by
  have e : sm (fun x => N.dg m x) N.p = sm (fun x => sm (fun k => if (m.testBit k && N.inc k x) = true then 1 else 0) N.n) N.p := sm_congr fun x _ => cnt_sm _ _
  rw [e, sm_comm, cnt_sm]
  have d : ∀ n, 2 * sm (fun k => if m.testBit k = true then 1 else 0) n = sm (fun k => (if m.testBit k = true then 1 else 0) + (if m.testBit k = true then 1 else 0)) n := fun n => by
    rw [sm_add]
    (first | lia | omega)
  rw [d]
  refine sm_congr fun k hk => ?_
  by_cases h : m.testBit k = true
  · rw [if_pos h]
    have q := inc_two hk
    rw [cnt_sm] at q
    show _ = 2
    exact (sm_congr fun x _ => by rw [h, Bool.true_and]).trans q
  · rw [if_neg h]
    have h' : m.testBit k = false := by simpa using h
    have : sm (fun x => if (m.testBit k && N.inc k x) = true then 1 else 0) N.p = sm (fun _ => 0) N.p := sm_congr fun x _ => by rw [h']; rfl
    rw [this, sm_zero]
theorem dg_le {q m : Nat} (h : ∀ k, q.testBit k = true → m.testBit k = true) (x : Nat) : N.dg q x ≤ N.dg m x := cnt_le fun k _ hq => by
  rw [Bool.and_eq_true] at hq ⊢
  exact ⟨h k hq.1, hq.2⟩
theorem dg_at {m k x : Nat} (hk : k < N.n) (hb : m.testBit k = true) (hx : N.a k = x ∨ N.b k = x) : 0 < N.dg m x := cnt_pos (k := k) (by rw [hb, Bool.true_and]; exact (inc_iff hk).mpr hx) hk
theorem dg_some {m x : Nat} (h : 0 < N.dg m x) : ∃ k, k < N.n ∧ m.testBit k = true ∧ (N.a k = x ∨ N.b k = x) := by
  obtain ⟨k, hk, q⟩ := cnt_some h
  rw [Bool.and_eq_true] at q
  exact ⟨k, hk, q.1, (inc_iff hk).mp q.2⟩
theorem alone {m x y : Nat} (h : N.dg m x = 0) (c : N.Conn (fun k => m.testBit k) N.n x y) : y = x := by
  induction c with
  | refl => rfl
  | fwd _ hj hs ih => exact absurd (dg_at hj hs (.inl ih)) (by (first | lia | omega))
  | bwd _ hj hs ih => exact absurd (dg_at hj hs (.inr ih)) (by (first | lia | omega))
theorem conn_path {S : Nat → Bool} {k u v : Nat} (hk : k ≤ N.n) (c : N.Conn S k u v) : ∃ t, (∀ j, t.testBit j = true → j < k ∧ S j = true) ∧ ∀ x, N.bd t x = (decide (u = x) ^^ decide (v = x)) := by
  induction c with
  | refl => exact ⟨0, fun j hj => by simp at hj, fun x => by rw [bd_zero]; simp⟩
  | fwd _ hj hs ih =>
    rename_i j _
    obtain ⟨t, h1, h2⟩ := ih
    refine ⟨t ^^^ 2 ^ j, fun i hi => ?_, fun x => ?_⟩
    · rw [Nat.testBit_xor, Nat.testBit_two_pow] at hi
      by_cases e : j = i
      · subst e
        exact ⟨hj, hs⟩
      · rw [decide_eq_false e, Bool.xor_false] at hi
        exact h1 i hi
    · rw [bd_xor, h2, bd_pow (by (first | lia | omega))]
      unfold Net.inc
      cases decide (u = x) <;> cases decide (N.a j = x) <;> cases decide (N.b j = x) <;> rfl
  | bwd _ hj hs ih =>
    rename_i j _
    obtain ⟨t, h1, h2⟩ := ih
    refine ⟨t ^^^ 2 ^ j, fun i hi => ?_, fun x => ?_⟩
    · rw [Nat.testBit_xor, Nat.testBit_two_pow] at hi
      by_cases e : j = i
      · subst e
        exact ⟨hj, hs⟩
      · rw [decide_eq_false e, Bool.xor_false] at hi
        exact h1 i hi
    · rw [bd_xor, h2, bd_pow (by (first | lia | omega))]
      unfold Net.inc
      cases decide (u = x) <;> cases decide (N.a j = x) <;> cases decide (N.b j = x) <;> rfl
def Net.Ring (N : Net) (m : Nat) : Prop := m ≠ 0 ∧ N.Even m ∧ ∀ q, (∀ k, q.testBit k = true → m.testBit k = true) → N.Even q → q = 0 ∨ q = m
section
variable {m s : Nat}
theorem ring_of (hm : m < 2 ^ N.n) (ev : N.Even m) (C : Nat → Bool) (hC : ∀ x, x < N.p → C x = decide (N.labs (fun k => m.testBit k) N.n x = s)) (h2 : 2 ≤ cnt C N.p)
    (tie : ∀ k, k < N.n → m.testBit k = true → C (N.a k) = true) (hl : cnt C N.p = cnt (fun k => m.testBit k) N.n) : N.Ring m := by
  have inC : ∀ k, k < N.n → m.testBit k = true → C (N.a k) = true ∧ C (N.b k) = true := fun k hk hb => by
    have h := tie k hk hb
    refine ⟨h, ?_⟩
    rw [hC _ (N.al k hk)] at h
    rw [hC _ (N.bl k hk)]
    rw [labs_tie (S := fun k => m.testBit k) hk hb] at h
    exact h
  have pos : ∀ x, x < N.p → C x = true → 0 < N.dg m x := fun x hx hc => by
    cases hz : N.dg m x with
    | succ d => (first | lia | omega)
    | zero =>
      exfalso
      obtain ⟨y, hy, hcy, hne⟩ : ∃ y, y < N.p ∧ C y = true ∧ y ≠ x := by
        obtain ⟨c, d, h1, h3, h4, h5⟩ := cnt_two h2
        by_cases e : c = x
        · exact ⟨d, h3, h5, by (first | lia | omega)⟩
        · exact ⟨c, by (first | lia | omega), h4, e⟩
      rw [hC x hx] at hc
      rw [hC y hy] at hcy
      exact hne (alone hz (labs_conn _ _ _ ((of_decide_eq_true hc).trans (of_decide_eq_true hcy).symm)))
  have two : ∀ x, x < N.p → (if C x = true then 2 else 0) = N.dg m x := by
    refine sm_eq (fun x hx => ?_) ?_
    · by_cases hc : C x = true
      · rw [if_pos hc]
        have h1 := pos x hx hc
        have h3 := even_dg ev hx
        (first | lia | omega)
      · rw [if_neg hc]
        exact Nat.zero_le _
    · rw [dg_sum, ← hl, cnt_sm]
      have d : ∀ n, 2 * sm (fun k => if C k = true then 1 else 0) n = sm (fun k => (if C k = true then 1 else 0) + (if C k = true then 1 else 0)) n := fun n => by
        rw [sm_add]
        (first | lia | omega)
      rw [d]
      exact sm_congr fun x _ => by split <;> rfl
  obtain ⟨c0, hc0, hcc⟩ := cnt_some (f := C) (n := N.p) (by (first | lia | omega))
  refine ⟨fun z => ?_, ev, fun q hq eq => ?_⟩
  · have h := pos c0 hc0 hcc
    obtain ⟨k, _, hb, _⟩ := dg_some h
    rw [z] at hb
    simp at hb
  · by_cases hq0 : q = 0
    · exact .inl hq0
    · right
      have full : ∀ x, x < N.p → 0 < N.dg q x → ∀ k, k < N.n → m.testBit k = true → (N.a k = x ∨ N.b k = x) → q.testBit k = true := fun x hx h k hk hb hx2 => by
        have h1 := dg_le (N := N) hq x
        have h3 := even_dg eq hx
        have h4 := two x hx
        have h5 : N.dg q x = N.dg m x := by
          by_cases hc : C x = true
          · rw [if_pos hc] at h4
            (first | lia | omega)
          · rw [if_neg hc] at h4
            (first | lia | omega)
        have h6 := cnt_same (f := fun k => q.testBit k && N.inc k x) (g := fun k => m.testBit k && N.inc k x) (n := N.n) (fun k _ z => by
          rw [Bool.and_eq_true] at z ⊢
          exact ⟨hq k z.1, z.2⟩) h5 k hk (by rw [hb, Bool.true_and]; exact (inc_iff hk).mpr hx2)
        rw [Bool.and_eq_true] at h6
        exact h6.1
      obtain ⟨k0, hb0⟩ : ∃ k, q.testBit k = true := Nat.exists_testBit_of_ne_zero hq0
      have hk0 : k0 < N.n := bits_lt hm (hq k0 hb0)
      have spread : ∀ {y}, N.Conn (fun k => m.testBit k) N.n (N.a k0) y → 0 < N.dg q y := fun {y} c => by
        induction c with
        | refl => exact dg_at hk0 hb0 (.inl rfl)
        | fwd _ hj hs ih => exact dg_at hj (full _ (N.al _ hj) ih _ hj hs (.inl rfl)) (.inr rfl)
        | bwd _ hj hs ih => exact dg_at hj (full _ (N.bl _ hj) ih _ hj hs (.inr rfl)) (.inl rfl)
      refine Nat.eq_of_testBit_eq fun k => ?_
      cases hb : m.testBit k with
      | false =>
        cases hz : q.testBit k with
        | false => rfl
        | true =>
          have := hq k hz
          rw [hb] at this
          cases this
      | true =>
        have hk := bits_lt hm hb
        have e1 := (inC k hk hb).1
        have e2 := (inC k0 hk0 (hq k0 hb0)).1
        rw [hC _ (N.al k hk)] at e1
        rw [hC _ (N.al k0 hk0)] at e2
        exact full _ (N.al k hk) (spread (labs_conn _ _ _ ((of_decide_eq_true e2).trans (of_decide_eq_true e1).symm))) k hk hb (.inl rfl)
theorem ring_piece (hm : m < 2 ^ N.n) (r : N.Ring m) : ∃ k0, k0 < N.n ∧ m.testBit k0 = true ∧ ∀ k, k < N.n → m.testBit k = true → N.labs (fun k => m.testBit k) N.n (N.a k) = N.labs (fun k => m.testBit k) N.n (N.a k0) := by
  obtain ⟨h0, ev, mn⟩ := r
  obtain ⟨k0, hb0⟩ := Nat.exists_testBit_of_ne_zero h0
  have hk0 := bits_lt hm hb0
  refine ⟨k0, hk0, hb0, ?_⟩
  generalize hs : N.labs (fun k => m.testBit k) N.n (N.a k0) = s
  have bit : ∀ k, (Ring.maskOf (fun k => m.testBit k && decide (N.labs (fun k => m.testBit k) N.n (N.a k) = s)) N.n).testBit k = (decide (k < N.n) && (m.testBit k && decide (N.labs (fun k => m.testBit k) N.n (N.a k) = s))) := fun k => Ring.mask_bit _ k _
  have sub : ∀ k, (Ring.maskOf (fun k => m.testBit k && decide (N.labs (fun k => m.testBit k) N.n (N.a k) = s)) N.n).testBit k = true → m.testBit k = true := fun k hk => by
    rw [bit, Bool.and_eq_true, Bool.and_eq_true] at hk
    exact hk.2.1
  have evn : N.Even (Ring.maskOf (fun k => m.testBit k && decide (N.labs (fun k => m.testBit k) N.n (N.a k) = s)) N.n) := fun x hx => by
    have e : N.bd (Ring.maskOf (fun k => m.testBit k && decide (N.labs (fun k => m.testBit k) N.n (N.a k) = s)) N.n) x = (decide (N.labs (fun k => m.testBit k) N.n x = s) && N.bd m x) := by
      unfold Net.bd
      rw [← xsum_and]
      refine xsum_congr fun k hk => ?_
      rw [bit, decide_eq_true hk, Bool.true_and]
      cases hb : m.testBit k with
      | false => simp
      | true =>
        cases hi : N.inc k x with
        | false => simp
        | true =>
          have el : N.labs (fun k => m.testBit k) N.n (N.a k) = N.labs (fun k => m.testBit k) N.n x := by
            rcases (inc_iff hk).mp hi with z | z
            · rw [z]
            · rw [← z]
              exact labs_tie (S := fun k => m.testBit k) hk hb
          rw [el]
          simp
    rw [e, ev x hx, Bool.and_false]
  rcases mn _ sub evn with q | q
  · have := bit k0
    rw [q, hb0, hs, decide_eq_true hk0] at this
    simp at this
  · intro k hk hb
    have h := bit k
    rw [q, hb, decide_eq_true hk] at h
    exact of_decide_eq_true (by simpa using h.symm)
theorem roots_set (S : Nat → Bool) : ∀ k, k ≤ N.n → cnt (N.root S k) N.p + cnt (fun j => S j && !decide (N.labs S j (N.a j) = N.labs S j (N.b j))) k = N.p
  | 0, _ => by
    show cnt (N.root S 0) N.p + 0 = N.p
    rw [cnt_all (f := N.root S 0) fun x _ => decide_eq_true rfl]
    rfl
  | k + 1, hk => by
    have ih := roots_set S k (by (first | lia | omega))
    have st := roots_step (N := N) (S := S) (k := k) (by (first | lia | omega))
    show cnt (N.root S (k + 1)) N.p + (cnt (fun j => S j && !decide (N.labs S j (N.a j) = N.labs S j (N.b j))) k + if (S k && !decide (N.labs S k (N.a k) = N.labs S k (N.b k))) = true then 1 else 0) = N.p
    (first | lia | omega)
theorem ring_len (hm : m < 2 ^ N.n) (r : N.Ring m) (C : Nat → Bool) (hC : ∀ x, x < N.p → C x = decide (N.labs (fun k => m.testBit k) N.n x = s))
    (tie : ∀ k, k < N.n → m.testBit k = true → C (N.a k) = true) : 2 ≤ cnt C N.p ∧ cnt C N.p = cnt (fun k => m.testBit k) N.n ∧ ∀ x, x < N.p → C x = false → N.labs (fun k => m.testBit k) N.n x = x ∧ ∀ y, N.labs (fun k => m.testBit k) N.n y = x → y = x := by
  obtain ⟨h0, ev, mn⟩ := r
  obtain ⟨k0, hb0⟩ := Nat.exists_testBit_of_ne_zero h0
  have hk0 := bits_lt hm hb0
  have inC : ∀ k, k < N.n → m.testBit k = true → C (N.a k) = true ∧ C (N.b k) = true := fun k hk hb => by
    have h := tie k hk hb
    refine ⟨h, ?_⟩
    rw [hC _ (N.al k hk)] at h
    rw [hC _ (N.bl k hk), ← labs_tie (S := fun k => m.testBit k) hk hb]
    exact h
  have h2 : 2 ≤ cnt C N.p := two_cnt (inC k0 hk0 hb0).1 (inC k0 hk0 hb0).2 (N.ne k0 hk0) (N.al k0 hk0) (N.bl k0 hk0)
  have none : ∀ x, x < N.p → C x = false → N.dg m x = 0 := fun x hx hc => by
    cases hz : N.dg m x with
    | zero => rfl
    | succ d =>
      exfalso
      obtain ⟨k, hk, hb, hx2⟩ := dg_some (N := N) (m := m) (x := x) (by (first | lia | omega))
      rcases hx2 with e | e
      · have := (inC k hk hb).1
        rw [e, hc] at this
        cases this
      · have := (inC k hk hb).2
        rw [e, hc] at this
        cases this
  have solo : ∀ x, x < N.p → C x = false → N.labs (fun k => m.testBit k) N.n x = x ∧ ∀ y, N.labs (fun k => m.testBit k) N.n y = x → y = x := fun x hx hc => by
    have hz := none x hx hc
    have r1 : N.labs (fun k => m.testBit k) N.n x = x := alone hz (labs_conn _ _ _ (labs_root _ _).symm)
    exact ⟨r1, fun y hy => alone hz (labs_conn _ _ _ (r1.trans hy.symm))⟩
  refine ⟨h2, ?_, solo⟩
  -- no fewer ties than points
  have pos : ∀ x, x < N.p → C x = true → 0 < N.dg m x := fun x hx hc => by
    cases hz : N.dg m x with
    | succ d => (first | lia | omega)
    | zero =>
      exfalso
      obtain ⟨y, hy, hcy, hne⟩ : ∃ y, y < N.p ∧ C y = true ∧ y ≠ x := by
        obtain ⟨c, d, h1, h3, h4, h5⟩ := cnt_two h2
        by_cases e : c = x
        · exact ⟨d, h3, h5, by (first | lia | omega)⟩
        · exact ⟨c, by (first | lia | omega), h4, e⟩
      rw [hC x hx] at hc
      rw [hC y hy] at hcy
      exact hne (alone hz (labs_conn _ _ _ ((of_decide_eq_true hc).trans (of_decide_eq_true hcy).symm)))
  have ge : cnt C N.p ≤ cnt (fun k => m.testBit k) N.n := by
    have h : sm (fun x => if C x = true then 2 else 0) N.p ≤ sm (fun x => N.dg m x) N.p := sm_le fun x hx => by
      by_cases hc : C x = true
      · rw [if_pos hc]
        have h1 := pos x hx hc
        have h3 := even_dg ev hx
        (first | lia | omega)
      · rw [if_neg hc]
        exact Nat.zero_le _
    rw [dg_sum] at h
    have d : sm (fun x => if C x = true then 2 else 0) N.p = 2 * cnt C N.p := by
      rw [cnt_sm]
      have d : ∀ n, 2 * sm (fun k => if C k = true then 1 else 0) n = sm (fun k => (if C k = true then 1 else 0) + (if C k = true then 1 else 0)) n := fun n => by
        rw [sm_add]
        (first | lia | omega)
      rw [d]
      exact sm_congr fun x _ => by split <;> rfl
    (first | lia | omega)
  -- no more: two chords would be two rings
  refine Nat.le_antisymm ge (Nat.le_of_not_lt fun more => ?_)
  have hroots := roots_set (N := N) (fun k => m.testBit k) N.n (Nat.le_refl _)
  have hr : cnt (N.root (fun k => m.testBit k) N.n) N.p + cnt C N.p = N.p + 1 := by
    -- the roots: all out of C, and one in it
    have hc0 := (inC k0 hk0 hb0).1
    rw [hC _ (N.al k0 hk0)] at hc0
    have hs := of_decide_eq_true hc0
    have hsp : s < N.p := by rw [← hs]; exact labs_lt (N.al k0 hk0)
    have hss : N.labs (fun k => m.testBit k) N.n s = s := by rw [← hs]; exact labs_root _ _
    have e : cnt (N.root (fun k => m.testBit k) N.n) N.p = cnt (fun x => !C x ^^ decide (s = x)) N.p := cnt_congr fun x hx => by
      unfold Net.root
      cases hc : C x with
      | false =>
        have ne : ¬ s = x := fun z => by
          have := hC x hx
          rw [hc, ← z, hss] at this
          simp at this
        rw [decide_eq_true (solo x hx hc).1, decide_eq_false ne]
        rfl
      | true =>
        have h := hC x hx
        rw [hc] at h
        have h := of_decide_eq_true h.symm
        rw [h]
        simp
    rw [e, cnt_or fun x hx ⟨z1, z2⟩ => by
      have z2 := of_decide_eq_true z2
      have := hC x hx
      rw [← z2, hss] at this
      rw [← z2, this] at z1
      simp at z1, cnt_eq, if_pos hsp]
    have := cnt_not C N.p
    (first | lia | omega)
  have split : cnt (fun k => m.testBit k) N.n = cnt (fun j => m.testBit j && !decide (N.labs (fun k => m.testBit k) j (N.a j) = N.labs (fun k => m.testBit k) j (N.b j))) N.n + cnt (fun j => m.testBit j && decide (N.labs (fun k => m.testBit k) j (N.a j) = N.labs (fun k => m.testBit k) j (N.b j))) N.n := by
    rw [← cnt_or fun x _ ⟨z1, z2⟩ => by
      rw [Bool.and_eq_true] at z1 z2
      have := z1.2
      rw [z2.2] at this
      cases this]
    refine cnt_congr fun k _ => ?_
    cases m.testBit k <;> cases decide (N.labs (fun k => m.testBit k) k (N.a k) = N.labs (fun k => m.testBit k) k (N.b k)) <;> rfl
  obtain ⟨c, d, hcd, hd, hc1, hd1⟩ := cnt_two (f := fun j => m.testBit j && decide (N.labs (fun k => m.testBit k) j (N.a j) = N.labs (fun k => m.testBit k) j (N.b j))) (n := N.n) (by (first | lia | omega))
  have whole : ∀ j, j < N.n → (m.testBit j && decide (N.labs (fun k => m.testBit k) j (N.a j) = N.labs (fun k => m.testBit k) j (N.b j))) = true → ∀ i, m.testBit i = true → i ≤ j := fun j hj h i hi => by
    rw [Bool.and_eq_true] at h
    obtain ⟨t, t1, t2⟩ := conn_path (Nat.le_of_lt hj) (labs_conn _ _ _ (of_decide_eq_true h.2))
    have own : (t ^^^ 2 ^ j).testBit j = true := by
      rw [Nat.testBit_xor, Nat.testBit_two_pow, decide_eq_true rfl]
      cases hz : t.testBit j with
      | false => rfl
      | true => exact absurd (t1 j hz).1 (Nat.lt_irrefl _)
    have sub : ∀ k, (t ^^^ 2 ^ j).testBit k = true → m.testBit k = true := fun k hk => by
      rw [Nat.testBit_xor, Nat.testBit_two_pow] at hk
      by_cases e : j = k
      · subst e
        exact h.1
      · rw [decide_eq_false e, Bool.xor_false] at hk
        exact (t1 k hk).2
    have evn : N.Even (t ^^^ 2 ^ j) := fun x hx => by
      rw [bd_xor, t2, bd_pow hj]
      unfold Net.inc
      cases decide (N.a j = x) <;> cases decide (N.b j = x) <;> rfl
    rcases mn _ sub evn with q | q
    · rw [q] at own
      simp at own
    · rw [← q, Nat.testBit_xor, Nat.testBit_two_pow] at hi
      by_cases e : j = i
      · (first | lia | omega)
      · rw [decide_eq_false e, Bool.xor_false] at hi
        exact Nat.le_of_lt (t1 i hi).1
  have h1 : m.testBit d = true := by
    rw [Bool.and_eq_true] at hd1
    exact hd1.1
  have := whole c (by (first | lia | omega)) hc1 d h1
  (first | lia | omega)
end
end RM

namespace Ring
open PySem L2
def touchedOf (L : Nat → Nat) (p : Nat) : List Nat := (rootsOf L p).filter fun s => decide (1 < (pieceOf L p s).length)
def oneB (L : Nat → Nat) (p k : Nat) : List Nat → Bool
  | [s] => decide ((pieceOf L p s).length = k)
  | _ => false
def ringB (p : Nat) (ts : List Tie) (g : GoodWeb p ts) (m : Nat) : Bool := decide (oddOf p ts (m : Int) = []) && oneB (labOf p ts g m) p (tiesOf (m : Int)).length (touchedOf (labOf p ts g m) p)
theorem piece_cnt (L : Nat → Nat) (p s : Nat) : (pieceOf L p s).length = RM.cnt (fun x => decide (L x = s)) p := RM.cnt_range _ _
theorem ties_cnt {m n : Nat} (hm : m < 2 ^ n) : (tiesOf (m : Int)).length = RM.cnt (fun k => m.testBit k) n := by
  rw [ties_nat hm]
  exact RM.cnt_range _ _
theorem filter_is {f : Nat → Bool} {n c : Nat} (hc : c < n) (h : ∀ k, k < n → f k = decide (k = c)) : (List.range n).filter f = [c] := by
  rw [← filter_single hc]
  exact List.filter_congr fun k hk => h k (List.mem_range.mp hk)
theorem ringB_iff {p : Nat} {ts : List Tie} (g : GoodWeb p ts) {m : Nat} (hm : m < 2 ^ ts.length) : ringB p ts g m = true ↔ (netOf p ts g).Ring m := by
  have eL : labOf p ts g m = (netOf p ts g).labs (fun k => m.testBit k) (netOf p ts g).n := rfl
  have ep : (netOf p ts g).p = p := rfl
  constructor
  · intro h
    unfold ringB at h
    rw [Bool.and_eq_true] at h
    obtain ⟨h1, h2⟩ := h
    have ev := (even_net g hm).mp (of_decide_eq_true h1)
    unfold oneB at h2
    split at h2
    · rename_i s hs
      have h2 := of_decide_eq_true h2
      have hmem : s ∈ touchedOf (labOf p ts g m) p := by rw [hs]; exact List.mem_singleton.mpr rfl
      unfold touchedOf at hmem
      have hlen := of_decide_eq_true (List.mem_filter.mp hmem).2
      refine RM.ring_of (s := s) hm ev (fun x => decide (labOf p ts g m x = s)) (fun x _ => by rw [eL]) ?_ (fun k hk hb => ?_) ?_
      · rw [ep, ← piece_cnt]
        exact hlen
      · -- the piece of a tie is touched
        have hak := (netOf p ts g).al k hk
        have hbk := (netOf p ts g).bl k hk
        have e : labOf p ts g m ((netOf p ts g).b k) = labOf p ts g m ((netOf p ts g).a k) := (RM.labs_tie (S := fun k => m.testBit k) hk hb).symm
        have hr : labOf p ts g m (labOf p ts g m ((netOf p ts g).a k)) = labOf p ts g m ((netOf p ts g).a k) := RM.labs_root _ _
        have hlt : labOf p ts g m ((netOf p ts g).a k) < p := RM.labs_lt hak
        have ht : labOf p ts g m ((netOf p ts g).a k) ∈ touchedOf (labOf p ts g m) p := by
          unfold touchedOf rootsOf
          refine List.mem_filter.mpr ⟨List.mem_filter.mpr ⟨List.mem_range.mpr hlt, decide_eq_true hr⟩, decide_eq_true ?_⟩
          rw [piece_cnt]
          exact RM.two_cnt (u := (netOf p ts g).a k) (v := (netOf p ts g).b k) (decide_eq_true rfl) (decide_eq_true e) ((netOf p ts g).ne k hk) hak hbk
        rw [hs] at ht
        exact decide_eq_true (List.mem_singleton.mp ht)
      · rw [ep, ← piece_cnt, h2]
        exact ties_cnt hm
    · cases h2
  · intro r
    obtain ⟨k0, hk0, hb0, hall⟩ := RM.ring_piece hm r
    generalize hs : (netOf p ts g).labs (fun k => m.testBit k) (netOf p ts g).n ((netOf p ts g).a k0) = s at hall
    obtain ⟨h2, hl, solo⟩ := RM.ring_len (s := s) hm r (fun x => decide (labOf p ts g m x = s)) (fun x _ => by rw [eL]) (fun k hk hb => decide_eq_true (hall k hk hb))
    have hsp : s < p := by rw [← hs]; exact RM.labs_lt ((netOf p ts g).al k0 hk0)
    have hss : labOf p ts g m s = s := by rw [eL, ← hs]; exact RM.labs_root _ _
    have ht : touchedOf (labOf p ts g m) p = [s] := by
      unfold touchedOf rootsOf
      rw [List.filter_filter]
      refine filter_is hsp fun x hx => ?_
      by_cases e : x = s
      · subst e
        rw [decide_eq_true hss, piece_cnt, decide_eq_true rfl, Bool.and_true]
        exact decide_eq_true h2
      · rw [decide_eq_false e]
        by_cases hx2 : labOf p ts g m x = x
        · have hc : decide (labOf p ts g m x = s) = false := decide_eq_false (by rw [hx2]; exact e)
          obtain ⟨_, q⟩ := solo x hx hc
          have : ¬ 1 < (pieceOf (labOf p ts g m) p x).length := fun z => by
            rw [piece_cnt] at z
            obtain ⟨c, d, h1, _, h3, h4⟩ := RM.cnt_two z
            have h3 := q c (of_decide_eq_true h3)
            have h4 := q d (of_decide_eq_true h4)
            (first | lia | omega)
          rw [decide_eq_false this, Bool.false_and]
        · rw [decide_eq_false hx2, Bool.and_false]
    unfold ringB
    rw [decide_eq_true ((even_net g hm).mpr r.2.1), ht, Bool.true_and]
    refine decide_eq_true ?_
    rw [piece_cnt, ties_cnt hm]
    exact hl
theorem ringB_even {p : Nat} {ts : List Tie} {g : GoodWeb p ts} {m : Nat} (ev : oddOf p ts (m : Int) = []) : ringB p ts g m = oneB (labOf p ts g m) p (tiesOf (m : Int)).length (touchedOf (labOf p ts g m) p) := by
  unfold ringB
  rw [decide_eq_true ev, Bool.true_and]
theorem eqv_two : ∀ l l' : List Nat, PyData.eqvAll (l.map natD) (l'.map natD) = decide (l = l')
  | [], [] => rfl
  | [], _ :: _ => rfl
  | _ :: _, [] => rfl
  | x :: l, y :: l' => by
    show (((x : Int) == (y : Int)) && PyData.eqvAll (l.map natD) (l'.map natD)) = decide (x :: l = y :: l')
    rw [eqv_two l l', Bool.eq_iff_iff]
    simp
    (first | lia | omega)
theorem eqv_lists (l l' : List Nat) : PyData.eqv (.list (l.map natD)) (.list (l'.map natD)) = decide (l = l') := eqv_two l l'
theorem sub_iff {q m : Nat} : q &&& m = q ↔ ∀ k, q.testBit k = true → m.testBit k = true := by
  constructor
  · intro h k hk
    rw [← h, Nat.testBit_and, Bool.and_eq_true] at hk
    exact hk.2
  · intro h
    refine Nat.eq_of_testBit_eq fun k => ?_
    rw [Nat.testBit_and]
    cases hk : q.testBit k with
    | false => rfl
    | true => rw [h k hk]; rfl
def LstA (H : Hp) (y : V) (l : List Nat) : Prop := ∃ b, y = .ref b ∧ H b = some (.lst (natsV l))
def Sift (f : List Nat → Bool) (ls : List (List Nat)) (H : Hp) (D : Addr) (i : Nat) (acc : List V) (H2 : Hp) : Prop := Same H H2 ∧ H2 D = some (.lst acc) ∧ Paired (LstA H) acc ((ls.take i).filter f)
section
variable {f : List Nat → Bool} {ls : List (List Nat)} {H H2 H3 : Hp} {D : Addr} {i : Nat} {acc : List V} {y : V} {l : List Nat}
theorem Sift.start (hD : H D = none) : Sift f ls H D 0 [] (upd H D (.lst [])) := ⟨Same.new hD, upd_same, .nil⟩
theorem Sift.len (h : Sift f ls H D i acc H2) : H2 D = some (.lst acc) ∧ acc.length ≤ i := ⟨h.2.1, by
  rw [h.2.2.length]
  exact Nat.le_trans (List.length_filter_le _ _) (by rw [List.length_take]; (first | lia | omega))⟩
theorem Sift.yes (h : Sift f ls H D i acc H2) (hD : H D = none) (hl : ls[i]? = some l) (hf : f l = true) (hy : LstA H y l) : H2 D = some (.lst acc) ∧ Sift f ls H D (i + 1) (acc ++ [y]) (upd H2 D (.lst (acc ++ [y]))) := by
  refine ⟨h.2.1, h.1.put hD, upd_same, ?_⟩
  rw [List.take_add_one, hl, List.filter_append]
  show Paired _ _ (_ ++ List.filter f [l])
  rw [List.filter_cons, if_pos hf]
  exact Paired.snoc h.2.2 hy
theorem Sift.no (h : Sift f ls H D i acc H2) (hl : ls[i]? = some l) (hf : f l = false) : Sift f ls H D (i + 1) acc H2 := by
  refine ⟨h.1, h.2.1, ?_⟩
  rw [List.take_add_one, hl, List.filter_append]
  show Paired _ _ (_ ++ List.filter f [l])
  rw [List.filter_cons, if_neg (by rw [hf]; exact Bool.false_ne_true)]
  simpa using h.2.2
end
end Ring

namespace L2
open PySem PySem.Spec PyProof.Rows
section
variable {prog : Program} {w : World} {A : Around} {E : Value → Shared → Prop} {s : Shared}
end
open AutoSeq1 (wpAny_loadPart') in
section
variable {prog : Program} {w : World} {A : Around} {E : Value → Shared → Prop} {s : Shared}
end
section
variable {X : Cx} {elts : List Expr} {n : Nat} {tp : Pos}
end
section
variable {K : PySem.W.Frag} {a : Addr} {xs : List V} {g : TG} {tt : TT} {te : TE} {n : Nat} {fr : St} {D : Addr} {Q : Hp → Prop} {H1 : Hp}
end
end L2

namespace RM
variable {N : Net}
end RM

namespace Ring
def orM (ks : List Nat) : Nat := ks.foldl (fun m k => m ||| 2 ^ k) 0
theorem orM_from (ks : List Nat) (j : Nat) : ∀ m, (ks.foldl (fun m k => m ||| 2 ^ k) m).testBit j = (m.testBit j || decide (j ∈ ks)) := by
  induction ks with
  | nil => intro m; simp
  | cons k r ih =>
    intro m
    rw [List.foldl_cons, ih, Nat.testBit_or, Nat.testBit_two_pow]
    by_cases h : k = j
    · subst h
      simp
    · have h' : ¬ j = k := fun z => h z.symm
      simp [h, h']
theorem orM_bit (ks : List Nat) (j : Nat) : (orM ks).testBit j = decide (j ∈ ks) := by
  unfold orM
  rw [orM_from]
  simp
theorem orM_snoc (ks : List Nat) {t : Nat} (h : t ∉ ks) : orM (ks ++ [t]) = orM ks ^^^ 2 ^ t := Nat.eq_of_testBit_eq fun j => by
  rw [Nat.testBit_xor, orM_bit, orM_bit, Nat.testBit_two_pow]
  by_cases e : t = j
  · subst e
    simp [h]
  · have e' : ¬ j = t := fun z => e z.symm
    simp [e, e']
end Ring
namespace RM
variable {N : Net}
inductive Net.Walk (N : Net) : List Nat → Nat → List Nat → Prop
  | one {v : Nat} : Net.Walk N [] v []
  | snoc {pre ks : List Nat} {v w t : Nat} (h : Net.Walk N pre v ks) (ht : t < N.n) (hn : t ∉ ks) (j : (N.a t = v ∧ N.b t = w) ∨ (N.b t = v ∧ N.a t = w)) : Net.Walk N (pre ++ [v]) w (ks ++ [t])
theorem Net.Walk.len {pre ks : List Nat} {v : Nat} (h : N.Walk pre v ks) : pre.length = ks.length := by
  induction h with
  | one => rfl
  | snoc _ _ _ _ ih => rw [List.length_append, List.length_append, ih]; rfl
theorem Net.Walk.lt {pre ks : List Nat} {v : Nat} (h : N.Walk pre v ks) : ∀ t ∈ ks, t < N.n := by
  induction h with
  | one => exact fun t ht => nomatch ht
  | snoc _ ht _ _ ih =>
    intro s hs
    rcases List.mem_append.mp hs with q | q
    · exact ih s q
    · have e := List.mem_singleton.mp q
      rw [e]
      exact ht
theorem Net.Walk.bd {pre ks : List Nat} {v : Nat} (h : N.Walk pre v ks) : ∀ i u, (pre ++ [v])[i]? = some u → ∀ x, N.bd (Ring.orM (ks.drop i)) x = (decide (u = x) ^^ decide (v = x)) := by
  induction h with
  | one =>
    rename_i v
    intro i u hu x
    match i, hu with
    | 0, hu =>
      have e : v = u := Option.some.inj hu
      subst e
      show N.bd 0 x = _
      rw [bd_zero]
      simp
    | i + 1, hu => simp at hu
  | snoc hw ht hn j ih =>
    rename_i pre ks v w t
    intro i u hu x
    have hl := hw.len
    by_cases hi : i < (pre ++ [v]).length
    · rw [List.getElem?_append_left hi] at hu
      have hi' : i ≤ ks.length := by rw [List.length_append] at hi; simp at hi; (first | lia | omega)
      rw [List.drop_append_of_le_length hi', Ring.orM_snoc _ (fun z => hn (List.mem_of_mem_drop z)), bd_xor, ih i u hu x, bd_pow ht]
      have e : N.inc t x = (decide (v = x) ^^ decide (w = x)) := by
        unfold Net.inc
        rcases j with ⟨j1, j2⟩ | ⟨j1, j2⟩
        · rw [j1, j2]
        · rw [j1, j2]
          exact Bool.xor_comm _ _
      rw [e]
      cases decide (u = x) <;> cases decide (v = x) <;> cases decide (w = x) <;> rfl
    · have hi2 : i = (pre ++ [v]).length := by
        have := (List.getElem?_eq_some_iff.mp hu).1
        rw [List.length_append] at this
        simp at this hi ⊢
        (first | lia | omega)
      rw [hi2, List.getElem?_append_right (Nat.le_refl _), Nat.sub_self] at hu
      have e : w = u := Option.some.inj hu
      subst e
      have : (ks ++ [t]).drop i = [] := List.drop_eq_nil_of_le (by rw [hi2, List.length_append, List.length_append]; simp; (first | lia | omega))
      rw [this]
      show N.bd 0 x = _
      rw [bd_zero]
      simp
structure Way (N : Net) (even : Nat) (pre : List Nat) (v : Nat) (ks : List Nat) (left : Nat) : Prop where
  w : N.Walk pre v ks
  lt : even < 2 ^ N.n
  ev : N.Even even
  sub : ∀ t ∈ ks, even.testBit t = true
  left_is : left = even ^^^ Ring.orM ks
  nd : pre.Nodup
  inp : ∀ x ∈ pre ++ [v], x < N.p
  st : pre = [] → ∃ t, t < N.n ∧ even.testBit t = true ∧ N.a t = v
section
variable {even left v : Nat} {pre ks : List Nat}
theorem Way.start {t : Nat} (lt : even < 2 ^ N.n) (ev : N.Even even) (hb : even.testBit t = true) : Way N even [] (N.a t) [] even := by
  have ht := bits_lt lt hb
  refine ⟨.one, lt, ev, (fun _ z => nomatch z), ?_, List.Pairwise.nil, fun x hx => ?_, fun _ => ⟨t, ht, hb, rfl⟩⟩
  · show even = even ^^^ 0
    simp
  · have e : x = N.a t := by simpa using hx
    rw [e]
    exact N.al t ht
theorem Way.left_bit (h : Way N even pre v ks left) (t : Nat) : left.testBit t = (even.testBit t && !decide (t ∈ ks)) := by
  rw [h.left_is, Nat.testBit_xor, Ring.orM_bit]
  by_cases hm : t ∈ ks
  · rw [h.sub t hm, decide_eq_true hm]
    rfl
  · rw [decide_eq_false hm]
    simp
theorem Way.left_lt (h : Way N even pre v ks left) : left < 2 ^ N.n := lt_of_bits fun k hk => by
  rw [h.left_bit, Bool.and_eq_true] at hk
  exact bits_lt h.lt hk.1
theorem Way.on (h : Way N even pre v ks left) (hv : v ∉ pre) : ∃ t, left.testBit t = true ∧ (N.a t = v ∨ N.b t = v) := by
  cases pre with
  | nil =>
    obtain ⟨t, ht, hb, e⟩ := h.st rfl
    have hk : ks = [] := List.length_eq_zero_iff.mp (by rw [← h.w.len]; rfl)
    refine ⟨t, ?_, .inl e⟩
    rw [h.left_bit, hb, hk]
    simp
  | cons u r =>
    have hb := h.w.bd 0 u rfl v
    rw [List.drop_zero] at hb
    have hu : ¬ u = v := fun z => hv (by rw [z]; exact List.mem_cons_self)
    rw [decide_eq_false hu, decide_eq_true rfl] at hb
    have hvp : v < N.p := h.inp v (List.mem_append_right _ (List.mem_singleton.mpr rfl))
    have hl : N.bd left v = true := by
      rw [h.left_is, bd_xor, h.ev v hvp, hb]
      rfl
    rw [bd_dg] at hl
    have hp := of_decide_eq_true hl
    obtain ⟨k, hk, hkb, hx⟩ := dg_some (N := N) (m := left) (x := v) (by (first | lia | omega))
    exact ⟨k, hkb, hx⟩
theorem Way.go (h : Way N even pre v ks left) (hv : v ∉ pre) {t w : Nat} (hb : left.testBit t = true) (j : (N.a t = v ∧ N.b t = w) ∨ (N.b t = v ∧ N.a t = w)) :
    Way N even (pre ++ [v]) w (ks ++ [t]) (left ^^^ 2 ^ t) := by
  rw [h.left_bit, Bool.and_eq_true] at hb
  have hn : t ∉ ks := by simpa using hb.2
  have ht := bits_lt h.lt hb.1
  refine ⟨.snoc h.w ht hn j, h.lt, h.ev, fun s hs => ?_, ?_, ?_, fun x hx => ?_, fun z => ?_⟩
  · rcases List.mem_append.mp hs with q | q
    · exact h.sub s q
    · rw [List.mem_singleton.mp q]
      exact hb.1
  · rw [Ring.orM_snoc _ hn, h.left_is, Nat.xor_assoc]
  · refine List.nodup_append.mpr ⟨h.nd, by simp, fun x hx y hy => ?_⟩
    have e : y = v := by simpa using hy
    rw [e]
    exact fun z => hv (z ▸ hx)
  · rcases List.mem_append.mp hx with q | q
    · exact h.inp x q
    · have e : x = w := by simpa using q
      rw [e]
      rcases j with ⟨_, j2⟩ | ⟨_, j2⟩
      · rw [← j2]; exact N.bl t ht
      · rw [← j2]; exact N.al t ht
  · simp at z
theorem Way.closes (h : Way N even pre v ks left) {i : Nat} (hi : pre[i]? = some v) : Ring.orM (ks.drop i) ≠ 0 ∧ N.Even (Ring.orM (ks.drop i)) ∧ Ring.orM (ks.drop i) < 2 ^ N.n ∧ ∀ k, (Ring.orM (ks.drop i)).testBit k = true → even.testBit k = true := by
  have hil := (List.getElem?_eq_some_iff.mp hi).1
  have hl := h.w.len
  have hbit : ∀ k, (Ring.orM (ks.drop i)).testBit k = true → k ∈ ks := fun k hk => by
    rw [Ring.orM_bit] at hk
    exact List.mem_of_mem_drop (of_decide_eq_true hk)
  refine ⟨fun z => ?_, fun x _ => ?_, lt_of_bits fun k hk => h.w.lt k (hbit k hk), fun k hk => h.sub k (hbit k hk)⟩
  · have hne : ks.drop i ≠ [] := fun q => by
      have := List.drop_eq_nil_iff.mp q
      (first | lia | omega)
    obtain ⟨k, hk⟩ := List.exists_mem_of_ne_nil _ hne
    have := Ring.orM_bit (ks.drop i) k
    rw [z, decide_eq_true hk] at this
    simp at this
  · rw [h.w.bd i v (by rw [List.getElem?_append_left hil]; exact hi) x]
    simp
theorem Way.few (h : Way N even pre v ks left) (hv : v ∉ pre) : pre.length + 1 ≤ N.p := by
  have nd : (pre ++ [v]).Nodup := List.nodup_append.mpr ⟨h.nd, by simp, fun x hx y hy z => by
    have e : y = v := by simpa using hy
    rw [← e, ← z] at hv
    exact hv hx⟩
  have := nodup_le (l := pre ++ [v]) (p := N.p) nd h.inp
  rw [List.length_append] at this
  simpa using this
end
end RM

namespace Ring
open PySem L2
theorem mask_or (f : Nat → Bool) (n : Nat) : maskOf f n ||| (if f n = true then 2 ^ n else 0) = maskOf f (n + 1) := Nat.eq_of_testBit_eq fun j => by
  rw [Nat.testBit_or, mask_bit, mask_bit]
  by_cases e : j = n
  · subst e
    cases h : f j with
    | true => simp [Nat.testBit_two_pow]
    | false => simp
  · have e1 : decide (j < n + 1) = decide (j < n) := decide_eq_decide.mpr (by (first | lia | omega))
    rw [e1]
    split
    · have e2 : ¬ n = j := fun z => e z.symm
      simp [Nat.testBit_two_pow, e2]
    · simp
theorem number_back {N : RM.Net} {z : Nat} (hz : z < 2 ^ N.chords.length) (nd : N.chords.Nodup) : maskOf (fun i => (N.sumR z N.chords 0).testBit (N.chords.getD i 0)) N.chords.length = z := Nat.eq_of_testBit_eq fun j => by
  rw [mask_bit]
  by_cases hj : j < N.chords.length
  · have hg : N.chords[j]? = some (N.chords.getD j 0) := by rw [List.getD_eq_getElem?_getD, List.getElem?_eq_getElem hj]; rfl
    rw [decide_eq_true hj, Bool.true_and, RM.sumR_bit nd (fun c hc => (RM.chords_mem.mp hc).2) hg, Nat.zero_add]
  · rw [decide_eq_false hj, Bool.false_and]
    cases h : z.testBit j with
    | false => rfl
    | true => exact absurd (RM.bits_lt hz h) hj
theorem chords_nodup {N : RM.Net} : N.chords.Nodup := List.Pairwise.filter _ List.nodup_range
theorem sumR_drop {N : RM.Net} {z : Nat} {l : List Nat} {i c : Nat} (h : l[i]? = some c) : N.sumR z (l.drop i) i = (if z.testBit i = true then N.ring c else 0) ^^^ N.sumR z (l.drop (i + 1)) (i + 1) := by
  obtain ⟨hi, e⟩ := List.getElem?_eq_some_iff.mp h
  rw [List.drop_eq_getElem_cons hi, e]
  rfl
def xorL (rs : List Nat) : Nat := rs.foldl (fun m r => m ^^^ r) 0
theorem xorL_from (rs : List Nat) : ∀ m, rs.foldl (fun m r => m ^^^ r) m = m ^^^ xorL rs := by
  induction rs with
  | nil => intro m; show m = m ^^^ 0; simp
  | cons r rs ih =>
    intro m
    show rs.foldl (fun m r => m ^^^ r) (m ^^^ r) = m ^^^ rs.foldl (fun m r => m ^^^ r) (0 ^^^ r)
    rw [ih, ih, Nat.zero_xor, Nat.xor_assoc]
theorem xorL_snoc (rs : List Nat) (r : Nat) : xorL (rs ++ [r]) = xorL rs ^^^ r := by
  unfold xorL
  rw [List.foldl_append]
  rfl
theorem xorL_cons (rs : List Nat) (r : Nat) : xorL (r :: rs) = r ^^^ xorL rs := by
  show rs.foldl (fun m r => m ^^^ r) (0 ^^^ r) = _
  rw [xorL_from, Nat.zero_xor]
theorem xorL_perm {a b : List Nat} (h : a.Perm b) : xorL a = xorL b := by
  induction h with
  | nil => rfl
  | cons x _ ih => rw [xorL_cons, xorL_cons, ih]
  | swap x y l =>
    rw [xorL_cons, xorL_cons, xorL_cons, xorL_cons, ← Nat.xor_assoc, ← Nat.xor_assoc, Nat.xor_comm x y]
  | trans _ _ ih1 ih2 => rw [ih1, ih2]
end Ring

namespace Ring
open PySem L2
theorem nd_ix : ∀ {l : List Nat} {i j : Nat} {v : Nat}, l.Nodup → l[i]? = some v → l[j]? = some v → i = j
  | [], _, _, _, _, h, _ => by simp at h
  | x :: r, 0, 0, _, _, _, _ => rfl
  | x :: r, 0, j + 1, v, nd, h, h' => by
    have e : x = v := by simpa using h
    subst e
    exact absurd (List.mem_of_getElem? (by simpa using h')) (List.nodup_cons.mp nd).1
  | x :: r, i + 1, 0, v, nd, h, h' => by
    have e : x = v := by simpa using h'
    subst e
    exact absurd (List.mem_of_getElem? (by simpa using h)) (List.nodup_cons.mp nd).1
  | x :: r, i + 1, j + 1, v, nd, h, h' => by
    have := nd_ix (i := i) (j := j) (List.nodup_cons.mp nd).2 (by simpa using h) (by simpa using h')
    (first | lia | omega)
theorem at_last (l : List Nat) (v : Nat) : atI (natsV (l ++ [v])) (-1) = some (.int (v : Int)) := by
  unfold atI ixN
  have hl : (natsV (l ++ [v])).length = l.length + 1 := by rw [natsV_len, List.length_append]; rfl
  rw [if_neg (by decide), hl, if_pos (by (first | lia | omega))]
  have e : ((-1 : Int) + ((l.length + 1 : Nat) : Int)).toNat = l.length := by (first | lia | omega)
  show (natsV (l ++ [v]))[((-1 : Int) + ((l.length + 1 : Nat) : Int)).toNat]? = _
  rw [e]
  exact nats_at (by rw [List.getElem?_append_right (Nat.le_refl _)]; simp)
theorem count_nats (l : List Nat) (v : Nat) : (natsV l).countP (fun z => eqV z (.int (v : Int))) = l.count v := by
  unfold natsV
  rw [List.countP_map, List.count]
  refine List.countP_congr fun x _ => ?_
  show ((((x : Nat) : Int) == (v : Int)) = true) ↔ _
  rw [beq_iff_eq, beq_iff_eq]
  (first | lia | omega)
theorem count_end (l : List Nat) (v : Nat) : decide (V.int (((l ++ [v]).count v : Nat) : Int) = V.int 1) = decide (v ∉ l) := decide_eq_decide.mpr (by
  rw [List.count_append]
  have : List.count v [v] = 1 := by simp
  rw [this]
  constructor
  · intro z
    have := V.int.inj z
    exact List.count_eq_zero.mp (by (first | lia | omega))
  · intro z
    rw [List.count_eq_zero.mpr z]
    rfl)
theorem cut_from (l : List Nat) {i : Nat} (h : i ≤ l.length) : cutV (natsV l) (some (i : Int)) none = natsV (l.drop i) := by
  unfold cutV
  rw [HT.sIx_nat, HT.sIx_none, natsV_len, Nat.min_eq_left h]
  unfold natsV
  rw [← List.map_drop, ← List.map_take, List.take_of_length_le (by rw [List.length_drop]; (first | lia | omega))]
theorem first_at {l : List Nat} {v : Nat} (h : v ∈ l) (nd : l.Nodup) : ∃ i : Nat, l[i]? = some v ∧ ∀ m z, (natsV (l ++ [v]))[m]? = some z → m ≤ i → eqV z (.int (v : Int)) = decide (m = i) := by
  obtain ⟨i, hi⟩ := List.getElem?_of_mem h
  refine ⟨i, hi, fun m z hz hm => ?_⟩
  have hil := (List.getElem?_eq_some_iff.mp hi).1
  obtain ⟨k, hk, rfl⟩ := natsV_get hz
  rw [List.getElem?_append_left (by (first | lia | omega))] at hk
  show (((k : Nat) : Int) == (v : Int)) = decide (m = i)
  rw [Bool.eq_iff_iff, beq_iff_eq, decide_eq_true_eq]
  constructor
  · intro e
    have e : k = v := by (first | lia | omega)
    subst e
    exact nd_ix nd hk hi
  · rintro rfl
    rw [hi] at hk
    rw [Option.some.inj hk]
end Ring

namespace L2
open PySem PySem.Spec PyProof.Rows
end L2

namespace Ring
end Ring

namespace Ring
open PySem L2
end Ring
namespace Ring
open PySem L2
end Ring

namespace Ring
open PySem L2
end Ring

namespace L2
open PySem PySem.Spec PyProof.Rows
section
variable {X : Cx}
end
end L2

namespace L2
open PySem PySem.Spec PyProof.Rows
end L2
namespace Ring
open PySem L2
end Ring

namespace L2
open PySem PySem.Spec PyProof.Rows
end L2

namespace RM
variable {N : Net} {m t0 : Nat}
def Net.far (N : Net) (t v : Nat) : Nat := if N.a t = v then N.b t else N.a t
def Net.tiesAt (N : Net) (left v : Nat) : List Nat := (List.range N.n).filter fun t => left.testBit t && (decide (N.a t = v) || decide (N.b t = v))
theorem tiesAt_mem {left v t : Nat} : t ∈ N.tiesAt left v ↔ t < N.n ∧ left.testBit t = true ∧ (N.a t = v ∨ N.b t = v) := by
  unfold Net.tiesAt
  rw [List.mem_filter, List.mem_range, Bool.and_eq_true, Bool.or_eq_true, decide_eq_true_eq, decide_eq_true_eq]
theorem far_join {t v : Nat} (h : N.a t = v ∨ N.b t = v) : (N.a t = v ∧ N.b t = N.far t v) ∨ (N.b t = v ∧ N.a t = N.far t v) := by
  unfold Net.far
  by_cases e : N.a t = v
  · rw [if_pos e]
    exact .inl ⟨e, rfl⟩
  · rw [if_neg e]
    rcases h with h | h
    · exact absurd h e
    · exact .inr ⟨h, rfl⟩
end RM

namespace RM
variable {N : Net} {m t0 : Nat}
end RM

namespace Ring
open PySem L2
theorem tie_in {H : Hp} {xs : List V} {p : Nat} {ts : List Tie} {g : GoodWeb p ts} {k : Nat} (h3 : Paired (TupAt H) xs ts) (hk : k < ts.length) : ∃ c, xs[k]? = some (.ref c) ∧ H c = some (.tup [.int (((netOf p ts g).a k : Nat) : Int), .int (((netOf p ts g).b k : Nat) : Int), .int (tieAt ts k).2.2]) := by
  have hkx : k < xs.length := by rw [h3.length]; exact hk
  obtain ⟨t, ht, c, hc, hct⟩ := Paired.getP h3 (i := k) (x := xs[k]) (by simp [hkx])
  have htt : t = tieAt ts k := by
    have z := tieAt_get hk
    rw [ht] at z
    exact Option.some.inj z
  refine ⟨c, by rw [← hc]; simp [hkx], ?_⟩
  rw [hct, ← net_a hk, ← net_b hk, htt]
  rfl
section
variable {α : Type} {f : α → Int} {l : List α} {H H2 H3 : Hp} {D : Addr} {i : Nat} {k : α} {acc : List V} {v : V}
end
end Ring

namespace RM
variable {N : Net} {row : Nat → Int}
end RM

namespace Ring
open PySem L2
section
variable {H H2 H3 : Hp} {D : Addr} {i : Nat} {acc : List V}
end
end Ring

namespace RM
variable {N : Net} {row : Nat → Int}
end RM

namespace RM
variable {N : Net} {row row' : Nat → Int}
variable {N' : Net}
end RM

namespace RM
variable {N : Net} {m t0 : Nat}
end RM

namespace RM
variable {N : Net}
theorem bd_off {m x : Nat} (h : ∀ k, k < N.n → m.testBit k = true → N.a k ≠ x ∧ N.b k ≠ x) : N.bd m x = false := by
  unfold Net.bd
  have e : xsum (fun k => m.testBit k && N.inc k x) N.n = xsum (fun _ => false) N.n := by
    refine xsum_congr fun k hk => ?_
    cases hb : m.testBit k with
    | false => rfl
    | true =>
      obtain ⟨h1, h2⟩ := h k hk hb
      unfold Net.inc
      rw [decide_eq_false h1, decide_eq_false h2]
      rfl
  rw [e]
  exact xsum_false _
theorem Net.Walk.ends {pre ks : List Nat} {v : Nat} (h : N.Walk pre v ks) : ∀ i k, k ∈ ks.drop i → N.a k ∈ (pre ++ [v]).drop i ∧ N.b k ∈ (pre ++ [v]).drop i := by
  induction h with
  | one => intro i k hk; simp at hk
  | snoc h ht hn j ih =>
    rename_i pre ks v w t
    intro i k hk
    have hl := h.len
    have hi : i ≤ ks.length := by
      refine Nat.le_of_not_lt fun z => ?_
      rw [List.drop_eq_nil_of_le (by rw [List.length_append]; simp; (first | lia | omega))] at hk
      cases hk
    rw [List.drop_append_of_le_length hi] at hk
    have e2 : (pre ++ [v] ++ [w]).drop i = (pre ++ [v]).drop i ++ [w] := List.drop_append_of_le_length (by rw [List.length_append]; simp; (first | lia | omega))
    rw [e2]
    rcases List.mem_append.mp hk with q | q
    · obtain ⟨h1, h2⟩ := ih i k q
      exact ⟨List.mem_append_left _ h1, List.mem_append_left _ h2⟩
    · have e := List.mem_singleton.mp q
      subst e
      have hv : v ∈ (pre ++ [v]).drop i := by
        rw [List.drop_append_of_le_length (by (first | lia | omega))]
        exact List.mem_append_right _ (List.mem_singleton.mpr rfl)
      have hw : w ∈ (pre ++ [v]).drop i ++ [w] := List.mem_append_right _ (List.mem_singleton.mpr rfl)
      rcases j with ⟨j1, j2⟩ | ⟨j1, j2⟩
      · rw [j1, j2]; exact ⟨List.mem_append_left _ hv, hw⟩
      · rw [j1, j2]; exact ⟨hw, List.mem_append_left _ hv⟩
theorem Net.Walk.bare {pre ks : List Nat} {v : Nat} (h : N.Walk pre v ks) : ∀ i q, ((pre ++ [v]).drop i).Nodup → (∀ x ∈ (pre ++ [v]).drop i, x < N.p) → (∀ k, q.testBit k = true → k ∈ ks.drop i) → N.Even q → q = 0 := by
  induction h with
  | one =>
    intro i q _ _ hq _
    refine Nat.eq_of_testBit_eq fun k => ?_
    rw [Nat.zero_testBit]
    refine Bool.eq_false_iff.mpr fun z => ?_
    have := hq k z
    simp at this
  | snoc h ht hn j ih =>
    rename_i pre ks v w t
    intro i q nd hp hq ev
    have hl := h.len
    by_cases hi : i ≤ ks.length
    · have e2 : (pre ++ [v] ++ [w]).drop i = (pre ++ [v]).drop i ++ [w] := List.drop_append_of_le_length (by rw [List.length_append]; simp; (first | lia | omega))
      rw [e2] at nd hp
      have hw : w ∉ (pre ++ [v]).drop i := fun z => (List.nodup_append.mp nd).2.2 w z w (List.mem_singleton.mpr rfl) rfl
      have hv : v ∈ (pre ++ [v]).drop i := by
        rw [List.drop_append_of_le_length (by (first | lia | omega))]
        exact List.mem_append_right _ (List.mem_singleton.mpr rfl)
      have hvw : v ≠ w := fun z => hw (z ▸ hv)
      have hq2 : ∀ k, q.testBit k = true → k = t ∨ k ∈ ks.drop i := fun k hk => by
        have z := hq k hk
        rw [List.drop_append_of_le_length hi] at z
        rcases List.mem_append.mp z with z | z
        · exact .inr z
        · exact .inl (List.mem_singleton.mp z)
      have hqt : q.testBit t = false := by
        refine Bool.eq_false_iff.mpr fun hb => ?_
        have h1 := ev w (hp w (List.mem_append_right _ (List.mem_singleton.mpr rfl)))
        have e3 : q = (q ^^^ 2 ^ t) ^^^ 2 ^ t := by rw [Nat.xor_assoc, Nat.xor_self, Nat.xor_zero]
        rw [e3, bd_xor, bd_pow ht, bd_off (x := w) fun k hk z => ?_] at h1
        · unfold Net.inc at h1
          rcases j with ⟨j1, j2⟩ | ⟨j1, j2⟩
          · rw [j1, j2, decide_eq_false hvw, decide_eq_true rfl] at h1
            cases h1
          · rw [j1, j2, decide_eq_false hvw, decide_eq_true rfl] at h1
            cases h1
        · rw [Nat.testBit_xor, Nat.testBit_two_pow] at z
          have hk' : k ∈ ks.drop i := by
            by_cases e : k = t
            · rw [e, hb, decide_eq_true rfl] at z
              cases z
            · rw [decide_eq_false (Ne.symm e), Bool.xor_false] at z
              exact (hq2 k z).resolve_left e
          obtain ⟨y1, y2⟩ := h.ends i k hk'
          exact ⟨fun z => hw (z ▸ y1), fun z => hw (z ▸ y2)⟩
      refine ih i q (List.nodup_append.mp nd).1 (fun x hx => hp x (List.mem_append_left _ hx)) (fun k hk => ?_) ev
      rcases hq2 k hk with e | e
      · rw [e, hqt] at hk
        cases hk
      · exact e
    · refine Nat.eq_of_testBit_eq fun k => ?_
      rw [Nat.zero_testBit]
      refine Bool.eq_false_iff.mpr fun z => ?_
      have := hq k z
      rw [List.drop_eq_nil_of_le (by rw [List.length_append]; simp; (first | lia | omega))] at this
      cases this
theorem Way.ring {even left v : Nat} {pre ks : List Nat} (h : Way N even pre v ks left) {i : Nat} (hi : pre[i]? = some v) : N.Ring (Ring.orM (ks.drop i)) := by
  obtain ⟨c1, c2, c3, c4⟩ := h.closes hi
  refine ⟨c1, c2, fun q hq ev => ?_⟩
  have hil := (List.getElem?_eq_some_iff.mp hi).1
  have nd := h.nd
  have inp := h.inp
  have w := h.w
  clear h c1 c3 c4
  cases w with
  | one => cases hi
  | snoc w ht hn j =>
    rename_i pre ks u t
    have hl := w.len
    have hi2 : i ≤ ks.length := by rw [List.length_append] at hil; simp at hil; (first | lia | omega)
    have e1 : (ks ++ [t]).drop i = ks.drop i ++ [t] := List.drop_append_of_le_length hi2
    have tn : t ∉ ks.drop i := fun z => hn (List.mem_of_mem_drop z)
    have bare : ∀ q, (∀ k, q.testBit k = true → k ∈ ks.drop i) → N.Even q → q = 0 := fun q hq ev =>
      w.bare i q (nd.sublist (List.drop_sublist _ _)) (fun x hx => inp x (List.mem_append_left _ (List.mem_of_mem_drop hx))) hq ev
    rw [e1] at c2 hq ⊢
    have hq' : ∀ k, q.testBit k = true → k ∈ ks.drop i ∨ k = t := fun k hk => by
      have z := hq k hk
      rw [Ring.orM_bit] at z
      rcases List.mem_append.mp (of_decide_eq_true z) with z | z
      · exact .inl z
      · exact .inr (List.mem_singleton.mp z)
    cases hb : q.testBit t with
    | false =>
      refine .inl (bare q (fun k hk => ?_) ev)
      rcases hq' k hk with z | z
      · exact z
      · rw [z, hb] at hk
        cases hk
    | true =>
      refine .inr ?_
      have z : Ring.orM (ks.drop i ++ [t]) ^^^ q = 0 := by
        refine bare _ (fun k hk => ?_) (Even.xor c2 ev)
        rw [Nat.testBit_xor, Ring.orM_bit] at hk
        by_cases e : k = t
        · rw [e, hb, decide_eq_true (List.mem_append_right _ (List.mem_singleton.mpr rfl))] at hk
          cases hk
        · by_cases e2 : k ∈ ks.drop i
          · exact e2
          · have n1 : q.testBit k = false := Bool.eq_false_iff.mpr fun z => (hq' k z).elim e2 e
            have n2 : k ∉ ks.drop i ++ [t] := fun z => (List.mem_append.mp z).elim e2 fun z => e (List.mem_singleton.mp z)
            rw [n1, decide_eq_false n2] at hk
            cases hk
      refine Nat.eq_of_testBit_eq fun k => ?_
      have y := congrArg (fun m => m.testBit k) z
      simp only [Nat.testBit_xor, Nat.zero_testBit] at y
      revert y
      cases q.testBit k <;> cases (Ring.orM (ks.drop i ++ [t])).testBit k <;> decide
end RM

namespace RM
variable {N : Net}
inductive Wn (N : Net) (even : Nat) : List Nat → Nat → List Nat → Nat → Prop
  | start {t : Nat} (ht : ((List.range N.n).filter fun k => even.testBit k)[0]? = some t) : Wn N even [] (N.a t) [] even
  | next {pre ks : List Nat} {v left t : Nat} (h : Wn N even pre v ks left) (hv : v ∉ pre) (ht : (N.tiesAt left v)[0]? = some t) : Wn N even (pre ++ [v]) (N.far t v) (ks ++ [t]) (left ^^^ 2 ^ t)
section
variable {even left v : Nat} {pre ks : List Nat}
theorem wn_way (lt : even < 2 ^ N.n) (ev : N.Even even) (h : Wn N even pre v ks left) : Way N even pre v ks left := by
  induction h with
  | start ht => exact Way.start lt ev (List.mem_filter.mp (List.mem_of_getElem? ht)).2
  | next h hv ht ih =>
    obtain ⟨_, hb, hj⟩ := tiesAt_mem.mp (List.mem_of_getElem? ht)
    exact ih.go hv hb (far_join hj)
theorem wn_on (lt : even < 2 ^ N.n) (ev : N.Even even) (h : Wn N even pre v ks left) (hv : v ∉ pre) : ∃ t, (N.tiesAt left v)[0]? = some t := by
  have w := wn_way lt ev h
  obtain ⟨t, hb, hj⟩ := w.on hv
  have hm : t ∈ N.tiesAt left v := tiesAt_mem.mpr ⟨bits_lt w.left_lt hb, hb, hj⟩
  cases e : N.tiesAt left v with
  | nil => rw [e] at hm; cases hm
  | cons x r => exact ⟨x, rfl⟩
end
def Cl (N : Net) (even r : Nat) : Prop := ∃ pre v ks left i, Wn N even pre v ks left ∧ pre[i]? = some v ∧ pre.Nodup ∧ r = Ring.orM (ks.drop i)
theorem cl_facts {even r : Nat} (lt : even < 2 ^ N.n) (ev : N.Even even) (h : Cl N even r) : N.Ring r ∧ r < 2 ^ N.n ∧ ∀ k, r.testBit k = true → even.testBit k = true := by
  obtain ⟨pre, v, ks, left, i, w, hi, nd, rfl⟩ := h
  have y := wn_way lt ev w
  obtain ⟨_, _, c3, c4⟩ := y.closes hi
  exact ⟨y.ring hi, c3, c4⟩
inductive Pt (N : Net) (m : Nat) : List Nat → Nat → Prop
  | start : Pt N m [] m
  | next {rs : List Nat} {left r : Nat} (h : Pt N m rs left) (h0 : left ≠ 0) (c : Cl N left r) : Pt N m (rs ++ [r]) (left ^^^ r)
section
variable {m left : Nat} {rs : List Nat}
theorem bits_off {r left : Nat} (h : ∀ k, r.testBit k = true → left.testBit k = true) (k : Nat) : (left ^^^ r).testBit k = (left.testBit k && !r.testBit k) := by
  rw [Nat.testBit_xor]
  cases hj : r.testBit k with
  | false => simp
  | true => rw [h k hj]; rfl
theorem pt_facts (lt : m < 2 ^ N.n) (ev : N.Even m) (h : Pt N m rs left) : left < 2 ^ N.n ∧ N.Even left ∧ (∀ r ∈ rs, N.Ring r ∧ r < 2 ^ N.n ∧ r &&& left = 0) ∧ rs.Pairwise (fun x y => x &&& y = 0) ∧ Ring.xorL rs ^^^ left = m := by
  induction h with
  | start => exact ⟨lt, ev, (fun r hr => nomatch hr), List.Pairwise.nil, by show 0 ^^^ m = m; rw [Nat.zero_xor]⟩
  | next h h0 c ih =>
    rename_i rs left r
    obtain ⟨i1, i2, i3, i4, i5⟩ := ih
    obtain ⟨c1, c2, c3⟩ := cl_facts i1 i2 c
    have hz : ∀ x, x &&& left = 0 → x &&& (left ^^^ r) = 0 ∧ x &&& r = 0 := fun x hx => by
      have hb : ∀ k, (x.testBit k && left.testBit k) = false := fun k => by rw [← Nat.testBit_and, hx, Nat.zero_testBit]
      constructor
      · refine Nat.eq_of_testBit_eq fun k => ?_
        have := hb k
        rw [Nat.testBit_and, Nat.zero_testBit, bits_off c3]
        cases h1 : x.testBit k with
        | false => rfl
        | true => rw [h1, Bool.true_and] at this; rw [this]; rfl
      · refine Nat.eq_of_testBit_eq fun k => ?_
        have := hb k
        rw [Nat.testBit_and, Nat.zero_testBit]
        cases h1 : x.testBit k with
        | false => rfl
        | true =>
          rw [h1, Bool.true_and] at this
          cases h2 : r.testBit k with
          | false => rfl
          | true => rw [c3 k h2] at this; cases this
    refine ⟨Nat.xor_lt_two_pow i1 c2, Even.xor i2 c1.2.1, fun x hx => ?_, ?_, ?_⟩
    · rcases List.mem_append.mp hx with z | z
      · obtain ⟨j1, j2, j3⟩ := i3 x z
        exact ⟨j1, j2, (hz x j3).1⟩
      · rw [List.mem_singleton.mp z]
        refine ⟨c1, c2, Nat.eq_of_testBit_eq fun k => ?_⟩
        rw [Nat.testBit_and, Nat.zero_testBit, bits_off c3]
        cases r.testBit k with
        | false => rfl
        | true => simp
    · refine List.pairwise_append.mpr ⟨i4, List.pairwise_singleton _ _, fun x hx y hy => ?_⟩
      rw [List.mem_singleton.mp hy]
      exact (hz x (i3 x hx).2.2).2
    · rw [Ring.xorL_snoc, ← i5, Nat.xor_comm left r, ← Nat.xor_assoc, Nat.xor_assoc (Ring.xorL rs) r r, Nat.xor_self, Nat.xor_zero]
theorem pt_len (lt : m < 2 ^ N.n) (ev : N.Even m) (h : Pt N m rs left) : rs.length + cnt (fun k => left.testBit k) N.n ≤ cnt (fun k => m.testBit k) N.n := by
  induction h with
  | start => simp
  | next h h0 c ih =>
    rename_i rs left r
    obtain ⟨i1, i2, _, _, _⟩ := pt_facts lt ev h
    obtain ⟨c1, c2, c3⟩ := cl_facts i1 i2 c
    have hs : cnt (fun k => left.testBit k) N.n = cnt (fun k => (left ^^^ r).testBit k) N.n + cnt (fun k => r.testBit k) N.n := by
      rw [← cnt_or fun x _ ⟨z1, z2⟩ => by rw [bits_off c3, z2] at z1; simp at z1]
      refine cnt_congr fun j _ => ?_
      rw [bits_off c3]
      cases hj : r.testBit j with
      | false => simp
      | true => rw [c3 j hj]; rfl
    have hp : 0 < cnt (fun k => r.testBit k) N.n := by
      obtain ⟨j, hj⟩ := Nat.exists_testBit_of_ne_zero c1.1
      exact cnt_pos hj (bits_lt c2 hj)
    rw [List.length_append]
    show rs.length + 1 + _ ≤ _
    (first | lia | omega)
end
end RM

namespace RM
open Ring (xorL xorL_cons maskOf)
variable {N : Net}
theorem eN_even {z : Nat} : N.Even (N.sumR z N.chords 0) ∧ N.sumR z N.chords 0 < 2 ^ N.n := sumR_even fun c hc => (chords_mem.mp hc).1
theorem chords_nd : N.chords.Nodup := List.Pairwise.filter _ List.nodup_range
theorem chords_up : N.chords.Pairwise (· < ·) := List.Pairwise.filter _ List.pairwise_lt_range
theorem eN_bit {z j d : Nat} (h : N.chords[j]? = some d) : (N.sumR z N.chords 0).testBit d = z.testBit j := by
  rw [sumR_bit chords_nd (fun c hc => (chords_mem.mp hc).2) h, Nat.zero_add]
theorem chord_at {c : Nat} (hc : c < N.n) (hf : N.inF c = false) : ∃ j : Nat, N.chords[j]? = some c := List.getElem?_of_mem (chords_mem.mpr ⟨hc, hf⟩)
theorem eN_xor (z y : Nat) : N.sumR (z ^^^ y) N.chords 0 = N.sumR z N.chords 0 ^^^ N.sumR y N.chords 0 := by
  refine even_one eN_even.2 (Nat.xor_lt_two_pow eN_even.2 eN_even.2) eN_even.1 (Even.xor eN_even.1 eN_even.1) fun c hc hf => ?_
  obtain ⟨j, hj⟩ := chord_at hc hf
  rw [eN_bit hj, Nat.testBit_xor, Nat.testBit_xor, eN_bit hj, eN_bit hj]
theorem eN_all {m : Nat} (hm : m < 2 ^ N.n) (ev : N.Even m) : ∃ z, z < 2 ^ N.chords.length ∧ N.sumR z N.chords 0 = m := by
  refine ⟨maskOf (fun i => m.testBit (N.chords.getD i 0)) N.chords.length, Ring.mask_lt _ _, even_one eN_even.2 hm eN_even.1 ev fun c hc hf => ?_⟩
  obtain ⟨j, hj⟩ := chord_at hc hf
  rw [eN_bit hj, Ring.mask_bit]
  have hl := (List.getElem?_eq_some_iff.mp hj).1
  rw [decide_eq_true hl, Bool.true_and, List.getD_eq_getElem?_getD, hj]
  rfl
theorem ring_low {c j : Nat} (hc : c < N.n) (hf : N.inF c = false) (h : (N.ring c).testBit j = true) : j ≤ c := by
  have hlab : N.lab c (N.a c) = N.lab c (N.b c) := by
    unfold Net.inF at hf
    simpa using hf
  have low : ∀ k, (N.trail c (N.a c) ^^^ N.trail c (N.b c) ^^^ 2 ^ c).testBit k = true → k ≤ c ∧ (k = c ∨ N.inF k = true) := fun k hk => by
    rw [Nat.testBit_xor, Nat.testBit_xor, Nat.testBit_two_pow] at hk
    by_cases e : c = k
    · exact ⟨by (first | lia | omega), .inl e.symm⟩
    · rw [decide_eq_false e, Bool.xor_false] at hk
      cases h1 : (N.trail c (N.a c)).testBit k with
      | true => exact ⟨Nat.le_of_lt (trail_in _ _ _ h1).1, .inr (trail_in _ _ _ h1).2⟩
      | false =>
        rw [h1, Bool.false_xor] at hk
        exact ⟨Nat.le_of_lt (trail_in _ _ _ hk).1, .inr (trail_in _ _ _ hk).2⟩
  have e : N.ring c = N.trail c (N.a c) ^^^ N.trail c (N.b c) ^^^ 2 ^ c := by
    refine even_one (ring_lt hc) (lt_of_bits fun k hk => Nat.lt_of_le_of_lt (low k hk).1 hc) (ring_even hc) (fun x hx => ?_) fun d hd hfd => ?_
    · rw [bd_xor, bd_xor, trail_bd c (Nat.le_of_lt hc), trail_bd c (Nat.le_of_lt hc), bd_pow hc, hlab]
      unfold Net.inc
      cases decide (N.a c = x) <;> cases decide (N.b c = x) <;> cases decide (N.lab c (N.b c) = x) <;> rfl
    · rw [ring_chord hf hfd]
      cases q : (N.trail c (N.a c) ^^^ N.trail c (N.b c) ^^^ 2 ^ c).testBit d with
      | true =>
        rcases (low d q).2 with z | z
        · rw [z]; simp
        · rw [hfd] at z; cases z
      | false =>
        refine decide_eq_false fun z => ?_
        subst z
        rw [Nat.testBit_xor, Nat.testBit_xor, Nat.testBit_two_pow, decide_eq_true rfl] at q
        have t1 : (N.trail c (N.a c)).testBit c = false := by
          cases h1 : (N.trail c (N.a c)).testBit c with
          | false => rfl
          | true => exact absurd (trail_in _ _ _ h1).1 (Nat.lt_irrefl _)
        have t2 : (N.trail c (N.b c)).testBit c = false := by
          cases h1 : (N.trail c (N.b c)).testBit c with
          | false => rfl
          | true => exact absurd (trail_in _ _ _ h1).1 (Nat.lt_irrefl _)
        rw [t1, t2] at q
        cases q
  rw [e] at h
  exact (low j h).1
theorem sumR_some {z j : Nat} : ∀ {l : List Nat} {i : Nat}, (N.sumR z l i).testBit j = true → ∃ k c, l[k]? = some c ∧ z.testBit (i + k) = true ∧ (N.ring c).testBit j = true
  | [], _, h => by simp [Net.sumR] at h
  | c :: r, i, h => by
    unfold Net.sumR at h
    rw [Nat.testBit_xor] at h
    by_cases q : z.testBit i = true ∧ (N.ring c).testBit j = true
    · exact ⟨0, c, rfl, by simpa using q.1, q.2⟩
    · have z0 : (if z.testBit i = true then N.ring c else 0).testBit j = false := by
        split
        · next hz => cases e : (N.ring c).testBit j with
            | false => rfl
            | true => exact absurd ⟨hz, e⟩ q
        · simp
      rw [z0, Bool.false_xor] at h
      obtain ⟨k, d, h1, h2, h3⟩ := sumR_some h
      exact ⟨k + 1, d, by simpa using h1, by rw [show i + (k + 1) = i + 1 + k by (first | lia | omega)]; exact h2, h3⟩
theorem lt_bits {x y : Nat} (i : Nat) (h1 : x.testBit i = false) (h2 : y.testBit i = true) (h : ∀ j, i < j → x.testBit j = y.testBit j) : x < y := by
  have hq : x / 2 ^ (i + 1) = y / 2 ^ (i + 1) := Nat.eq_of_testBit_eq fun j => by
    rw [Nat.testBit_div_two_pow, Nat.testBit_div_two_pow]
    exact h _ (by (first | lia | omega))
  have hx : x % 2 ^ (i + 1) < 2 ^ i := Nat.lt_pow_two_of_testBit _ fun k hk => by
    rw [Nat.testBit_mod_two_pow]
    by_cases e : k = i
    · subst e
      rw [h1, Bool.and_false]
    · rw [decide_eq_false (by (first | lia | omega)), Bool.false_and]
  have hy : 2 ^ i ≤ y % 2 ^ (i + 1) := Nat.ge_two_pow_of_testBit (by rw [Nat.testBit_mod_two_pow, h2, decide_eq_true (Nat.lt_succ_self _)]; rfl)
  have e1 := Nat.div_add_mod x (2 ^ (i + 1))
  have e2 := Nat.div_add_mod y (2 ^ (i + 1))
  rw [hq] at e1
  (first | lia | omega)
theorem eN_mono {z y : Nat} (h : z < y) (hy : y < 2 ^ N.chords.length) : N.sumR z N.chords 0 < N.sumR y N.chords 0 := by
  have hd : z ^^^ y ≠ 0 := fun e => by
    have : z = y := by
      have := congrArg (· ^^^ y) e
      simpa [Nat.xor_assoc] using this
    (first | lia | omega)
  have top := Nat.testBit_log2 hd
  have above : ∀ k, (z ^^^ y).log2 < k → (z ^^^ y).testBit k = false := fun k hk => Nat.testBit_lt_two_pow (Nat.lt_of_lt_of_le (Nat.lt_log2_self) (Nat.pow_le_pow_right (by decide) hk))
  generalize hi : (z ^^^ y).log2 = i at top above
  have same : ∀ k, i < k → z.testBit k = y.testBit k := fun k hk => by
    have := above k hk
    rw [Nat.testBit_xor] at this
    cases hz : z.testBit k <;> cases hy : y.testBit k <;> rw [hz, hy] at this <;> first | rfl | cases this
  have zi : z.testBit i = false ∧ y.testBit i = true := by
    rw [Nat.testBit_xor] at top
    cases hz : z.testBit i with
    | false =>
      rw [hz, Bool.false_xor] at top
      exact ⟨rfl, top⟩
    | true =>
      have hyi : y.testBit i = false := by
        cases q : y.testBit i with
        | false => rfl
        | true => rw [hz, q] at top; cases top
      exact absurd (lt_bits i hyi hz fun k hk => (same k hk).symm) (by (first | lia | omega))
  have hil : i < N.chords.length := bits_lt hy zi.2
  have hc : N.chords[i]? = some N.chords[i] := List.getElem?_eq_getElem hil
  refine lt_bits N.chords[i] (by rw [eN_bit hc]; exact zi.1) (by rw [eN_bit hc]; exact zi.2) fun j hj => ?_
  have e0 : (N.sumR (z ^^^ y) N.chords 0).testBit j = false := by
    cases q : (N.sumR (z ^^^ y) N.chords 0).testBit j with
    | false => rfl
    | true =>
      obtain ⟨k, c, h1, h2, h3⟩ := sumR_some q
      rw [Nat.zero_add] at h2
      have hk : k ≤ i := by
        by_cases hk : k ≤ i
        · exact hk
        · rw [above k (by (first | lia | omega))] at h2
          cases h2
      obtain ⟨hkl, hkc⟩ := List.getElem?_eq_some_iff.mp h1
      obtain ⟨c1, c2⟩ := chords_mem.mp (List.mem_of_getElem? h1)
      have l1 := ring_low c1 c2 h3
      have l2 : c ≤ N.chords[i] := by
        by_cases e : k = i
        · subst e
          exact Nat.le_of_eq hkc.symm
        · rw [← hkc]
          exact Nat.le_of_lt (List.pairwise_iff_getElem.mp chords_up k i hkl hil (by (first | lia | omega)))
      (first | lia | omega)
  rw [eN_xor, Nat.testBit_xor] at e0
  cases h1 : (N.sumR z N.chords 0).testBit j <;> cases h2 : (N.sumR y N.chords 0).testBit j <;> rw [h1, h2] at e0 <;> first | rfl | cases e0
theorem evens_list {f : Nat → Bool} (hf : ∀ m, m < 2 ^ N.n → (f m = true ↔ N.Even m)) : (List.range (2 ^ N.n)).filter f = (List.range (2 ^ N.chords.length)).map fun z => N.sumR z N.chords 0 := by
  have u1 : ((List.range (2 ^ N.n)).filter f).Pairwise (· < ·) := List.Pairwise.filter _ List.pairwise_lt_range
  have u2 : ((List.range (2 ^ N.chords.length)).map fun z => N.sumR z N.chords 0).Pairwise (· < ·) := by
    rw [List.pairwise_iff_getElem]
    intro i j hi hj hij
    rw [List.length_map, List.length_range] at hi hj
    rw [List.getElem_map, List.getElem_map, List.getElem_range, List.getElem_range]
    exact eN_mono hij hj
  refine List.Perm.eq_of_pairwise (fun x y _ _ h1 h2 => absurd h1 (Nat.lt_asymm h2)) u1 u2 ?_
  refine (List.perm_ext_iff_of_nodup (u1.imp Nat.ne_of_lt) (u2.imp Nat.ne_of_lt)).mpr fun m => ?_
  rw [List.mem_filter, List.mem_map, List.mem_range]
  constructor
  · rintro ⟨h1, h2⟩
    obtain ⟨z, hz, e⟩ := eN_all h1 ((hf m h1).mp h2)
    exact ⟨z, List.mem_range.mpr hz, e⟩
  · rintro ⟨z, hz, rfl⟩
    exact ⟨eN_even.2, (hf _ eN_even.2).mpr eN_even.1⟩
theorem eN_zero : N.sumR 0 N.chords 0 = 0 := by
  have h := eN_xor (N := N) 0 0
  rw [Nat.xor_self, Nat.xor_self] at h
  exact h
theorem xorL_even : ∀ {rs : List Nat}, (∀ r ∈ rs, N.Even r ∧ r < 2 ^ N.n) → N.Even (xorL rs) ∧ xorL rs < 2 ^ N.n
  | [], _ => ⟨Even.zero, Nat.two_pow_pos _⟩
  | r :: l, h => by
    rw [xorL_cons]
    obtain ⟨h1, h2⟩ := xorL_even fun x hx => h x (List.mem_cons_of_mem _ hx)
    obtain ⟨h3, h4⟩ := h r List.mem_cons_self
    exact ⟨Even.xor h3 h1, Nat.xor_lt_two_pow h4 h2⟩
theorem xorL_chord {d : Nat} (hd : N.inF d = false) : ∀ {l : List Nat}, l.Nodup → (∀ c ∈ l, N.inF c = false) → (xorL (l.map N.ring)).testBit d = decide (d ∈ l)
  | [], _, _ => by simp [xorL]
  | c :: r, hn, hf => by
    obtain ⟨n1, n2⟩ := List.nodup_cons.mp hn
    rw [List.map_cons, xorL_cons, Nat.testBit_xor, xorL_chord hd n2 fun e he => hf e (List.mem_cons_of_mem _ he), ring_chord (hf c List.mem_cons_self) hd]
    by_cases e : c = d
    · subst e
      simp [n1]
    · have : ¬ d = c := fun z => e z.symm
      simp [e, this]
theorem by_chords {m : Nat} (hm : m < 2 ^ N.n) (ev : N.Even m) : xorL ((N.chords.filter fun d => m.testBit d).map N.ring) = m := by
  have hx : N.Even (xorL ((N.chords.filter fun d => m.testBit d).map N.ring)) ∧ xorL ((N.chords.filter fun d => m.testBit d).map N.ring) < 2 ^ N.n := xorL_even fun r hr => by
    obtain ⟨c, hc, rfl⟩ := List.mem_map.mp hr
    obtain ⟨c1, c2⟩ := chords_mem.mp (List.mem_filter.mp hc).1
    exact ⟨ring_even c1, ring_lt c1⟩
  refine even_one hx.2 hm hx.1 ev fun c hc hf => ?_
  rw [xorL_chord hf (List.Pairwise.filter _ chords_nd) fun d hd => (chords_mem.mp (List.mem_filter.mp hd).1).2]
  cases q : m.testBit c with
  | true => exact decide_eq_true (List.mem_filter.mpr ⟨chords_mem.mpr ⟨hc, hf⟩, q⟩)
  | false => exact decide_eq_false fun z => by rw [(List.mem_filter.mp z).2] at q; cases q
theorem ring_ring {c : Nat} (hc : c < N.n) (hf : N.inF c = false) : N.Ring (N.ring c) := by
  refine ⟨fun z => ?_, ring_even hc, fun q hq ev => ?_⟩
  · have h := ring_own hf
    rw [z] at h
    simp at h
  · have hqn : q < 2 ^ N.n := lt_of_bits fun k hk => bits_lt (ring_lt hc) (hq k hk)
    cases qc : q.testBit c with
    | true =>
      refine .inr (even_one hqn (ring_lt hc) ev (ring_even hc) fun d hd hfd => ?_)
      rw [ring_chord hf hfd]
      by_cases e : c = d
      · subst e
        simp [qc]
      · rw [decide_eq_false e]
        cases qd : q.testBit d with
        | false => rfl
        | true =>
          have := hq d qd
          rw [ring_chord hf hfd, decide_eq_false e] at this
          cases this
    | false =>
      refine .inl (forest_empty (fun k hk => ?_) ev)
      rcases ring_bit (hq k hk) with e | e
      · subst e
        rw [qc] at hk
        cases hk
      · exact e
theorem xorL_some {k : Nat} : ∀ {rs : List Nat}, (xorL rs).testBit k = true → ∃ r ∈ rs, r.testBit k = true
  | [], h => by simp [xorL] at h
  | r :: l, h => by
    rw [xorL_cons, Nat.testBit_xor] at h
    cases q : r.testBit k with
    | true => exact ⟨r, List.mem_cons_self, q⟩
    | false =>
      rw [q, Bool.false_xor] at h
      obtain ⟨x, hx, e⟩ := xorL_some h
      exact ⟨x, List.mem_cons_of_mem _ hx, e⟩
theorem and_none {x y k : Nat} (h : x &&& y = 0) (hx : x.testBit k = true) (hy : y.testBit k = true) : False := by
  have := congrArg (fun n => n.testBit k) h
  simp [Nat.testBit_and, hx, hy] at this
theorem xorL_in {k : Nat} : ∀ {rs : List Nat}, rs.Pairwise (fun x y => x &&& y = 0) → ∀ r ∈ rs, r.testBit k = true → (xorL rs).testBit k = true
  | [], _, _, h, _ => nomatch h
  | r :: l, hp, x, hx, hk => by
    obtain ⟨h1, h2⟩ := List.pairwise_cons.mp hp
    rw [xorL_cons, Nat.testBit_xor]
    rcases List.mem_cons.mp hx with e | hx
    · subst e
      have : (xorL l).testBit k = false := by
        cases q : (xorL l).testBit k with
        | false => rfl
        | true =>
          obtain ⟨y, hy, e⟩ := xorL_some q
          exact (and_none (h1 y hy) hk e).elim
      rw [hk, this]
      rfl
    · have : r.testBit k = false := by
        cases q : r.testBit k with
        | false => rfl
        | true => exact (and_none (h1 x hx) q hk).elim
      rw [this, Bool.false_xor]
      exact xorL_in h2 x hx hk
theorem parted_one {m : Nat} {rs : List Nat} (hr : ∀ r ∈ rs, N.Ring r) (hp : rs.Pairwise (fun x y => x &&& y = 0)) (hx : xorL rs = m) : N.Ring m ↔ rs.length = 1 := by
  constructor
  · intro R
    have all : ∀ r ∈ rs, r = m := fun r h => by
      rcases R.2.2 r (fun k hk => by rw [← hx]; exact xorL_in hp r h hk) (hr r h).2.1 with z | z
      · exact absurd z (hr r h).1
      · exact z
    match rs, hr, hp, hx, all with
    | [], _, _, hx, _ => exact absurd hx.symm R.1
    | [_], _, _, _, _ => rfl
    | x :: y :: _, hr, hp, _, all =>
      have h1 := all x List.mem_cons_self
      have h2 := all y (List.mem_cons_of_mem _ List.mem_cons_self)
      have h3 := (List.pairwise_cons.mp hp).1 y List.mem_cons_self
      rw [h1, h2, Nat.and_self] at h3
      exact absurd h3 R.1
  · intro h
    match rs, h, hr, hx with
    | [r], _, hr, hx =>
      have e : r = m := by rw [← hx, xorL_cons]; simp [xorL]
      rw [← e]
      exact hr r List.mem_cons_self
end RM

namespace L2
open PySem
theorem for_range' {lo : Int} {n : Nat} {g : TG} {tb : TS} {D : Ends} {σ : St} {H : Hp} (Pv : Nat → St → Hp → Prop) (h0 : Pv 0 σ H)
    (hs : ∀ i, let D' : Ends := { D with nx := Pv (i + 1), ct := Pv (i + 1), bk := D.nx }; ∀ σ H, i < n → Pv i σ H → g (.int (lo + i)) σ H fun σ2 H2 => tb D' σ2 H2) (hd : ∀ σ H, Pv n σ H → D.nx σ H) :
    ∃ W : Nat → Nat → St → Hp → Prop, (∃ m, W 0 m σ H) ∧ ∀ i m σ H, W i m σ H →
      ((Itr lo n).stop i H ∧ D.nx σ H) ∨ ((Itr lo n).go i H ∧ ∃ N : St → Hp → Prop, (∀ σ' H', N σ' H' → ∃ m', m' < m ∧ W (i + 1) m' σ' H') ∧ ∀ x H', (Itr lo n).yld i H x H' → g x σ H' fun σ2 H2 => tb { D with nx := N, ct := N, bk := D.nx } σ2 H2) :=
  for_range Pv h0 (fun i σ H hi p => hs i σ H hi p) hd
theorem for_list' {K : PySem.W.Frag} {a : Addr} {xs : List V} {g : TG} {tb : TS} {D : Ends} {σ : St} {H : Hp} (Pv : Nat → St → Hp → Prop) (h0 : Pv 0 σ H) (hl : ∀ i σ H, i ≤ xs.length → Pv i σ H → SqL K H a xs)
    (hs : ∀ i x, let D' : Ends := { D with nx := Pv (i + 1), ct := Pv (i + 1), bk := D.nx }; ∀ σ H, xs[i]? = some x → Pv i σ H → g x σ H fun σ2 H2 => tb D' σ2 H2) (hd : ∀ σ H, Pv xs.length σ H → D.nx σ H) :
    ∃ W : Nat → Nat → St → Hp → Prop, (∃ m, W 0 m σ H) ∧ ∀ i m σ H, W i m σ H →
      ((Itl K a).stop i H ∧ D.nx σ H) ∨ ((Itl K a).go i H ∧ ∃ N : St → Hp → Prop, (∀ σ' H', N σ' H' → ∃ m', m' < m ∧ W (i + 1) m' σ' H') ∧ ∀ x H', (Itl K a).yld i H x H' → g x σ H' fun σ2 H2 => tb { D with nx := N, ct := N, bk := D.nx } σ2 H2) :=
  for_list Pv h0 hl (fun i x σ H hi p => hs i x σ H hi p) hd
theorem bmK {X : Cx} {e : Expr} {T : String} {r : V → List V → Hp → VK → Prop} {to : TE} {t : TA} (K : PySem.W.Frag) (p : PE X e (tBM X.K T r to t)) (h : X.K = K := by rfl) : PE X e (tBM K T r to t) := by subst h; exact p
end L2

namespace L2
open PySem
theorem ixq {K : PySem.W.Frag} {H : Hp} {a : Addr} {xs : List V} {k : Int} {v : V} {R : V → Prop} (hs : SqT K H a xs) (ha : atI xs k = some v) (q : R v) : ∃ p ys k' w, V.ref a = .ref p ∧ V.int k = .int k' ∧ SqT K H p ys ∧ atI ys k' = some w ∧ R w := ⟨a, xs, k, v, rfl, rfl, hs, ha, q⟩
theorem ixl {K : PySem.W.Frag} {H : Hp} {a : Addr} {xs : List V} {k : Int} {v : V} {R : V → Prop} (hs : SqL K H a xs) (ha : atI xs k = some v) (q : R v) : ∃ p ys k' w, V.ref a = .ref p ∧ V.int k = .int k' ∧ SqL K H p ys ∧ atI ys k' = some w ∧ R w := ⟨a, xs, k, v, rfl, rfl, hs, ha, q⟩
theorem ijq {i j : Int} {R : Int → Int → Prop} (h : R i j) : ∃ i' j', V.int i = .int i' ∧ V.int j = .int j' ∧ R i' j' := ⟨i, j, rfl, rfl, h⟩
end L2
namespace L2
open PySem
theorem lnq {K : PySem.W.Frag} {H : Hp} {a : Addr} {xs : List V} {E : Addr → Prop} {R : List V → Prop} (e : E a) (h : SqL K H a xs ∨ SqT K H a xs) (q : R xs) : ∃ p ys, E p ∧ (SqL K H p ys ∨ SqT K H p ys) ∧ R ys := ⟨a, xs, e, h, q⟩
theorem exq {α : Type} {A R : α → Prop} {x : α} (h : A x) (r : R x) : ∃ x, A x ∧ R x := ⟨x, h, r⟩
end L2

namespace L2
open PySem PySem.Spec PyProof.Rows
section
variable {P : Program} {w : World} {K : PySem.W.Frag} {mg : Str → Option Value} {base : Heap}
end
end L2

set_option Elab.async false
set_option maxRecDepth 100000
set_option maxHeartbeats 4000000
namespace K13
open PySem L2 Ring
def top (i : Nat) : Stmt := PySem.Challenge.pw_ringbase_k13_whole_even_sets.main.body.getD i (.Pass ⟨0, 0, 0, 0⟩)
abbrev s_has_tie : Stmt := top 7
theorem sc_has_tie : FnScope ["tie_set", "tie"] ["tie_set", "tie"] (defScope s_has_tie) := ⟨rfl, rfl, rfl, by decide +kernel, rfl, by decide +kernel, by decide +kernel⟩
abbrev s_ties_in : Stmt := top 8
theorem sc_ties_in : FnScope ["tie_set"] ["tie_set"] (defScope s_ties_in) := ⟨rfl, rfl, rfl, by decide +kernel, rfl, by decide +kernel, by decide +kernel⟩
abbrev s_set_of : Stmt := top 9
theorem sc_set_of : FnScope ["web", "ties", "found", "tie"] ["web", "ties"] (defScope s_set_of) := ⟨rfl, rfl, rfl, by decide +kernel, rfl, by decide +kernel, by decide +kernel⟩
theorem hd_set_of {sa0 sa1 sa2 sa3 : TS} {sc0 : TT} {si0 : TI} {sg0 : TG} {D : Ends} {σ : St} {H : Hp} (h : let zz0 : TS := sa0; let zz1 : TS := sa1; let zz2 : TS := sa2; let zz3 : TS := (tSeq (tIfS sc0 zz2 tNext) zz1); let zz4 : TS := (tSeq (tFor si0 sg0 zz3) zz0); (tSeq sa3 zz4) D σ H) : (tSeq sa3 (tSeq (tFor si0 sg0 (tSeq (tIfS sc0 sa2 tNext) sa1)) sa0)) D σ H := h
abbrev s_all_ties : Stmt := top 10
theorem sc_all_ties : FnScope ["web"] ["web"] (defScope s_all_ties) := ⟨rfl, rfl, rfl, by decide +kernel, rfl, by decide +kernel, by decide +kernel⟩
abbrev s_is_set : Stmt := top 11
theorem sc_is_set : FnScope ["web", "number"] ["web", "number"] (defScope s_is_set) := ⟨rfl, rfl, rfl, by decide +kernel, rfl, by decide +kernel, by decide +kernel⟩
abbrev s_check_set : Stmt := top 12
theorem sc_check_set : FnScope ["web", "tie_set"] ["web", "tie_set"] (defScope s_check_set) := ⟨rfl, rfl, rfl, by decide +kernel, rfl, by decide +kernel, by decide +kernel⟩
theorem hd_check_set {sa0 : TS} {sc0 : TT} {D : Ends} {σ : St} {H : Hp} (h : let zz0 : TS := sa0; (tIfS sc0 zz0 tNext) D σ H) : (tIfS sc0 sa0 tNext) D σ H := h
abbrev s_triples_in : Stmt := top 13
theorem sc_triples_in : FnScope ["web", "tie_set"] ["web", "tie_set"] (defScope s_triples_in) := ⟨rfl, rfl, rfl, by decide +kernel, rfl, by decide +kernel, by decide +kernel⟩
theorem hd_triples_in {sa0 sa1 : TS} {D : Ends} {σ : St} {H : Hp} (h : let zz0 : TS := sa0; (tSeq sa1 zz0) D σ H) : (tSeq sa1 sa0) D σ H := h
abbrev s_odd_points : Stmt := top 14
theorem sc_odd_points : FnScope ["web", "tie_set", "ends", "one", "other", "length"] ["web", "tie_set"] (defScope s_odd_points) := ⟨rfl, rfl, rfl, by decide +kernel, rfl, by decide +kernel, by decide +kernel⟩
theorem hd_odd_points {sa0 sa1 sa2 sa3 : TS} {si0 : TI} {sg0 : TG} {D : Ends} {σ : St} {H : Hp} (h : let zz0 : TS := sa0; let zz1 : TS := sa1; let zz2 : TS := (tSeq sa2 zz1); let zz3 : TS := (tSeq (tFor si0 sg0 zz2) zz0); (tSeq sa3 zz3) D σ H) : (tSeq sa3 (tSeq (tFor si0 sg0 (tSeq sa2 sa1)) sa0)) D σ H := h
abbrev s_drawn_together : Stmt := top 15
theorem sc_drawn_together : FnScope ["leasts", "one", "other", "low", "high"] ["leasts", "one", "other"] (defScope s_drawn_together) := ⟨rfl, rfl, rfl, by decide +kernel, rfl, by decide +kernel, by decide +kernel⟩
theorem hd_drawn_together {sa0 sa1 sa2 : TS} {D : Ends} {σ : St} {H : Hp} (h : let zz0 : TS := sa0; let zz1 : TS := (tSeq sa1 zz0); (tSeq sa2 zz1) D σ H) : (tSeq sa2 (tSeq sa1 sa0)) D σ H := h
abbrev s_pieces : Stmt := top 16
theorem sc_pieces : FnScope ["web", "tie_set", "leasts", "one", "other", "length", "found", "start"] ["web", "tie_set"] (defScope s_pieces) := ⟨rfl, rfl, rfl, by decide +kernel, rfl, by decide +kernel, by decide +kernel⟩
theorem hd_pieces {sa0 sa1 sa2 sa3 sa4 : TS} {sc0 : TT} {si0 si1 : TI} {sg0 sg1 : TG} {D : Ends} {σ : St} {H : Hp} (h : let zz0 : TS := sa0; let zz1 : TS := sa1; let zz2 : TS := (tIfS sc0 zz1 tNext); let zz3 : TS := (tSeq (tFor si0 sg0 zz2) zz0); let zz4 : TS := (tSeq sa2 zz3); let zz5 : TS := sa3; let zz6 : TS := (tSeq (tFor si1 sg1 zz5) zz4); (tSeq sa4 zz6) D σ H) : (tSeq sa4 (tSeq (tFor si1 sg1 sa3) (tSeq sa2 (tSeq (tFor si0 sg0 (tIfS sc0 sa1 tNext)) sa0)))) D σ H := h
abbrev s_rank : Stmt := top 17
theorem sc_rank : FnScope ["web"] ["web"] (defScope s_rank) := ⟨rfl, rfl, rfl, by decide +kernel, rfl, by decide +kernel, by decide +kernel⟩
abbrev s_is_even : Stmt := top 19
theorem sc_is_even : FnScope ["web", "tie_set"] ["web", "tie_set"] (defScope s_is_even) := ⟨rfl, rfl, rfl, by decide +kernel, rfl, by decide +kernel, by decide +kernel⟩
abbrev s_check_even : Stmt := top 20
theorem sc_check_even : FnScope ["web", "tie_set", "odd"] ["web", "tie_set"] (defScope s_check_even) := ⟨rfl, rfl, rfl, by decide +kernel, rfl, by decide +kernel, by decide +kernel⟩
theorem hd_check_even {sa0 sa1 : TS} {sc0 : TT} {D : Ends} {σ : St} {H : Hp} (h : let zz0 : TS := sa0; let zz1 : TS := (tIfS sc0 zz0 tNext); (tSeq sa1 zz1) D σ H) : (tSeq sa1 (tIfS sc0 sa0 tNext)) D σ H := h
abbrev s_forest_trails : Stmt := top 21
theorem sc_forest_trails : FnScope ["web", "leasts", "trails", "tie", "one", "other", "bridge", "moved"] ["web"] (defScope s_forest_trails) := ⟨rfl, rfl, rfl, by decide +kernel, rfl, by decide +kernel, by decide +kernel⟩
theorem hd_forest_trails {sa0 sa1 sa2 sa3 sa4 sa5 sa6 sa7 sa8 : TS} {sc0 : TT} {si0 : TI} {sg0 : TG} {D : Ends} {σ : St} {H : Hp} (h : let zz0 : TS := sa0; let zz1 : TS := sa1; let zz2 : TS := (tSeq sa2 zz1); let zz3 : TS := (tSeq sa3 zz2); let zz4 : TS := (tSeq sa4 zz3); let zz5 : TS := (tIfS sc0 zz4 tNext); let zz6 : TS := (tSeq sa5 zz5); let zz7 : TS := (tSeq sa6 zz6); let zz8 : TS := (tSeq (tFor si0 sg0 zz7) zz0); let zz9 : TS := (tSeq sa7 zz8); (tSeq sa8 zz9) D σ H) : (tSeq sa8 (tSeq sa7 (tSeq (tFor si0 sg0 (tSeq sa6 (tSeq sa5 (tIfS sc0 (tSeq sa4 (tSeq sa3 (tSeq sa2 sa1))) tNext)))) sa0))) D σ H := h
abbrev s_forest : Stmt := top 22
theorem sc_forest : FnScope ["web", "found", "trail"] ["web"] (defScope s_forest) := ⟨rfl, rfl, rfl, by decide +kernel, rfl, by decide +kernel, by decide +kernel⟩
theorem hd_forest {sa0 sa1 sa2 : TS} {si0 : TI} {sg0 : TG} {D : Ends} {σ : St} {H : Hp} (h : let zz0 : TS := sa0; let zz1 : TS := sa1; let zz2 : TS := (tSeq (tFor si0 sg0 zz1) zz0); (tSeq sa2 zz2) D σ H) : (tSeq sa2 (tSeq (tFor si0 sg0 sa1) sa0)) D σ H := h
abbrev s_chords : Stmt := top 23
theorem sc_chords : FnScope ["web"] ["web"] (defScope s_chords) := ⟨rfl, rfl, rfl, by decide +kernel, rfl, by decide +kernel, by decide +kernel⟩
abbrev s_ring_closed : Stmt := top 24
theorem sc_ring_closed : FnScope ["web", "trails", "chord", "tie"] ["web", "trails", "chord"] (defScope s_ring_closed) := ⟨rfl, rfl, rfl, by decide +kernel, rfl, by decide +kernel, by decide +kernel⟩
theorem hd_ring_closed {sa0 sa1 : TS} {D : Ends} {σ : St} {H : Hp} (h : let zz0 : TS := sa0; (tSeq sa1 zz0) D σ H) : (tSeq sa1 sa0) D σ H := h
abbrev s_chord_ring : Stmt := top 25
theorem sc_chord_ring : FnScope ["web", "tie"] ["web", "tie"] (defScope s_chord_ring) := ⟨rfl, rfl, rfl, by decide +kernel, rfl, by decide +kernel, by decide +kernel⟩
theorem hd_chord_ring {sa0 sa1 : TS} {sc0 : TT} {D : Ends} {σ : St} {H : Hp} (h : let zz0 : TS := sa0; let zz1 : TS := sa1; (tSeq (tIfS sc0 zz1 tNext) zz0) D σ H) : (tSeq (tIfS sc0 sa1 tNext) sa0) D σ H := h
abbrev s_by_chords : Stmt := top 26
theorem sc_by_chords : FnScope ["web", "tie_set"] ["web", "tie_set"] (defScope s_by_chords) := ⟨rfl, rfl, rfl, by decide +kernel, rfl, by decide +kernel, by decide +kernel⟩
theorem hd_by_chords {sa0 sa1 : TS} {D : Ends} {σ : St} {H : Hp} (h : let zz0 : TS := sa0; (tSeq sa1 zz0) D σ H) : (tSeq sa1 sa0) D σ H := h
abbrev s_even_numbered : Stmt := top 27
theorem sc_even_numbered : FnScope ["web", "number", "trails", "found", "place", "chord"] ["web", "number"] (defScope s_even_numbered) := ⟨rfl, rfl, rfl, by decide +kernel, rfl, by decide +kernel, by decide +kernel⟩
theorem hd_even_numbered {sa0 sa1 sa2 sa3 sa4 : TS} {sc0 sc1 : TT} {si0 : TI} {sg0 : TG} {D : Ends} {σ : St} {H : Hp} (h : let zz0 : TS := sa0; let zz1 : TS := sa1; let zz2 : TS := (tIfS sc0 zz1 tNext); let zz3 : TS := (tSeq (tFor si0 sg0 zz2) zz0); let zz4 : TS := (tSeq sa2 zz3); let zz5 : TS := (tSeq sa3 zz4); let zz6 : TS := sa4; (tSeq (tIfS sc1 zz6 tNext) zz5) D σ H) : (tSeq (tIfS sc1 sa4 tNext) (tSeq sa3 (tSeq sa2 (tSeq (tFor si0 sg0 (tIfS sc0 sa1 tNext)) sa0)))) D σ H := h
abbrev s_number_of_even : Stmt := top 28
theorem sc_number_of_even : FnScope ["web", "tie_set", "found", "place", "chord"] ["web", "tie_set"] (defScope s_number_of_even) := ⟨rfl, rfl, rfl, by decide +kernel, rfl, by decide +kernel, by decide +kernel⟩
theorem hd_number_of_even {sa0 sa1 sa2 sa3 : TS} {sc0 : TT} {si0 : TI} {sg0 : TG} {D : Ends} {σ : St} {H : Hp} (h : let zz0 : TS := sa0; let zz1 : TS := sa1; let zz2 : TS := (tIfS sc0 zz1 tNext); let zz3 : TS := (tSeq (tFor si0 sg0 zz2) zz0); let zz4 : TS := (tSeq sa2 zz3); (tSeq sa3 zz4) D σ H) : (tSeq sa3 (tSeq sa2 (tSeq (tFor si0 sg0 (tIfS sc0 sa1 tNext)) sa0))) D σ H := h
abbrev s_is_ring : Stmt := top 30
theorem sc_is_ring : FnScope ["web", "tie_set", "touched"] ["web", "tie_set"] (defScope s_is_ring) := ⟨rfl, rfl, rfl, by decide +kernel, rfl, by decide +kernel, by decide +kernel⟩
theorem hd_is_ring {sa0 sa1 sa2 : TS} {sc0 : TT} {D : Ends} {σ : St} {H : Hp} (h : let zz0 : TS := sa0; let zz1 : TS := (tSeq sa1 zz0); let zz2 : TS := sa2; (tSeq (tIfS sc0 zz2 tNext) zz1) D σ H) : (tSeq (tIfS sc0 sa2 tNext) (tSeq sa1 sa0)) D σ H := h
abbrev s_tie_at : Stmt := top 31
theorem sc_tie_at : FnScope ["web", "tie_set", "point"] ["web", "tie_set", "point"] (defScope s_tie_at) := ⟨rfl, rfl, rfl, by decide +kernel, rfl, by decide +kernel, by decide +kernel⟩
abbrev s_far_end : Stmt := top 32
theorem sc_far_end : FnScope ["web", "tie", "point", "ends"] ["web", "tie", "point"] (defScope s_far_end) := ⟨rfl, rfl, rfl, by decide +kernel, rfl, by decide +kernel, by decide +kernel⟩
theorem hd_far_end {sa0 sa1 : TS} {D : Ends} {σ : St} {H : Hp} (h : let zz0 : TS := sa0; (tSeq sa1 zz0) D σ H) : (tSeq sa1 sa0) D σ H := h
abbrev s_ring_within : Stmt := top 33
theorem sc_ring_within : FnScope ["web", "even", "points", "ties", "left", "tie"] ["web", "even"] (defScope s_ring_within) := ⟨rfl, rfl, rfl, by decide +kernel, rfl, by decide +kernel, by decide +kernel⟩
theorem hd_ring_within {sa0 sa1 sa2 sa3 sa4 sa5 sa6 sa7 : TS} {sc0 : TT} {D : Ends} {σ : St} {H : Hp} (h : let zz0 : TS := sa0; let zz1 : TS := sa1; let zz2 : TS := (tSeq sa2 zz1); let zz3 : TS := (tSeq sa3 zz2); let zz4 : TS := (tSeq sa4 zz3); let zz5 : TS := (tSeq (tWhile sc0 zz4) zz0); let zz6 : TS := (tSeq sa5 zz5); let zz7 : TS := (tSeq sa6 zz6); (tSeq sa7 zz7) D σ H) : (tSeq sa7 (tSeq sa6 (tSeq sa5 (tSeq (tWhile sc0 (tSeq sa4 (tSeq sa3 (tSeq sa2 sa1)))) sa0)))) D σ H := h
abbrev s_parted : Stmt := top 34
theorem sc_parted : FnScope ["web", "tie_set", "found", "left", "ring"] ["web", "tie_set"] (defScope s_parted) := ⟨rfl, rfl, rfl, by decide +kernel, rfl, by decide +kernel, by decide +kernel⟩
theorem hd_parted {sa0 sa1 sa2 sa3 sa4 sa5 sa6 : TS} {sc0 : TT} {D : Ends} {σ : St} {H : Hp} (h : let zz0 : TS := sa0; let zz1 : TS := sa1; let zz2 : TS := (tSeq sa2 zz1); let zz3 : TS := (tSeq sa3 zz2); let zz4 : TS := (tSeq (tWhile sc0 zz3) zz0); let zz5 : TS := (tSeq sa4 zz4); let zz6 : TS := (tSeq sa5 zz5); (tSeq sa6 zz6) D σ H) : (tSeq sa6 (tSeq sa5 (tSeq sa4 (tSeq (tWhile sc0 (tSeq sa3 (tSeq sa2 sa1))) sa0)))) D σ H := h
abbrev s_law_cell : Stmt := top 36
theorem sc_law_cell : FnScope ["script", "k"] ["script", "k"] (defScope s_law_cell) := ⟨rfl, rfl, rfl, by decide +kernel, rfl, by decide +kernel, by decide +kernel⟩
theorem hd_law_cell {sa0 sa1 : TS} {sc0 : TT} {D : Ends} {σ : St} {H : Hp} (h : let zz0 : TS := sa0; let zz1 : TS := sa1; (tSeq (tIfS sc0 zz1 tNext) zz0) D σ H) : (tSeq (tIfS sc0 sa1 tNext) sa0) D σ H := h
abbrev s_law_stir : Stmt := top 37
theorem sc_law_stir : FnScope ["cell", "k", "near"] ["cell", "k"] (defScope s_law_stir) := ⟨rfl, rfl, rfl, by decide +kernel, rfl, by decide +kernel, by decide +kernel⟩
theorem hd_law_stir {sa0 sa1 sa2 : TS} {D : Ends} {σ : St} {H : Hp} (h : let zz0 : TS := sa0; let zz1 : TS := (tSeq sa1 zz0); (tSeq sa2 zz1) D σ H) : (tSeq sa2 (tSeq sa1 sa0)) D σ H := h
abbrev s_law_tie : Stmt := top 38
theorem sc_law_tie : FnScope ["c", "points", "times", "one", "other"] ["c", "points", "times"] (defScope s_law_tie) := ⟨rfl, rfl, rfl, by decide +kernel, rfl, by decide +kernel, by decide +kernel⟩
theorem hd_law_tie {sa0 sa1 sa2 sa3 sa4 : TS} {D : Ends} {σ : St} {H : Hp} (h : let zz0 : TS := sa0; let zz1 : TS := (tSeq sa1 zz0); let zz2 : TS := (tSeq sa2 zz1); let zz3 : TS := (tSeq sa3 zz2); (tSeq sa4 zz3) D σ H) : (tSeq sa4 (tSeq sa3 (tSeq sa2 (tSeq sa1 sa0)))) D σ H := h
abbrev s_law_web : Stmt := top 39
theorem sc_law_web : FnScope ["script", "most", "head", "points", "times", "ties", "c", "k", "tie"] ["script", "most"] (defScope s_law_web) := ⟨rfl, rfl, rfl, by decide +kernel, rfl, by decide +kernel, by decide +kernel⟩
theorem hd_law_web {sa0 sa1 sa2 sa3 sa4 sa5 sa6 sa7 sa8 : TS} {sc0 sc1 : TT} {si0 si1 : TI} {sg0 sg1 : TG} {D : Ends} {σ : St} {H : Hp} (h : let zz0 : TS := sa0; let zz1 : TS := sa1; let zz2 : TS := (tFor si0 sg0 zz1); let zz3 : TS := (tSeq (tIfS sc0 zz2 tNext) zz0); let zz4 : TS := sa2; let zz5 : TS := (tSeq sa3 zz4); let zz6 : TS := (tFor si1 sg1 zz5); let zz7 : TS := (tSeq sa4 zz6); let zz8 : TS := (tSeq (tIfS sc1 zz7 tNext) zz3); let zz9 : TS := (tSeq sa5 zz8); let zz10 : TS := (tSeq sa6 zz9); let zz11 : TS := (tSeq sa7 zz10); (tSeq sa8 zz11) D σ H) : (tSeq sa8 (tSeq sa7 (tSeq sa6 (tSeq sa5 (tSeq (tIfS sc1 (tSeq sa4 (tFor si1 sg1 (tSeq sa3 sa2))) tNext) (tSeq (tIfS sc0 (tFor si0 sg0 sa1) tNext) sa0)))))) D σ H := h
abbrev s_law_ties : Stmt := top 40
theorem sc_law_ties : FnScope ["some"] ["some"] (defScope s_law_ties) := ⟨rfl, rfl, rfl, by decide +kernel, rfl, by decide +kernel, by decide +kernel⟩
abbrev s_law_odd : Stmt := top 41
theorem sc_law_odd : FnScope ["web", "some", "ends", "tie", "point"] ["web", "some"] (defScope s_law_odd) := ⟨rfl, rfl, rfl, by decide +kernel, rfl, by decide +kernel, by decide +kernel⟩
theorem hd_law_odd {sa0 sa1 sa2 : TS} {si0 si1 : TI} {sg0 sg1 : TG} {D : Ends} {σ : St} {H : Hp} (h : let zz0 : TS := sa0; let zz1 : TS := sa1; let zz2 : TS := (tFor si1 sg1 zz1); let zz3 : TS := (tSeq (tFor si0 sg0 zz2) zz0); (tSeq sa2 zz3) D σ H) : (tSeq sa2 (tSeq (tFor si0 sg0 (tFor si1 sg1 sa1)) sa0)) D σ H := h
abbrev s_law_sum : Stmt := top 42
theorem sc_law_sum : FnScope ["rings", "found", "ring"] ["rings"] (defScope s_law_sum) := ⟨rfl, rfl, rfl, by decide +kernel, rfl, by decide +kernel, by decide +kernel⟩
theorem hd_law_sum {sa0 sa1 sa2 : TS} {si0 : TI} {sg0 : TG} {D : Ends} {σ : St} {H : Hp} (h : let zz0 : TS := sa0; let zz1 : TS := sa1; let zz2 : TS := (tSeq (tFor si0 sg0 zz1) zz0); (tSeq sa2 zz2) D σ H) : (tSeq sa2 (tSeq (tFor si0 sg0 sa1) sa0)) D σ H := h
abbrev s_law_fine : Stmt := top 43
theorem sc_law_fine : FnScope ["web", "some", "rings", "ring"] ["web", "some"] (defScope s_law_fine) := ⟨rfl, rfl, rfl, by decide +kernel, rfl, by decide +kernel, by decide +kernel⟩
theorem hd_law_fine {sa0 sa1 sa2 sa3 : TS} {sc0 sc1 : TT} {si0 : TI} {sg0 : TG} {D : Ends} {σ : St} {H : Hp} (h : let zz0 : TS := sa0; let zz1 : TS := sa1; let zz2 : TS := (tIfS sc0 zz1 tNext); let zz3 : TS := (tSeq (tFor si0 sg0 zz2) zz0); let zz4 : TS := sa2; let zz5 : TS := (tSeq (tIfS sc1 zz4 tNext) zz3); (tSeq sa3 zz5) D σ H) : (tSeq sa3 (tSeq (tIfS sc1 sa2 tNext) (tSeq (tFor si0 sg0 (tIfS sc0 sa1 tNext)) sa0))) D σ H := h
abbrev s_law : Stmt := top 44
theorem sc_law : FnScope ["script", "web", "many", "due", "found", "number", "other"] ["script"] (defScope s_law) := ⟨rfl, rfl, rfl, by decide +kernel, rfl, by decide +kernel, by decide +kernel⟩
theorem hd_law {sa0 sa1 sa2 sa3 sa4 sa5 sa6 sa7 sa8 sa9 : TS} {sc0 sc1 sc2 sc3 : TT} {si0 : TI} {sg0 : TG} {D : Ends} {σ : St} {H : Hp} (h : let zz0 : TS := sa0; let zz1 : TS := sa1; let zz2 : TS := (tIfS sc0 zz1 tNext); let zz3 : TS := sa2; let zz4 : TS := (tSeq (tIfS sc1 zz3 tNext) zz2); let zz5 : TS := sa3; let zz6 : TS := (tSeq (tIfS sc2 zz5 tNext) zz4); let zz7 : TS := (tSeq sa4 zz6); let zz8 : TS := (tSeq (tFor si0 sg0 zz7) zz0); let zz9 : TS := sa5; let zz10 : TS := (tSeq (tIfS sc3 zz9 tNext) zz8); let zz11 : TS := (tSeq sa6 zz10); let zz12 : TS := (tSeq sa7 zz11); let zz13 : TS := (tSeq sa8 zz12); (tSeq sa9 zz13) D σ H) : (tSeq sa9 (tSeq sa8 (tSeq sa7 (tSeq sa6 (tSeq (tIfS sc3 sa5 tNext) (tSeq (tFor si0 sg0 (tSeq sa4 (tSeq (tIfS sc2 sa3 tNext) (tSeq (tIfS sc1 sa2 tNext) (tIfS sc0 sa1 tNext))))) sa0)))))) D σ H := h
set_option genInjectivity false
set_option genSizeOf false
structure Adr where
  f_has_tie : Addr
  d_has_tie : FuncData
  f_ties_in : Addr
  d_ties_in : FuncData
  f_set_of : Addr
  d_set_of : FuncData
  f_all_ties : Addr
  d_all_ties : FuncData
  f_is_set : Addr
  d_is_set : FuncData
  f_check_set : Addr
  d_check_set : FuncData
  f_triples_in : Addr
  d_triples_in : FuncData
  f_odd_points : Addr
  d_odd_points : FuncData
  f_drawn_together : Addr
  d_drawn_together : FuncData
  f_pieces : Addr
  d_pieces : FuncData
  f_rank : Addr
  d_rank : FuncData
  f_is_even : Addr
  d_is_even : FuncData
  f_check_even : Addr
  d_check_even : FuncData
  f_forest_trails : Addr
  d_forest_trails : FuncData
  f_forest : Addr
  d_forest : FuncData
  f_chords : Addr
  d_chords : FuncData
  f_ring_closed : Addr
  d_ring_closed : FuncData
  f_chord_ring : Addr
  d_chord_ring : FuncData
  f_by_chords : Addr
  d_by_chords : FuncData
  f_even_numbered : Addr
  d_even_numbered : FuncData
  f_number_of_even : Addr
  d_number_of_even : FuncData
  f_is_ring : Addr
  d_is_ring : FuncData
  f_tie_at : Addr
  d_tie_at : FuncData
  f_far_end : Addr
  d_far_end : FuncData
  f_ring_within : Addr
  d_ring_within : FuncData
  f_parted : Addr
  d_parted : FuncData
  f_law_cell : Addr
  d_law_cell : FuncData
  f_law_stir : Addr
  d_law_stir : FuncData
  f_law_tie : Addr
  d_law_tie : FuncData
  f_law_web : Addr
  d_law_web : FuncData
  f_law_ties : Addr
  d_law_ties : FuncData
  f_law_odd : Addr
  d_law_odd : FuncData
  f_law_sum : Addr
  d_law_sum : FuncData
  f_law_fine : Addr
  d_law_fine : FuncData
  f_law : Addr
  d_law : FuncData
  c_BadSet : Addr
  c_NoChord : Addr
  c_NoSuch : Addr
  c_NotEven : Addr
structure Txt (K : PySem.W.Frag) (mg : Str → Option Value) (a : Adr) : Prop where
  F_has_tie : Fun K "has_tie" "has_tie" s_has_tie a.f_has_tie a.d_has_tie
  m_has_tie : mg "has_tie" = some (.ref a.f_has_tie)
  b_has_tie : Binds K a.d_has_tie ["tie_set", "tie"] []
  F_ties_in : Fun K "ties_in" "ties_in" s_ties_in a.f_ties_in a.d_ties_in
  m_ties_in : mg "ties_in" = some (.ref a.f_ties_in)
  b_ties_in : Binds K a.d_ties_in ["tie_set"] []
  F_set_of : Fun K "set_of" "set_of" s_set_of a.f_set_of a.d_set_of
  m_set_of : mg "set_of" = some (.ref a.f_set_of)
  b_set_of : Binds K a.d_set_of ["web", "ties"] []
  F_all_ties : Fun K "all_ties" "all_ties" s_all_ties a.f_all_ties a.d_all_ties
  m_all_ties : mg "all_ties" = some (.ref a.f_all_ties)
  b_all_ties : Binds K a.d_all_ties ["web"] []
  F_is_set : Fun K "is_set" "is_set" s_is_set a.f_is_set a.d_is_set
  m_is_set : mg "is_set" = some (.ref a.f_is_set)
  b_is_set : Binds K a.d_is_set ["web", "number"] []
  F_check_set : Fun K "check_set" "check_set" s_check_set a.f_check_set a.d_check_set
  m_check_set : mg "check_set" = some (.ref a.f_check_set)
  b_check_set : Binds K a.d_check_set ["web", "tie_set"] []
  F_triples_in : Fun K "triples_in" "triples_in" s_triples_in a.f_triples_in a.d_triples_in
  m_triples_in : mg "triples_in" = some (.ref a.f_triples_in)
  b_triples_in : Binds K a.d_triples_in ["web", "tie_set"] []
  F_odd_points : Fun K "odd_points" "odd_points" s_odd_points a.f_odd_points a.d_odd_points
  m_odd_points : mg "odd_points" = some (.ref a.f_odd_points)
  b_odd_points : Binds K a.d_odd_points ["web", "tie_set"] []
  F_drawn_together : Fun K "drawn_together" "drawn_together" s_drawn_together a.f_drawn_together a.d_drawn_together
  m_drawn_together : mg "drawn_together" = some (.ref a.f_drawn_together)
  b_drawn_together : Binds K a.d_drawn_together ["leasts", "one", "other"] []
  F_pieces : Fun K "pieces" "pieces" s_pieces a.f_pieces a.d_pieces
  m_pieces : mg "pieces" = some (.ref a.f_pieces)
  b_pieces : Binds K a.d_pieces ["web", "tie_set"] []
  F_rank : Fun K "rank" "rank" s_rank a.f_rank a.d_rank
  m_rank : mg "rank" = some (.ref a.f_rank)
  b_rank : Binds K a.d_rank ["web"] []
  F_is_even : Fun K "is_even" "is_even" s_is_even a.f_is_even a.d_is_even
  m_is_even : mg "is_even" = some (.ref a.f_is_even)
  b_is_even : Binds K a.d_is_even ["web", "tie_set"] []
  F_check_even : Fun K "check_even" "check_even" s_check_even a.f_check_even a.d_check_even
  m_check_even : mg "check_even" = some (.ref a.f_check_even)
  b_check_even : Binds K a.d_check_even ["web", "tie_set"] []
  F_forest_trails : Fun K "forest_trails" "forest_trails" s_forest_trails a.f_forest_trails a.d_forest_trails
  m_forest_trails : mg "forest_trails" = some (.ref a.f_forest_trails)
  b_forest_trails : Binds K a.d_forest_trails ["web"] []
  F_forest : Fun K "forest" "forest" s_forest a.f_forest a.d_forest
  m_forest : mg "forest" = some (.ref a.f_forest)
  b_forest : Binds K a.d_forest ["web"] []
  F_chords : Fun K "chords" "chords" s_chords a.f_chords a.d_chords
  m_chords : mg "chords" = some (.ref a.f_chords)
  b_chords : Binds K a.d_chords ["web"] []
  F_ring_closed : Fun K "ring_closed" "ring_closed" s_ring_closed a.f_ring_closed a.d_ring_closed
  m_ring_closed : mg "ring_closed" = some (.ref a.f_ring_closed)
  b_ring_closed : Binds K a.d_ring_closed ["web", "trails", "chord"] []
  F_chord_ring : Fun K "chord_ring" "chord_ring" s_chord_ring a.f_chord_ring a.d_chord_ring
  m_chord_ring : mg "chord_ring" = some (.ref a.f_chord_ring)
  b_chord_ring : Binds K a.d_chord_ring ["web", "tie"] []
  F_by_chords : Fun K "by_chords" "by_chords" s_by_chords a.f_by_chords a.d_by_chords
  m_by_chords : mg "by_chords" = some (.ref a.f_by_chords)
  b_by_chords : Binds K a.d_by_chords ["web", "tie_set"] []
  F_even_numbered : Fun K "even_numbered" "even_numbered" s_even_numbered a.f_even_numbered a.d_even_numbered
  m_even_numbered : mg "even_numbered" = some (.ref a.f_even_numbered)
  b_even_numbered : Binds K a.d_even_numbered ["web", "number"] []
  F_number_of_even : Fun K "number_of_even" "number_of_even" s_number_of_even a.f_number_of_even a.d_number_of_even
  m_number_of_even : mg "number_of_even" = some (.ref a.f_number_of_even)
  b_number_of_even : Binds K a.d_number_of_even ["web", "tie_set"] []
  F_is_ring : Fun K "is_ring" "is_ring" s_is_ring a.f_is_ring a.d_is_ring
  m_is_ring : mg "is_ring" = some (.ref a.f_is_ring)
  b_is_ring : Binds K a.d_is_ring ["web", "tie_set"] []
  F_tie_at : Fun K "tie_at" "tie_at" s_tie_at a.f_tie_at a.d_tie_at
  m_tie_at : mg "tie_at" = some (.ref a.f_tie_at)
  b_tie_at : Binds K a.d_tie_at ["web", "tie_set", "point"] []
  F_far_end : Fun K "far_end" "far_end" s_far_end a.f_far_end a.d_far_end
  m_far_end : mg "far_end" = some (.ref a.f_far_end)
  b_far_end : Binds K a.d_far_end ["web", "tie", "point"] []
  F_ring_within : Fun K "ring_within" "ring_within" s_ring_within a.f_ring_within a.d_ring_within
  m_ring_within : mg "ring_within" = some (.ref a.f_ring_within)
  b_ring_within : Binds K a.d_ring_within ["web", "even"] []
  F_parted : Fun K "parted" "parted" s_parted a.f_parted a.d_parted
  m_parted : mg "parted" = some (.ref a.f_parted)
  b_parted : Binds K a.d_parted ["web", "tie_set"] []
  F_law_cell : Fun K "_law_cell" "_law_cell" s_law_cell a.f_law_cell a.d_law_cell
  m_law_cell : mg "_law_cell" = some (.ref a.f_law_cell)
  b_law_cell : Binds K a.d_law_cell ["script", "k"] []
  F_law_stir : Fun K "_law_stir" "_law_stir" s_law_stir a.f_law_stir a.d_law_stir
  m_law_stir : mg "_law_stir" = some (.ref a.f_law_stir)
  b_law_stir : Binds K a.d_law_stir ["cell", "k"] []
  F_law_tie : Fun K "_law_tie" "_law_tie" s_law_tie a.f_law_tie a.d_law_tie
  m_law_tie : mg "_law_tie" = some (.ref a.f_law_tie)
  b_law_tie : Binds K a.d_law_tie ["c", "points", "times"] []
  F_law_web : Fun K "_law_web" "_law_web" s_law_web a.f_law_web a.d_law_web
  m_law_web : mg "_law_web" = some (.ref a.f_law_web)
  b_law_web : Binds K a.d_law_web ["script", "most"] []
  F_law_ties : Fun K "_law_ties" "_law_ties" s_law_ties a.f_law_ties a.d_law_ties
  m_law_ties : mg "_law_ties" = some (.ref a.f_law_ties)
  b_law_ties : Binds K a.d_law_ties ["some"] []
  F_law_odd : Fun K "_law_odd" "_law_odd" s_law_odd a.f_law_odd a.d_law_odd
  m_law_odd : mg "_law_odd" = some (.ref a.f_law_odd)
  b_law_odd : Binds K a.d_law_odd ["web", "some"] []
  F_law_sum : Fun K "_law_sum" "_law_sum" s_law_sum a.f_law_sum a.d_law_sum
  m_law_sum : mg "_law_sum" = some (.ref a.f_law_sum)
  b_law_sum : Binds K a.d_law_sum ["rings"] []
  F_law_fine : Fun K "_law_fine" "_law_fine" s_law_fine a.f_law_fine a.d_law_fine
  m_law_fine : mg "_law_fine" = some (.ref a.f_law_fine)
  b_law_fine : Binds K a.d_law_fine ["web", "some"] []
  F_law : Fun K "law" "law" s_law a.f_law a.d_law
  m_law : mg "law" = some (.ref a.f_law)
  b_law : Binds K a.d_law ["script"] []
  n_ValueError : mg "ValueError" = none
  n_enumerate : mg "enumerate" = none
  n_len : mg "len" = none
  n_list : mg "list" = none
  n_max : mg "max" = none
  n_min : mg "min" = none
  n_range : mg "range" = none
  n_sorted : mg "sorted" = none
  n_tuple : mg "tuple" = none
  n_zip : mg "zip" = none
  g_BadSet : mg "BadSet" = some (.ref a.c_BadSet)
  g_NoChord : mg "NoChord" = some (.ref a.c_NoChord)
  g_NoSuch : mg "NoSuch" = some (.ref a.c_NoSuch)
  g_NotEven : mg "NotEven" = some (.ref a.c_NotEven)
  x_BadSet : ∀ h : Heap, K.In h → h.Ns mainGlobals mg → PyProof.Rows.OwnCls "BadSet" a.c_BadSet [.type "ValueError", .type "Exception", .type "BaseException", .type "object"] "ValueError.__new__" mg h
  x_NoChord : ∀ h : Heap, K.In h → h.Ns mainGlobals mg → PyProof.Rows.OwnCls "NoChord" a.c_NoChord [.type "ValueError", .type "Exception", .type "BaseException", .type "object"] "ValueError.__new__" mg h
section
variable {K : PySem.W.Frag} {mg : Str → Option Value} {a : Adr}
theorem Txt.k_has_tie (T : Txt K mg a) : PySem.W.keepIn K (.ref a.f_has_tie) = true := T.F_has_tie.kp
theorem Txt.k_ties_in (T : Txt K mg a) : PySem.W.keepIn K (.ref a.f_ties_in) = true := T.F_ties_in.kp
theorem Txt.k_set_of (T : Txt K mg a) : PySem.W.keepIn K (.ref a.f_set_of) = true := T.F_set_of.kp
theorem Txt.k_all_ties (T : Txt K mg a) : PySem.W.keepIn K (.ref a.f_all_ties) = true := T.F_all_ties.kp
theorem Txt.k_is_set (T : Txt K mg a) : PySem.W.keepIn K (.ref a.f_is_set) = true := T.F_is_set.kp
theorem Txt.k_check_set (T : Txt K mg a) : PySem.W.keepIn K (.ref a.f_check_set) = true := T.F_check_set.kp
theorem Txt.k_triples_in (T : Txt K mg a) : PySem.W.keepIn K (.ref a.f_triples_in) = true := T.F_triples_in.kp
theorem Txt.k_odd_points (T : Txt K mg a) : PySem.W.keepIn K (.ref a.f_odd_points) = true := T.F_odd_points.kp
theorem Txt.k_drawn_together (T : Txt K mg a) : PySem.W.keepIn K (.ref a.f_drawn_together) = true := T.F_drawn_together.kp
theorem Txt.k_pieces (T : Txt K mg a) : PySem.W.keepIn K (.ref a.f_pieces) = true := T.F_pieces.kp
theorem Txt.k_rank (T : Txt K mg a) : PySem.W.keepIn K (.ref a.f_rank) = true := T.F_rank.kp
theorem Txt.k_is_even (T : Txt K mg a) : PySem.W.keepIn K (.ref a.f_is_even) = true := T.F_is_even.kp
theorem Txt.k_check_even (T : Txt K mg a) : PySem.W.keepIn K (.ref a.f_check_even) = true := T.F_check_even.kp
theorem Txt.k_forest_trails (T : Txt K mg a) : PySem.W.keepIn K (.ref a.f_forest_trails) = true := T.F_forest_trails.kp
theorem Txt.k_forest (T : Txt K mg a) : PySem.W.keepIn K (.ref a.f_forest) = true := T.F_forest.kp
theorem Txt.k_chords (T : Txt K mg a) : PySem.W.keepIn K (.ref a.f_chords) = true := T.F_chords.kp
theorem Txt.k_ring_closed (T : Txt K mg a) : PySem.W.keepIn K (.ref a.f_ring_closed) = true := T.F_ring_closed.kp
theorem Txt.k_chord_ring (T : Txt K mg a) : PySem.W.keepIn K (.ref a.f_chord_ring) = true := T.F_chord_ring.kp
theorem Txt.k_by_chords (T : Txt K mg a) : PySem.W.keepIn K (.ref a.f_by_chords) = true := T.F_by_chords.kp
theorem Txt.k_even_numbered (T : Txt K mg a) : PySem.W.keepIn K (.ref a.f_even_numbered) = true := T.F_even_numbered.kp
theorem Txt.k_number_of_even (T : Txt K mg a) : PySem.W.keepIn K (.ref a.f_number_of_even) = true := T.F_number_of_even.kp
theorem Txt.k_is_ring (T : Txt K mg a) : PySem.W.keepIn K (.ref a.f_is_ring) = true := T.F_is_ring.kp
theorem Txt.k_tie_at (T : Txt K mg a) : PySem.W.keepIn K (.ref a.f_tie_at) = true := T.F_tie_at.kp
theorem Txt.k_far_end (T : Txt K mg a) : PySem.W.keepIn K (.ref a.f_far_end) = true := T.F_far_end.kp
theorem Txt.k_ring_within (T : Txt K mg a) : PySem.W.keepIn K (.ref a.f_ring_within) = true := T.F_ring_within.kp
theorem Txt.k_parted (T : Txt K mg a) : PySem.W.keepIn K (.ref a.f_parted) = true := T.F_parted.kp
theorem Txt.k_law_cell (T : Txt K mg a) : PySem.W.keepIn K (.ref a.f_law_cell) = true := T.F_law_cell.kp
theorem Txt.k_law_stir (T : Txt K mg a) : PySem.W.keepIn K (.ref a.f_law_stir) = true := T.F_law_stir.kp
theorem Txt.k_law_tie (T : Txt K mg a) : PySem.W.keepIn K (.ref a.f_law_tie) = true := T.F_law_tie.kp
theorem Txt.k_law_web (T : Txt K mg a) : PySem.W.keepIn K (.ref a.f_law_web) = true := T.F_law_web.kp
theorem Txt.k_law_ties (T : Txt K mg a) : PySem.W.keepIn K (.ref a.f_law_ties) = true := T.F_law_ties.kp
theorem Txt.k_law_odd (T : Txt K mg a) : PySem.W.keepIn K (.ref a.f_law_odd) = true := T.F_law_odd.kp
theorem Txt.k_law_sum (T : Txt K mg a) : PySem.W.keepIn K (.ref a.f_law_sum) = true := T.F_law_sum.kp
theorem Txt.k_law_fine (T : Txt K mg a) : PySem.W.keepIn K (.ref a.f_law_fine) = true := T.F_law_fine.kp
end
def sp_has_tie : Sp := fun vs H Q _ => ∃ (S : Int) (k : Nat), vs = [.int S, .int (k : Int)] ∧ Q (.bl (bit S k)) H
def sp_ties_in : Sp := fun vs H Q _ => ∃ m : Nat, vs = [.int (m : Int)] ∧ Builtin.Int.intBits (m : Int) ≤ 1000 ∧ ∀ D H', H D = none → Same H H' → H' D = some (.lst (natsV (tiesOf (m : Int)))) → Q (.ref D) H'
def sp_all_ties : Sp := fun vs H Q _ => ∃ w p ts, vs = [.ref w] ∧ WebAt H w p ts ∧ Web p ts ∧ Q (.int (2 ^ ts.length - 1)) H
def sp_is_set : Sp := fun vs H Q _ => ∃ w p ts S, vs = [.ref w, .int S] ∧ WebAt H w p ts ∧ Web p ts ∧ Q (.bl (decide (0 ≤ S ∧ S < 2 ^ ts.length))) H
def OrBad (ts : List Tie) (S : Int) (bad : Prop) (R : Nat → Prop) : Prop := (∃ m : Nat, S = (m : Int) ∧ m < 2 ^ ts.length ∧ R m) ∨ ((S < 0 ∨ 2 ^ ts.length ≤ S) ∧ bad)
def sp_check_set (C : Addr) : Sp := fun vs H Q E => ∃ w p ts S, vs = [.ref w, .int S] ∧ WebAt H w p ts ∧ Web p ts ∧ OrBad ts S (E (.ref C) none H) fun _ => Q .non H
def sp_triples_in (C : Addr) : Sp := fun vs H Q E => ∃ w p ts S, vs = [.ref w, .int S] ∧ WebAt H w p ts ∧ Web p ts ∧ OrBad ts S (E (.ref C) none H) fun m =>
  ∀ D ys H', H D = none → Same H H' → H' D = some (.lst ys) → Paired (TupAt H') ys ((tiesOf (m : Int)).map (tieAt ts)) → Q (.ref D) H'
def sp_odd_points (C : Addr) : Sp := fun vs H Q E => ∃ w p ts S, vs = [.ref w, .int S] ∧ WebAt H w p ts ∧ Web p ts ∧ OrBad ts S (∀ H', Same H H' → E (.ref C) none H') fun m =>
  ∀ D H', Same H H' → H' D = some (.lst (natsV (oddOf p ts (m : Int)))) → Q (.ref D) H'
def sp_is_even (C : Addr) : Sp := fun vs H Q E => ∃ w p ts S, vs = [.ref w, .int S] ∧ WebAt H w p ts ∧ Web p ts ∧ OrBad ts S (∀ H', Same H H' → E (.ref C) none H') fun m => ∀ H', Same H H' → Q (.bl (decide (oddOf p ts (m : Int) = []))) H'
section
variable {P : Program} {w : World} {K : PySem.W.Frag} {mg : Str → Option Value} {base : Heap} {a : Adr}
theorem G_has_tie (T : Txt K mg a) : FnOk P w K mg base CX0 1 a.f_has_tie a.d_has_tie ["tie_set", "tie"] sp_has_tie := by
  refine T.F_has_tie.ok sc_has_tie (fun vs H Q E h => ?_) (fun cdv A outer s H vs Q E hr h => ?_)
  · obtain ⟨S, k, rfl, _⟩ := h
    rfl
  · obtain ⟨S, k, rfl, q⟩ := h
    refine ⟨_, (pss_one (ps_ret (pe_cmpR op_eq (pe_op op_and (pe_op op_shr (pv 0) (pv 1)) pe_int) pe_int (nomark _)))), ?_⟩
    refine (exq rfl (exq rfl (ijq ⟨(by (first | lia | omega)), ijq ⟨rfl, ?_⟩⟩)))
    rw [Int.toNat_natCast, has_eq]
    exact q
theorem G_ties_in (T : Txt K mg a) : FnOk P w K mg base CX0 2 a.f_ties_in a.d_ties_in ["tie_set"] sp_ties_in := by
  have G_has_tie : FnOk P w K mg base CX0 1 a.f_has_tie a.d_has_tie ["tie_set", "tie"] sp_has_tie := G_has_tie T
  refine T.F_ties_in.ok sc_ties_in (fun vs H Q E h => ?_) (fun cdv A outer s H vs Q E hr h => ?_)
  · obtain ⟨m, rfl, _⟩ := h
    rfl
  · obtain ⟨m, rfl, hm, k⟩ := h
    refine ⟨_, (pss_one (ps_ret (pe_comp (own := ["tie"]) (frees := ["tie_set"]) (js := [0]) (compText_of (defScope s_ties_in) ["tie_set"]) rfl (pi_range1 (by rfl) T.n_range (pa_cons (pe_bm0 PySem.F.plainAttrs_int PyProof.Rows.slot_int_bit_length PyProof.Rows.type_int_bit_length mt_bits (pv 0)) pa_nil)) (fun _ _ _ _ => (pg_name (i := 0) (show (["tie", "tie_set"] : List Str).Nodup by decide +kernel) rfl (Or.inl rfl))) (fun _ _ _ _ => (pts_one (pt_val (pe_call G_has_tie (hr.mono (by decide)) (by rfl) T.m_has_tie T.k_has_tie T.b_has_tie .nil pass0 (pa_cons (pv 1) (pa_cons (pv 0) pa_nil)))))) (fun _ _ _ _ => (pv 0))))), ?_⟩
    refine (exq rfl ⟨rfl, exq rfl ⟨rfl, exq rfl ⟨(by (first | lia | omega)), (by (first | lia | omega)), fun D hD => comp_range (lo := 0) (m := Builtin.Int.intBits (m : Int)) (Pick (bit (m : Int)) H D) (.start hD) (fun i acc H2 _ p => p.len) (dl (Nat.ble_eq.mpr hm)) ?_ ?_⟩⟩⟩)
    · intro i acc H2 hi p
      rw [Int.zero_add]
      refine ⟨rfl, exq rfl (exq rfl ⟨(m : Int), i, rfl, exq rfl (?_)⟩)⟩
      cases hb : bit (m : Int) i with
      | true => exact (exq rfl (p.yes hD (Same.refl _) hb))
      | false => exact p.no (Same.refl _) hb
    · intro acc H2 p
      exact k D H2 hD p.1 (by rw [p.2.1, p.2.2]; rfl)
theorem G_all_ties (T : Txt K mg a) : FnOk P w K mg base CX0 1 a.f_all_ties a.d_all_ties ["web"] sp_all_ties := by
  refine T.F_all_ties.ok sc_all_ties (fun vs H Q E h => ?_) (fun cdv A outer s H vs Q E hr h => ?_)
  · obtain ⟨w, p, ts, rfl, _⟩ := h
    rfl
  · obtain ⟨wb, p, ts, rfl, hw, W, q⟩ := h
    refine ⟨_, (pss_one (ps_ret (pe_op op_sub (pe_op op_shl pe_int (pe_callB (lenK K) (by rfl) T.n_len PySem.boot_len (pa_cons (pe_ix (ixT K) (pv 0) pe_int (fun _ _ => rfl)) pa_nil))) pe_int))), ?_⟩
    obtain ⟨b, xs, h1, h2, h3⟩ := hw.ex
    have hl := h3.length
    have wl := W.len
    refine (exq rfl (ixq (SqT.of h1) (atI_nat (j := 1) rfl) (lnq rfl (.inr (SqT.of h2)) (ijq ⟨⟨by (first | lia | omega), by (first | lia | omega), by decide⟩, ijq (?_)⟩))))
    rw [Int.toNat_natCast, hl, Int.one_mul]
    exact q
theorem G_is_set (T : Txt K mg a) : FnOk P w K mg base CX0 2 a.f_is_set a.d_is_set ["web", "number"] sp_is_set := by
  have G_all_ties : FnOk P w K mg base CX0 1 a.f_all_ties a.d_all_ties ["web"] sp_all_ties := G_all_ties T
  refine T.F_is_set.ok sc_is_set (fun vs H Q E h => ?_) (fun cdv A outer s H vs Q E hr h => ?_)
  · obtain ⟨w, p, ts, S, rfl, _⟩ := h
    rfl
  · obtain ⟨wb, p, ts, S, rfl, hw, W, q⟩ := h
    refine ⟨_, (pss_one (ps_ret (pe_and (pe_cmpR op_ge (pv 1) pe_int (nomark _)) (pe_one (pe_cmpR op_le (pv 1) (pe_call G_all_ties (hr.mono (by decide)) (by rfl) T.m_all_ties T.k_all_ties T.b_all_ties .nil pass0 (pa_cons (pv 0) pa_nil)) (nomark _)))))), ?_⟩
    refine (exq rfl (ijq (exq rfl (ite2 (fun hlt => ?_) (fun hlt => ?_)))))
    · have hlt : 0 ≤ S := of_decide_eq_true hlt
      refine (exq rfl (exq rfl ⟨wb, p, ts, rfl, hw, W, _, _, rfl, rfl, ?_⟩))
      have e : decide (S ≤ 2 ^ ts.length - 1) = decide (0 ≤ S ∧ S < 2 ^ ts.length) := decide_eq_decide.mpr ⟨fun z => ⟨hlt, by (first | lia | omega)⟩, fun z => by (first | lia | omega)⟩
      rw [← e] at q
      exact q
    · have hlt : ¬ 0 ≤ S := fun z => hlt (decide_eq_true z)
      rw [decide_eq_false (fun z => hlt z.1)] at q
      exact q
theorem G_check_set (T : Txt K mg a) : FnOk P w K mg base (CX1 P w) 3 a.f_check_set a.d_check_set ["web", "tie_set"] (sp_check_set a.c_BadSet) := by
  have G_is_set : FnOk P w K mg base CX0 2 a.f_is_set a.d_is_set ["web", "number"] sp_is_set := G_is_set T
  refine T.F_check_set.ok1 sc_check_set (fun vs H Q E h => ?_) (fun cdv A outer s H vs Q E hr h => ?_)
  · obtain ⟨w, p, ts, S, rfl, _⟩ := h
    rfl
  · obtain ⟨wb, p, ts, S, rfl, hw, W, q⟩ := h
    refine ⟨_, (pss_one (ps_if (pt_not (pt_val (pe_call G_is_set (hr.mono (by decide)) (by rfl) T.m_is_set T.k_is_set T.b_is_set .nil pass0 (pa_cons (pv 0) (pa_cons (pv 1) pa_nil))))) (pss_one (ps_raise out_of.thr rfl (by rfl) T.x_BadSet PySem.F.excBase_ValueError (pa_cons pe_str pa_nil))) pss_nil)), ?_⟩
    refine hd_check_set ?_
    intro zz0
    refine (exq rfl (exq rfl ⟨wb, p, ts, S, rfl, hw, W, ?_⟩))
    have h2 : ((2 : Int) ^ ts.length) = ((2 ^ ts.length : Nat) : Int) := by simp
    rcases q with ⟨m, rfl, hm, q⟩ | ⟨hS, q⟩
    · rw [decide_eq_true ⟨by (first | lia | omega), by (first | lia | omega)⟩]
      exact (exq rfl (iteF q))
    · rw [decide_eq_false (by (first | lia | omega))]
      exact (exq rfl (iteT ⟨dl rfl, q⟩))
theorem G_triples_in (T : Txt K mg a) : FnOk P w K mg base (CX1 P w) 4 a.f_triples_in a.d_triples_in ["web", "tie_set"] (sp_triples_in a.c_BadSet) := by
  have G_check_set : FnOk P w K mg base (CX1 P w) 3 a.f_check_set a.d_check_set ["web", "tie_set"] (sp_check_set a.c_BadSet) := G_check_set T
  have G_ties_in : FnOk P w K mg base CX0 2 a.f_ties_in a.d_ties_in ["tie_set"] sp_ties_in := G_ties_in T
  refine T.F_triples_in.ok1 sc_triples_in (fun vs H Q E h => ?_) (fun cdv A outer s H vs Q E hr h => ?_)
  · obtain ⟨w, p, ts, S, rfl, _⟩ := h
    rfl
  · obtain ⟨wb, p, ts, S, rfl, hw, W, q⟩ := h
    refine ⟨_, (pss_cons (ps_expr (pe_call G_check_set (hr.mono (by decide)) (by rfl) T.m_check_set T.k_check_set T.b_check_set .nil out_of.passes (pa_cons (pv 0) (pa_cons (pv 1) pa_nil))))
      (pss_one (ps_ret (pe_comp (own := ["tie"]) (frees := ["web"]) (js := [0]) (compText_of (defScope s_triples_in) ["web", "tie_set"]) rfl (piL K (pe_call G_ties_in (hr.mono (by decide)) (by rfl) T.m_ties_in T.k_ties_in T.b_ties_in .nil pass0 (pa_cons (pv 1) pa_nil))) (fun _ _ _ _ => (pg_name (i := 0) (show (["tie", "web"] : List Str).Nodup by decide +kernel) rfl (Or.inl rfl))) (fun _ _ _ _ => pts_nil) (fun _ _ _ _ => (pe_ix (ixT K) (pe_ix (ixT K) (pv 1) pe_int (fun _ _ => rfl)) (pv 0) (fun _ _ => rfl))))))), ?_⟩
    refine hd_triples_in ?_
    intro zz0
    refine (exq rfl (exq rfl ⟨wb, p, ts, S, rfl, hw, W, ?_⟩))
    rcases q with ⟨m, rfl, hm, q⟩ | ⟨hS, q⟩
    · refine .inl ⟨m, rfl, hm, ?_⟩
      have wl := W.len
      have hb : Builtin.Int.intBits (m : Int) ≤ ts.length := bits_le hm
      refine (exq rfl ⟨m, rfl, by (first | lia | omega), fun L H1 _ s1 hL => ⟨L, rfl, ⟨_, SqL.of hL⟩, fun D hD => ?_⟩⟩)
      obtain ⟨b, xs, h1, h2, h3⟩ := (hw.same s1).ex
      have hxl := h3.length
      refine comp_list (xs := natsV (tiesOf (m : Int))) (fun i acc H2 => Same H1 H2 ∧ H2 D = some (.lst acc) ∧ Paired (TupAt H2) acc (((tiesOf (m : Int)).take i).map (tieAt ts)) ∧ acc.length = i) ⟨Same.new hD, upd_same, .nil, rfl⟩ ?_ ?_ ?_ ?_
      · rintro i acc H2 _ ⟨s2, hd, pr, hac⟩
        exact ⟨SqL.of (s2 _ _ hL), hd, Nat.le_of_eq hac⟩
      · rw [natsV_len]
        refine dl (Nat.ble_eq.mpr (Nat.le_trans (List.length_filter_le _ _) ?_))
        rw [List.length_range]
        (first | lia | omega)
      · rintro i x acc H2 hx ⟨s2, hd, pr, hac⟩
        obtain ⟨k, hk, rfl⟩ := natsV_get hx
        have hkl : k < ts.length := ties_lt hm (List.mem_of_getElem? hk)
        have hkx : k < xs.length := by (first | lia | omega)
        obtain ⟨t, ht, c, hc, hct⟩ := Paired.getP h3 (i := k) (x := xs[k]) (by simp [hkx])
        have htt : tieAt ts k = t := by
          unfold tieAt
          rw [List.getD_eq_getElem?_getD, ht]
          rfl
        refine ⟨rfl, exq rfl (ixq (SqT.of (s2 _ _ h1)) (atI_nat (j := 1) rfl) (exq rfl (ixq (v := xs[k]) (SqT.of (s2 _ _ h2)) (atI_nat (j := k) (by simp [hkx])) (?_))))⟩
        rw [hc]
        refine ⟨hd, s2.put hD, upd_same, ?_, by rw [List.length_append, List.length_singleton, hac]⟩
        rw [List.take_add_one, hk, List.map_append]
        refine Paired.snoc (Paired.imp' (fun _ _ z => z.tups (Tups.put hd)) pr) ?_
        rw [htt]
        exact ⟨c, rfl, Tups.put hd _ _ (s2 _ _ hct)⟩
      · rintro acc H2 ⟨s2, hd, pr, hac⟩
        rw [natsV_len, List.take_length] at pr
        exact q D acc H2 (s1.free hD) (s1.trans s2) hd pr
    · exact .inr ⟨hS, q⟩
end

section
variable {P : Program} {w : World} {K : PySem.W.Frag} {mg : Str → Option Value} {base : Heap} {a : Adr}
theorem G_odd_points (T : Txt K mg a) : FnOk P w K mg base (CX1 P w) 5 a.f_odd_points a.d_odd_points ["web", "tie_set"] (sp_odd_points a.c_BadSet) := by
  have G_triples_in : FnOk P w K mg base (CX1 P w) 4 a.f_triples_in a.d_triples_in ["web", "tie_set"] (sp_triples_in a.c_BadSet) := G_triples_in T
  refine T.F_odd_points.ok1 sc_odd_points (fun vs H Q E h => ?_) (fun cdv A outer s H vs Q E hr h => ?_)
  · obtain ⟨w, p, ts, S, rfl, _⟩ := h
    rfl
  · obtain ⟨wb, p, ts, S, rfl, hw, W, q⟩ := h
    refine ⟨_, (pss_cons (ps_set (i := 2) sc_odd_points.nd rfl (Or.inr rfl) (pe_op op_rep (pe_lst (pa_cons pe_int pa_nil)) (pe_ix (ixT K) (pv 0) pe_int (fun _ _ => rfl))))
      (pss_cons (ps_for1 rfl (piL K (pe_call G_triples_in (hr.mono (by decide)) (by rfl) T.m_triples_in T.k_triples_in T.b_triples_in .nil out_of.passes (pa_cons (pv 0) (pa_cons (pv 1) pa_nil)))) (pgT K (n := 3) rfl (pgs_cons (pg_name (i := 3) sc_odd_points.nd rfl (Or.inl rfl)) (pgs_cons (pg_name (i := 4) sc_odd_points.nd rfl (Or.inl rfl)) (pgs_cons (pg_name (i := 5) sc_odd_points.nd rfl (Or.inl rfl)) pgs_nil))))
      (pss_cons (ps_augS (pv 2) (pv 3) (getL K) pe_int iop_add set_list)
      (pss_one (ps_augS (pv 2) (pv 4) (getL K) pe_int iop_add set_list))))
      (pss_one (ps_ret (pe_comp (own := ["point"]) (frees := ["ends"]) (js := [2]) (compText_of (defScope s_odd_points) ["web", "tie_set", "ends", "one", "other", "length"]) rfl (pi_range1 (by rfl) T.n_range (pa_cons (pe_ix (ixT K) (pv 0) pe_int (fun _ _ => rfl)) pa_nil)) (fun _ _ _ _ => (pg_name (i := 0) (show (["point", "ends"] : List Str).Nodup by decide +kernel) rfl (Or.inl rfl))) (fun _ _ _ _ => (pts_one (pt_cmpR op_eq (pe_op op_mod (pe_ix (ixL K) (pv 1) (pv 0) (fun _ _ => rfl)) pe_int) pe_int (nomark _)))) (fun _ _ _ _ => (pv 0))))))), ?_⟩
    refine hd_odd_points ?_
    intro zz0 zz1 zz2 zz3
    obtain ⟨b, xs, h1, h2, h3⟩ := id hw.ex
    have wp := W.pts
    refine ⟨dl rfl, fun l0 hl0 => ?_⟩
    have s0 : Same H (upd H l0 (.lst [.int 0])) := Same.new hl0
    refine (exq rfl (ixq (SqT.of (s0 _ _ h1)) (atI_nat (j := 0) rfl) ⟨l0, (p : Int), exq rfl ⟨rfl, upd_same, by (first | lia | omega), by (first | lia | omega), (by rw [Int.toNat_natCast]; show 1 * p ≤ sizeLine; exact dl (Nat.ble_eq.mpr (by (first | lia | omega)))), fun e he => ?_⟩⟩))
    have s1 := s0.trans (Same.new (o := .lst (List.replicate (p : Int).toNat [V.int 0]).flatten) he)
    have he1 : upd (upd H l0 (.lst [.int 0])) e (.lst (List.replicate (p : Int).toNat [V.int 0]).flatten) e = some (.lst (intsV (List.replicate p 0))) := by
      rw [upd_same, Int.toNat_natCast, rep_zero]
    generalize upd (upd H l0 (.lst [.int 0])) e (.lst (List.replicate (p : Int).toNat [V.int 0]).flatten) = H1 at s1 he1
    have heH : H e = none := s0.free he
    refine (exq rfl (exq rfl ⟨wb, p, ts, S, rfl, hw.same s1, W, ?_⟩))
    rcases q with ⟨m, rfl, hm, q⟩ | ⟨hS, q⟩
    · refine .inl ⟨m, rfl, hm, fun L ys H2 hLn s2 hL pr => ⟨L, rfl, ⟨_, SqL.of hL⟩, ?_⟩⟩
      have s12 := s1.trans s2
      have heL : e ≠ L := ne_of_none he1 hLn
      have hyl : ys.length ≤ 24 := by
        rw [pr.length, List.length_map]
        have hb : Builtin.Int.intBits (m : Int) ≤ ts.length := bits_le hm
        have wl := W.len
        have := List.length_filter_le (bit (m : Int)) (List.range (Builtin.Int.intBits (m : Int)))
        rw [List.length_range] at this
        exact Nat.le_trans this (by (first | lia | omega))
      refine for_list' (K := K) (a := L) (xs := ys) (fun i σ H3 => ∃ v1 v2 v3, σ = [some (.ref wb), some (.int (m : Int)), some (.ref e), v1, v2, v3] ∧ (∀ x o, H2 x = some o → x ≠ e → H3 x = some o) ∧ H3 e = some (.lst (intsV ((((tiesOf (m : Int)).map (tieAt ts)).take i).foldl stepT (List.replicate p 0)))))
        ⟨none, none, none, rfl, fun _ _ z _ => z, s2 _ _ he1⟩ (fun i σ H3 _ ⟨_, _, _, _, z, _⟩ => SqL.of (z _ _ hL (Ne.symm heL))) ?_ ?_
      · rintro i y D' σ H3 hi ⟨v1, v2, v3, rfl, z3, he3⟩
        obtain ⟨t, ht, c, rfl, hc⟩ := Paired.getP pr hi
        have hce : c ≠ e := ne_of hc (s2 _ _ he1) (by intro z; cases z)
        have hc3 := z3 _ _ hc hce
        have htm : t ∈ ts := by
          obtain ⟨k, hk, rfl⟩ := List.mem_map.mp (List.mem_of_getElem? ht)
          unfold tieAt
          have hkl := ties_lt hm hk
          rw [List.getD_eq_getElem?_getD]
          simp [hkl]
        obtain ⟨a0, a1, b0, b1⟩ := W.inw.ends t htm
        obtain ⟨t1, t2, t3⟩ := t
        dsimp only at a0 a1 b0 b1
        obtain ⟨j1, rfl⟩ := Int.eq_ofNat_of_zero_le a0
        obtain ⟨j2, rfl⟩ := Int.eq_ofNat_of_zero_le b0
        generalize hE : (((tiesOf (m : Int)).map (tieAt ts)).take i).foldl stepT (List.replicate p 0) = EE at he3
        have hEl : EE.length = p := by rw [← hE, foldT_len, List.length_replicate]
        have hj1 : j1 < EE.length := by (first | lia | omega)
        have hj2 : j2 < (bump EE (j1 : Int)).length := by rw [bump_len]; (first | lia | omega)
        refine ⟨c, _, rfl, SqT.of hc3, rfl, _, _, rfl, _, _, rfl, _, _, rfl, rfl, ?_⟩
        refine (exq rfl (exq rfl ⟨e, _, j1, _, rfl, rfl, SqL.of he3, intsV_get hj1, _, _, rfl, rfl, e, _, _, j1, rfl, rfl, he3, ixN_nat (by rw [intsV, List.length_map]; exact hj1), ?_⟩))
        rw [intsV_bump]
        refine (exq rfl (exq rfl ⟨e, _, j2, _, rfl, rfl, SqL.of upd_same, intsV_get hj2, _, _, rfl, rfl, e, _, _, j2, rfl, rfl, upd_same, ixN_nat (by rw [intsV, List.length_map]; exact hj2), ?_⟩))
        rw [intsV_bump]
        refine ⟨_, _, _, rfl, fun x o z hx => by rw [upd_ne hx, upd_ne hx]; exact z3 x o z hx, ?_⟩
        rw [upd_same, List.take_add_one, ht, List.foldl_append, hE]
        rfl
      · rintro σ H3 ⟨v1, v2, v3, rfl, z3, he3⟩
        have hwe : wb ≠ e := ne_of_none h1 heH
        have s13 : Same H H3 := fun x o z => z3 x o (s12 x o z) (ne_of_none z heH)
        have hE : H3 e = some (.lst (intsV (endsOf p ts (m : Int)))) := by
          rw [he3, List.take_of_length_le (by rw [← pr.length]; exact Nat.le_refl _), ends_ties hm]
        have hEl : (endsOf p ts (m : Int)).length = p := by rw [ends_ties hm, foldT_len, List.length_replicate]
        refine (exq rfl (ixq (SqT.of (s13 _ _ h1)) (atI_nat (j := 0) rfl) (exq rfl ⟨(by (first | lia | omega)), (by (first | lia | omega)), fun D hD => comp_range (lo := 0) (m := p) (Pick (fun i => decide ((endsOf p ts (m : Int)).getD i 0 % 2 = 1)) H3 D) (.start hD) (fun i acc H4 _ p => p.len) (dl (Nat.ble_eq.mpr (by (first | lia | omega)))) ?_ ?_⟩)))
        · intro i acc H4 hi pk
          rw [Int.zero_add]
          refine ⟨rfl, exq rfl (exq rfl (ixl (SqL.of (pk.1 _ _ hE)) (atI_nat (j := i) (intsV_get (by rw [hEl]; exact hi))) (ijq ⟨(modC rfl), rfl, exq rfl (?_)⟩)))⟩
          rw [dec_one]
          cases hb : decide ((endsOf p ts (m : Int)).getD i 0 % 2 = 1) with
          | true => exact (exq rfl (pk.yes hD (Same.refl _) hb))
          | false => exact pk.no (Same.refl _) hb
        · intro acc H4 pk
          exact q D H4 (s13.trans pk.1) (by rw [pk.2.1, pk.2.2]; rfl)
    · exact .inr ⟨hS, q _ s1⟩
end

section
variable {P : Program} {w : World} {K : PySem.W.Frag} {mg : Str → Option Value} {base : Heap} {a : Adr}
theorem G_is_even (T : Txt K mg a) : FnOk P w K mg base (CX1 P w) 6 a.f_is_even a.d_is_even ["web", "tie_set"] (sp_is_even a.c_BadSet) := by
  have G_odd_points : FnOk P w K mg base (CX1 P w) 5 a.f_odd_points a.d_odd_points ["web", "tie_set"] (sp_odd_points a.c_BadSet) := G_odd_points T
  refine T.F_is_even.ok1 sc_is_even (fun vs H Q E h => ?_) (fun cdv A outer s H vs Q E hr h => ?_)
  · obtain ⟨w, p, ts, S, rfl, _⟩ := h
    rfl
  · obtain ⟨wb, p, ts, S, rfl, hw, W, q⟩ := h
    refine ⟨_, (pss_one (ps_ret (pe_cmpR (op_eqK K hr.units) (pe_call G_odd_points (hr.mono (by decide)) (by rfl) T.m_odd_points T.k_odd_points T.b_odd_points .nil out_of.passes (pa_cons (pv 0) (pa_cons (pv 1) pa_nil))) (pe_lst pa_nil) (nomark _)))), ?_⟩
    refine (exq rfl (exq rfl ⟨wb, p, ts, S, rfl, hw, W, ?_⟩))
    rcases q with ⟨m, rfl, hm, q⟩ | ⟨hS, q⟩
    · refine .inl ⟨m, rfl, hm, fun D H1 s1 hD => ⟨dl rfl, fun l hl => ?_⟩⟩
      have s2 : Same H1 (upd H1 l (.lst [])) := Same.new hl
      refine ⟨_, _, .lst (SqL.of (s2 _ _ hD)) (nats_dat _), .lst (SqL.of upd_same) .nil, shaped_nats _, rfl, ?_⟩
      rw [eqv_nil]
      exact q _ (s1.trans s2)
    · exact .inr ⟨hS, q⟩
end

def sp_drawn : Sp := fun vs H Q _ => ∃ (l : Addr) (L : Nat → Nat) (p u v : Nat), vs = [.ref l, .int (u : Int), .int (v : Int)] ∧ H l = some (.lst (mapV L p)) ∧ p ≤ 10 ∧ u < p ∧ v < p ∧
  ∀ D H', H D = none → Same H H' → H' D = some (.lst (mapV (RM.join L u v) p)) → Q (.ref D) H'
def sp_pieces (C : Addr) : Sp := fun vs H Q E => ∃ w p ts, ∃ g : GoodWeb p ts, ∃ S, vs = [.ref w, .int S] ∧ WebAt H w p ts ∧ OrBad ts S (∀ H', Same H H' → E (.ref C) none H') fun m =>
  ∀ D ys H', H D = none → Same H H' → H' D = some (.lst ys) → Paired (LstFr D H H') ys ((rootsOf (labOf p ts g m) p).map (pieceOf (labOf p ts g m) p)) → Q (.ref D) H'
def sp_rank : Sp := fun vs H Q _ => ∃ w p ts, ∃ g : GoodWeb p ts, vs = [.ref w] ∧ WebAt H w p ts ∧ ∀ H', Same H H' → Q (.int ((netOf p ts g).chords.length : Int)) H'
section
variable {P : Program} {w : World} {K : PySem.W.Frag} {mg : Str → Option Value} {base : Heap} {a : Adr}
theorem G_drawn_together (T : Txt K mg a) : FnOk P w K mg base CX0 1 a.f_drawn_together a.d_drawn_together ["leasts", "one", "other"] sp_drawn := by
  refine T.F_drawn_together.ok sc_drawn_together (fun vs H Q E h => ?_) (fun cdv A outer s H vs Q E hr h => ?_)
  · obtain ⟨l, L, p, u, v, rfl, _⟩ := h
    rfl
  · obtain ⟨l, L, p, u, v, rfl, hl, hp, hu, hv, q⟩ := h
    refine ⟨_, (pss_cons (ps_set (i := 3) sc_drawn_together.nd rfl (Or.inr rfl) (pe_callB (call_min2 rfl) (by rfl) T.n_min PyProof.Rows.boot_min (pa_cons (pe_ix (ixL K) (pv 0) (pv 1) (fun _ _ => rfl)) (pa_cons (pe_ix (ixL K) (pv 0) (pv 2) (fun _ _ => rfl)) pa_nil))))
      (pss_cons (ps_set (i := 4) sc_drawn_together.nd rfl (Or.inr rfl) (pe_callB (call_max2 rfl) (by rfl) T.n_max PyProof.Rows.boot_max (pa_cons (pe_ix (ixL K) (pv 0) (pv 1) (fun _ _ => rfl)) (pa_cons (pe_ix (ixL K) (pv 0) (pv 2) (fun _ _ => rfl)) pa_nil))))
      (pss_one (ps_ret (pe_comp (own := ["least"]) (frees := ["low", "high"]) (js := [3, 4]) (compText_of (defScope s_drawn_together) ["leasts", "one", "other", "low", "high"]) rfl (piL K (pv 0)) (fun _ _ _ _ => (pg_name (i := 0) (show (["least", "low", "high"] : List Str).Nodup by decide +kernel) rfl (Or.inl rfl))) (fun _ _ _ _ => pts_nil) (fun _ _ _ _ => (pe_ifExp (pt_cmpR op_eq (pv 0) (pv 2) (nomark _)) (pv 1) (pv 0)))))))), ?_⟩
    refine hd_drawn_together ?_
    intro zz0 zz1
    refine (exq rfl (exq rfl (ixl (SqL.of hl) (atI_nat (j := u) (mapV_get hu)) (exq rfl (exq rfl (ixl (SqL.of hl) (atI_nat (j := v) (mapV_get hv)) ⟨_, _, rfl, ?_⟩))))))
    refine (exq rfl (exq rfl (ixl (SqL.of hl) (atI_nat (j := u) (mapV_get hu)) (exq rfl (exq rfl (ixl (SqL.of hl) (atI_nat (j := v) (mapV_get hv)) ⟨_, _, rfl, ?_⟩))))))
    refine (exq rfl ⟨l, rfl, ⟨_, SqL.of hl⟩, fun D hD => comp_list (xs := mapV L p) (Mapd (RM.join L u v) H D) (.start hD) (fun i acc H2 _ pd => ⟨SqL.of (pd.1 _ _ hl), pd.len⟩) (by rw [mapV_len]; exact dl (Nat.ble_eq.mpr (by (first | lia | omega)))) ?_ ?_⟩)
    · intro i x acc H2 hx pd
      obtain ⟨hi, rfl⟩ := mapV_of hx
      refine ⟨rfl, exq rfl (exq rfl ⟨rfl, exq rfl (?_)⟩)⟩
      rw [max_int, dec_nat]
      by_cases hm : L i = max (L u) (L v)
      · rw [decide_eq_true hm]
        refine iteT (exq rfl (pd.next hD (Same.refl _) ?_))
        rw [min_int]
        unfold RM.join
        rw [if_pos hm]
      · rw [decide_eq_false hm]
        refine iteF (exq rfl (pd.next hD (Same.refl _) ?_))
        unfold RM.join
        rw [if_neg hm]
    · intro acc H2 pd
      rw [mapV_len] at pd
      exact q D H2 hD pd.1 (by rw [pd.2.1, pd.2.2])
theorem G_pieces (T : Txt K mg a) : FnOk P w K mg base (CX1 P w) 5 a.f_pieces a.d_pieces ["web", "tie_set"] (sp_pieces a.c_BadSet) := by
  have G_triples_in : FnOk P w K mg base (CX1 P w) 4 a.f_triples_in a.d_triples_in ["web", "tie_set"] (sp_triples_in a.c_BadSet) := G_triples_in T
  have G_drawn_together : FnOk P w K mg base CX0 1 a.f_drawn_together a.d_drawn_together ["leasts", "one", "other"] sp_drawn := G_drawn_together T
  refine T.F_pieces.ok1 sc_pieces (fun vs H Q E h => ?_) (fun cdv A outer s H vs Q E hr h => ?_)
  · obtain ⟨w, p, ts, g, S, rfl, _⟩ := h
    rfl
  · obtain ⟨wb, p, ts, g, S, rfl, hw, q⟩ := h
    refine ⟨_, (pss_cons (ps_set (i := 2) sc_pieces.nd rfl (Or.inr rfl) (pe_callTy (listR rfl) (by rfl) T.n_list PyProof.Rows.boot_list (pa_cons (pe_callTy call_rng (by rfl) T.n_range PyProof.Rows.boot_range (pa_cons (pe_ix (ixT K) (pv 0) pe_int (fun _ _ => rfl)) pa_nil)) pa_nil)))
      (pss_cons (ps_for1 rfl (piL K (pe_call G_triples_in (hr.mono (by decide)) (by rfl) T.m_triples_in T.k_triples_in T.b_triples_in .nil out_of.passes (pa_cons (pv 0) (pa_cons (pv 1) pa_nil)))) (pgT K (n := 3) rfl (pgs_cons (pg_name (i := 3) sc_pieces.nd rfl (Or.inl rfl)) (pgs_cons (pg_name (i := 4) sc_pieces.nd rfl (Or.inl rfl)) (pgs_cons (pg_name (i := 5) sc_pieces.nd rfl (Or.inl rfl)) pgs_nil))))
      (pss_one (ps_set (i := 2) sc_pieces.nd rfl (Or.inr rfl) (pe_call G_drawn_together (hr.mono (by decide)) (by rfl) T.m_drawn_together T.k_drawn_together T.b_drawn_together .nil pass0 (pa_cons (pv 2) (pa_cons (pv 3) (pa_cons (pv 4) pa_nil)))))))
      (pss_cons (ps_set (i := 6) sc_pieces.nd rfl (Or.inl rfl) (pe_lst pa_nil))
      (pss_cons (ps_for1 rfl (pi_range1 (by rfl) T.n_range (pa_cons (pe_ix (ixT K) (pv 0) pe_int (fun _ _ => rfl)) pa_nil)) (pg_name (i := 7) sc_pieces.nd rfl (Or.inr rfl))
      (pss_one (ps_if (pt_cmpR op_eq (pe_ix (ixL K) (pv 2) (pv 7) (fun _ _ => rfl)) (pv 7) (nomark _)) (pss_one (ps_expr (bmK K (pe_bm PySem.F.plainAttrs_list PySem.F.slot_list_append PySem.F.type_list_append mt_append (pv 6) (pa_cons (pe_comp (own := ["point"]) (frees := ["leasts", "start"]) (js := [2, 7]) (compText_of (defScope s_pieces) ["web", "tie_set", "leasts", "one", "other", "length", "found", "start"]) rfl (pi_range1 (by rfl) T.n_range (pa_cons (pe_ix (ixT K) (pv 0) pe_int (fun _ _ => rfl)) pa_nil)) (fun _ _ _ _ => (pg_name (i := 0) (show (["point", "leasts", "start"] : List Str).Nodup by decide +kernel) rfl (Or.inl rfl))) (fun _ _ _ _ => (pts_one (pt_cmpR op_eq (pe_ix (ixL K) (pv 1) (pv 0) (fun _ _ => rfl)) (pv 2) (nomark _)))) (fun _ _ _ _ => (pv 0))) pa_nil))))) pss_nil)))
      (pss_one (ps_ret (pv 6))))))), ?_⟩
    refine hd_pieces ?_
    intro zz0 zz1 zz2 zz3 zz4 zz5 zz6
    obtain ⟨b, xs, h1, h2, h3⟩ := id hw.ex
    have W := g.web
    have wp := W.pts
    have wl := W.len
    refine (exq rfl (ixq (SqT.of h1) (atI_nat (j := 0) rfl) (exq rfl (fun r hr => ⟨r, p, rfl, upd_same, by (first | lia | omega), fun l hl => ?_⟩))))
    have s1 : Same H (upd (upd H r (.rng 0 (p : Int))) l (.lst (rngV p))) := (Same.new hr).trans (Same.new hl)
    have hl1 : upd (upd H r (.rng 0 (p : Int))) l (.lst (rngV p)) l = some (.lst (mapV (fun x => x) p)) := upd_same
    generalize upd (upd H r (.rng 0 (p : Int))) l (.lst (rngV p)) = H1 at s1 hl1
    refine (exq rfl (exq rfl ⟨wb, p, ts, S, rfl, hw.same s1, W, ?_⟩))
    rcases q with ⟨m, rfl, hm, q⟩ | ⟨hS, q⟩
    · refine .inl ⟨m, rfl, hm, fun T0 ys H2 hTn s2 hT pr => ⟨T0, rfl, ⟨_, SqL.of hT⟩, ?_⟩⟩
      have hyl : ys.length ≤ 24 := by
        rw [pr.length, List.length_map]
        have hb : Builtin.Int.intBits (m : Int) ≤ ts.length := bits_le hm
        have := List.length_filter_le (bit (m : Int)) (List.range (Builtin.Int.intBits (m : Int)))
        rw [List.length_range] at this
        exact Nat.le_trans this (by (first | lia | omega))
      refine for_list' (K := K) (a := T0) (xs := ys) (fun i σ H3 => ∃ la v3 v4 v5, σ = [some (.ref wb), some (.int (m : Int)), some (.ref la), v3, v4, v5, none, none] ∧ Same H2 H3 ∧ H3 la = some (.lst (mapV (foldJ p ts g ((tiesOf (m : Int)).take i)) p)))
        ⟨l, none, none, none, rfl, Same.refl _, s2 _ _ hl1⟩ (fun i σ H3 _ ⟨_, _, _, _, _, z, _⟩ => SqL.of (z _ _ hT)) ?_ ?_
      · rintro i y D' σ H3 hi ⟨la, v3, v4, v5, rfl, s3, hla⟩
        obtain ⟨t, ht, c, rfl, hc⟩ := Paired.getP pr hi
        have hc3 := s3 _ _ hc
        rw [List.getElem?_map] at ht
        obtain ⟨k, hk, hkt⟩ := Option.map_eq_some_iff.mp ht
        have hkl := ties_lt hm (List.mem_of_getElem? hk)
        have ea := net_a (g := g) hkl
        have eb := net_b (g := g) hkl
        rw [hkt] at ea eb
        have la' := (netOf p ts g).al k hkl
        have lb' := (netOf p ts g).bl k hkl
        refine ⟨c, _, rfl, SqT.of hc3, rfl, _, _, rfl, _, _, rfl, _, _, rfl, rfl, ?_⟩
        refine (exq rfl (exq rfl (exq rfl ⟨la, foldJ p ts g ((tiesOf (m : Int)).take i), p, (netOf p ts g).a k, (netOf p ts g).b k, ?_, hla, wp, la', lb', fun D H4 hDn s4 hD => ?_⟩)))
        · rw [← ea, ← eb]
          rfl
        · refine ⟨D, _, _, _, rfl, s3.trans s4, ?_⟩
          rw [hD, List.take_add_one, hk]
          show _ = some (HO.lst (mapV (foldJ p ts g ((tiesOf (m : Int)).take i ++ [k])) p))
          rw [foldJ_snoc]
      · rintro σ H3 ⟨la, v3, v4, v5, rfl, s3, hla⟩
        have hys : ys.length = (tiesOf (m : Int)).length := by rw [pr.length, List.length_map]
        rw [hys, List.take_length, foldJ_ties hm] at hla
        have s13 : Same H H3 := (s1.trans s2).trans s3
        refine ⟨dl rfl, fun D hD => ?_⟩
        have t0 : Gath (labOf p ts g m) p H3 D 0 (upd H3 D (.lst [])) := Gath.start hD
        generalize upd H3 D (.lst []) = H4 at t0
        refine (exq rfl (ixq (SqT.of (t0.1 _ _ (s13 _ _ h1))) (atI_nat (j := 0) rfl) (exq rfl ⟨(by (first | lia | omega)), (by (first | lia | omega)), ?_⟩)))
        refine for_range' (lo := 0) (n := (p : Int).toNat) (fun i σ H5 => ∃ v7, σ = [some (.ref wb), some (.int (m : Int)), some (.ref la), v3, v4, v5, some (.ref D), v7] ∧ Gath (labOf p ts g m) p H3 D i H5) ⟨none, rfl, t0⟩ ?_ ?_
        · rintro i D' σ H5 hi ⟨v7, rfl, t5⟩
          rw [Int.toNat_natCast] at hi
          rw [Int.zero_add]
          have hla5 := t5.1 _ _ hla
          refine (exq rfl (exq rfl (ixl (SqL.of hla5) (atI_nat (j := i) (mapV_get hi)) (exq rfl ⟨rfl, exq rfl (?_)⟩))))
          rw [dec_nat]
          by_cases hr : labOf p ts g m i = i
          · rw [decide_eq_true hr]
            obtain ⟨ys0, hD5⟩ : ∃ ys, H5 D = some (.lst ys) := let ⟨_, ys, z, _⟩ := t5; ⟨ys, z⟩
            refine iteT (exq rfl ⟨.inl ⟨rfl, _, SqL.of hD5⟩, exq rfl (ixq (SqT.of (t5.1 _ _ (s13 _ _ h1))) (atI_nat (j := 0) rfl) (exq rfl ⟨(by (first | lia | omega)), (by (first | lia | omega)), fun B hB => comp_range (lo := 0) (m := (p : Int).toNat) (Pick (fun x => decide (labOf p ts g m x = i)) H5 B) (.start hB) (fun i acc H6 _ pk => pk.len) (dl (Nat.ble_eq.mpr (by (first | lia | omega)))) ?_ ?_⟩))⟩)
            · intro x acc H6 hx pk
              rw [Int.toNat_natCast] at hx
              rw [Int.zero_add]
              refine ⟨rfl, exq rfl (exq rfl (ixl (SqL.of (pk.1 _ _ hla5)) (atI_nat (j := x) (mapV_get hx)) (exq rfl ⟨rfl, exq rfl (?_)⟩)))⟩
              rw [dec_nat]
              cases hb : decide (labOf p ts g m x = i) with
              | true => exact (exq rfl (pk.yes hB (Same.refl _) hb))
              | false => exact pk.no (Same.refl _) hb
            · intro acc H6 pk
              have hB6 : H6 B = some (.lst (natsV (pieceOf (labOf p ts g m) p i))) := by rw [pk.2.1, pk.2.2, Int.toNat_natCast]; rfl
              obtain ⟨ys1, hD6, hl1, t7⟩ := t5.push hD hr pk.1 hB hB6
              exact ⟨D, ys1, _, rfl, rfl, hD6, smallL (by (first | lia | omega)), exq rfl (t7)⟩
          · rw [decide_eq_false hr]
            exact iteF (exq rfl (t5.skip hr))
        · rintro σ H5 ⟨v7, rfl, t5⟩
          rw [Int.toNat_natCast] at t5
          obtain ⟨s5, ys5, hD5, pr5, hl5⟩ := t5
          exact (exq rfl (q D ys5 H5 (s13.free hD) (s13.trans s5) hD5 (Paired.imp' (fun _ _ ⟨e, he, hn, h0, z⟩ => ⟨e, he, hn, s13.free h0, z⟩) pr5)))
    · exact .inr ⟨hS, q _ s1⟩
theorem G_rank (T : Txt K mg a) : FnOk P w K mg base CX0 6 a.f_rank a.d_rank ["web"] sp_rank := by
  have G_pieces : FnOk P w K mg base (CX1 P w) 5 a.f_pieces a.d_pieces ["web", "tie_set"] (sp_pieces a.c_BadSet) := G_pieces T
  have G_all_ties : FnOk P w K mg base CX0 1 a.f_all_ties a.d_all_ties ["web"] sp_all_ties := G_all_ties T
  refine T.F_rank.ok sc_rank (fun vs H Q E h => ?_) (fun cdv A outer s H vs Q E hr h => ?_)
  · obtain ⟨w, p, ts, g, rfl, _⟩ := h
    rfl
  · obtain ⟨wb, p, ts, g, rfl, hw, q⟩ := h
    refine ⟨_, (pss_one (ps_ret (pe_op op_add (pe_op op_sub (pe_callB (lenK K) (by rfl) T.n_len PySem.boot_len (pa_cons (pe_ix (ixT K) (pv 0) pe_int (fun _ _ => rfl)) pa_nil)) (pe_ix (ixT K) (pv 0) pe_int (fun _ _ => rfl))) (pe_callB (lenK K) (by rfl) T.n_len PySem.boot_len (pa_cons (pe_call G_pieces (hr.mono (by decide)) (by rfl) T.m_pieces T.k_pieces T.b_pieces .nil passN (pa_cons (pv 0) (pa_cons (pe_call G_all_ties (hr.mono (by decide)) (by rfl) T.m_all_ties T.k_all_ties T.b_all_ties .nil pass0 (pa_cons (pv 0) pa_nil)) pa_nil))) pa_nil))))), ?_⟩
    obtain ⟨b, xs, h1, h2, h3⟩ := id hw.ex
    have hxl := h3.length
    have e2 : ((2 : Int) ^ ts.length - 1) = ((2 ^ ts.length - 1 : Nat) : Int) := by
      have h : ((2 : Int) ^ ts.length) = ((2 ^ ts.length : Nat) : Int) := by simp
      have := Nat.two_pow_pos ts.length
      (first | lia | omega)
    have hlt : 2 ^ ts.length - 1 < 2 ^ ts.length := by have := Nat.two_pow_pos ts.length; (first | lia | omega)
    refine (exq rfl (ixq (SqT.of h1) (atI_nat (j := 1) rfl) (lnq rfl (.inr (SqT.of h2)) (exq rfl (ixq (SqT.of h1) (atI_nat (j := 0) rfl) (ijq (?_)))))))
    refine (exq rfl (exq rfl ⟨wb, p, ts, rfl, hw, g.web, wb, p, ts, g, _, rfl, hw, .inl ⟨2 ^ ts.length - 1, e2, hlt, fun D ys H' hDn s' hD pr => (lnq rfl (.inl (SqL.of hD)) (ijq (?_)))⟩⟩))
    have hv := rank_is (g := g)
    have hy : ys.length = (rootsOf (labOf p ts g (2 ^ ts.length - 1)) p).length := by rw [pr.length, List.length_map]
    show Q (.int ((xs.length : Int) - (p : Int) + (ys.length : Int))) H'
    rw [hxl, hy, hv]
    exact q H' s'
end

def sp_is_ring (C : Addr) : Sp := fun vs H Q E => ∃ w p ts, ∃ g : GoodWeb p ts, ∃ S, vs = [.ref w, .int S] ∧ WebAt H w p ts ∧ OrBad ts S (∀ H', Same H H' → E (.ref C) none H') fun m => ∀ H', Same H H' → Q (.bl (ringB p ts g m)) H'
section
variable {P : Program} {w : World} {K : PySem.W.Frag} {mg : Str → Option Value} {base : Heap} {a : Adr}
theorem G_is_ring (T : Txt K mg a) : FnOk P w K mg base (CX1 P w) 7 a.f_is_ring a.d_is_ring ["web", "tie_set"] (sp_is_ring a.c_BadSet) := by
  have G_is_even : FnOk P w K mg base (CX1 P w) 6 a.f_is_even a.d_is_even ["web", "tie_set"] (sp_is_even a.c_BadSet) := G_is_even T
  have G_pieces : FnOk P w K mg base (CX1 P w) 5 a.f_pieces a.d_pieces ["web", "tie_set"] (sp_pieces a.c_BadSet) := G_pieces T
  have G_ties_in : FnOk P w K mg base CX0 2 a.f_ties_in a.d_ties_in ["tie_set"] sp_ties_in := G_ties_in T
  refine T.F_is_ring.ok1 sc_is_ring (fun vs H Q E h => ?_) (fun cdv A outer s H vs Q E hr h => ?_)
  · obtain ⟨w, p, ts, g, S, rfl, _⟩ := h
    rfl
  · obtain ⟨wb, p, ts, g, S, rfl, hw, q⟩ := h
    refine ⟨_, (pss_cons (ps_if (pt_not (pt_val (pe_call G_is_even (hr.mono (by decide)) (by rfl) T.m_is_even T.k_is_even T.b_is_even .nil out_of.passes (pa_cons (pv 0) (pa_cons (pv 1) pa_nil))))) (pss_one (ps_ret pe_bl)) pss_nil)
      (pss_cons (ps_comp (i := 2) sc_is_ring.nd rfl rfl (own := ["piece"]) (frees := []) (js := []) (compText_of (defScope s_is_ring) ["web", "tie_set", "touched"]) rfl (piL K (pe_call G_pieces (hr.mono (by decide)) (by rfl) T.m_pieces T.k_pieces T.b_pieces .nil out_of.passes (pa_cons (pv 0) (pa_cons (pv 1) pa_nil)))) (fun _ _ _ _ => (pg_name (i := 0) (show (["piece"] : List Str).Nodup by decide +kernel) rfl (Or.inl rfl))) (fun _ _ _ _ => (pts_one (pt_cmpR op_gt (pe_callB (lenK K) (by rfl) T.n_len PySem.boot_len (pa_cons (pv 0) pa_nil)) pe_int (nomark _)))) (fun _ _ _ _ => (pv 0)))
      (pss_one (ps_ret (pe_and (pe_cmpR op_eq (pe_callB (lenK K) (by rfl) T.n_len PySem.boot_len (pa_cons (pv 2) pa_nil)) pe_int (nomark _)) (pe_one (pe_cmpR op_eq (pe_callB (lenK K) (by rfl) T.n_len PySem.boot_len (pa_cons (pe_ix (ixL K) (pv 2) pe_int (fun _ _ => rfl)) pa_nil)) (pe_callB (lenK K) (by rfl) T.n_len PySem.boot_len (pa_cons (pe_call G_ties_in (hr.mono (by decide)) (by rfl) T.m_ties_in T.k_ties_in T.b_ties_in .nil pass0 (pa_cons (pv 1) pa_nil)) pa_nil)) (nomark _)))))))), ?_⟩
    refine hd_is_ring ?_
    intro zz0 zz1 zz2
    have W := g.web
    have wp := g.p2
    have wl := g.len
    refine (exq rfl (exq rfl ⟨wb, p, ts, S, rfl, hw, W, ?_⟩))
    rcases q with ⟨m, rfl, hm, q⟩ | ⟨hS, q⟩
    · refine .inl ⟨m, rfl, hm, fun H1 s1 => (exq rfl (?_))⟩
      by_cases ev : oddOf p ts (m : Int) = []
      · rw [decide_eq_true ev]
        rw [ringB_even ev] at q
        refine iteF (exq rfl (exq rfl ⟨wb, p, ts, g, _, rfl, hw.same s1, .inl ⟨m, rfl, hm, fun D ys H2 hDn s2 hD pr => ⟨D, rfl, ⟨_, SqL.of hD⟩, fun C hC => ?_⟩⟩⟩))
        have hyl : ys.length ≤ 10 := by
          rw [pr.length, List.length_map]
          unfold rootsOf
          have := List.length_filter_le (fun x => decide (labOf p ts g m x = x)) (List.range p)
          rw [List.length_range] at this
          exact Nat.le_trans this wp
        refine comp_list (xs := ys) (Sift (fun l => decide (1 < l.length)) ((rootsOf (labOf p ts g m) p).map (pieceOf (labOf p ts g m) p)) H2 C) (.start hC) (fun i acc H3 _ sf => ⟨SqL.of (sf.1 _ _ hD), sf.len⟩) (small24 (by (first | lia | omega))) ?_ ?_
        · intro i x acc H3 hx sf
          obtain ⟨l, hl, b, rfl, hbn, hb0, hb⟩ := Paired.getP pr hx
          refine ⟨rfl, exq rfl (lnq rfl (.inl (SqL.of (sf.1 _ _ hb))) (ijq (exq rfl (?_))))⟩
          cases hb2 : decide (1 < l.length) with
          | true =>
            have e : decide ((1 : Int) < ((natsV l).length : Int)) = true := decide_eq_true (by have := of_decide_eq_true hb2; rw [natsV_len]; (first | lia | omega))
            show if decide ((1 : Int) < ((natsV l).length : Int)) = true then _ else _
            rw [e]
            exact iteT (exq rfl (sf.yes hC hl hb2 ⟨b, rfl, hb⟩))
          | false =>
            have e : decide ((1 : Int) < ((natsV l).length : Int)) = false := decide_eq_false (by have := of_decide_eq_false hb2; rw [natsV_len]; (first | lia | omega))
            show if decide ((1 : Int) < ((natsV l).length : Int)) = true then _ else _
            rw [e]
            exact iteF (sf.no hl hb2)
        · intro acc H3 sf
          have pa : Paired (LstA H2) acc ((touchedOf (labOf p ts g m) p).map (pieceOf (labOf p ts g m) p)) := by
            have h := sf.2.2
            rw [pr.length, List.take_length, List.filter_map] at h
            exact h
          have hal := pa.length
          rw [List.length_map] at hal
          refine (exq rfl (lnq rfl (.inl (SqL.of sf.2.1)) ⟨rfl, exq rfl (?_)⟩))
          have s13 := (s1.trans s2).trans sf.1
          have hb24 : Builtin.Int.intBits (m : Int) ≤ ts.length := bits_le hm
          generalize touchedOf (labOf p ts g m) p = tl at q pa hal
          cases tl with
          | nil =>
            have hal : acc.length = 0 := hal
            rw [hal]
            exact iteF (q H3 s13)
          | cons s r =>
            cases r with
            | nil =>
              cases pa with
              | cons hy pn =>
                cases pn
                obtain ⟨b, rfl, hb⟩ := hy
                refine iteT (exq rfl (ixl (SqL.of sf.2.1) (atI_nat (j := 0) rfl) (lnq rfl (.inl (SqL.of (sf.1 _ _ hb))) (exq rfl ⟨m, rfl, by (first | lia | omega), fun D4 H4 hn4 s4 hD4 => (lnq rfl (.inl (SqL.of hD4)) ⟨rfl, ?_⟩)⟩))))
                rw [natsV_len, natsV_len, dec_nat]
                exact q H4 (s13.trans s4)
            | cons t r =>
              have hal : acc.length = r.length + 2 := hal
              have e : decide (V.int ((acc.length : Nat) : Int) = V.int 1) = false := decide_eq_false fun z => by
                have := V.int.inj z
                (first | lia | omega)
              rw [e]
              exact iteF (q H3 s13)
      · rw [decide_eq_false ev]
        have er : ringB p ts g m = false := by
          unfold ringB
          rw [decide_eq_false ev, Bool.false_and]
        rw [er] at q
        exact iteT (q H1 s1)
    · exact .inr ⟨hS, q⟩
end

def sp_trails : Sp := fun vs H Q _ => ∃ w p ts, ∃ g : GoodWeb p ts, vs = [.ref w] ∧ WebAt H w p ts ∧ ∀ D H', H D = none → Same H H' → H' D = some (.lst (mapV ((netOf p ts g).trail ts.length) p)) → Q (.ref D) H'
def sp_forest : Sp := fun vs H Q _ => ∃ w p ts, ∃ g : GoodWeb p ts, vs = [.ref w] ∧ WebAt H w p ts ∧ ∀ H', Same H H' → Q (.int ((forestN p ts g : Nat) : Int)) H'
def sp_chords : Sp := fun vs H Q _ => ∃ w p ts, ∃ g : GoodWeb p ts, vs = [.ref w] ∧ WebAt H w p ts ∧ ∀ D H', H D = none → Same H H' → H' D = some (.lst (natsV (netOf p ts g).chords)) → Q (.ref D) H'
def sp_ring_closed : Sp := fun vs H Q _ => ∃ w p ts, ∃ g : GoodWeb p ts, ∃ (D : Addr) (c : Nat), vs = [.ref w, .ref D, .int (c : Int)] ∧ WebAt H w p ts ∧ H D = some (.lst (mapV ((netOf p ts g).trail ts.length) p)) ∧ c < ts.length ∧ Q (.int (((netOf p ts g).ring c : Nat) : Int)) H
section
variable {P : Program} {w : World} {K : PySem.W.Frag} {mg : Str → Option Value} {base : Heap} {a : Adr}
theorem tie_at {H : Hp} {xs : List V} {p : Nat} {ts : List Tie} {g : GoodWeb p ts} {k : Nat} (h3 : Paired (TupAt H) xs ts) (hk : k < ts.length) : ∃ c, xs[k]? = some (.ref c) ∧ H c = some (.tup [.int (((netOf p ts g).a k : Nat) : Int), .int (((netOf p ts g).b k : Nat) : Int), .int (tieAt ts k).2.2]) := by
  have hkx : k < xs.length := by rw [h3.length]; exact hk
  obtain ⟨t, ht, c, hc, hct⟩ := Paired.getP h3 (i := k) (x := xs[k]) (by simp [hkx])
  have htt : t = tieAt ts k := by
    have z := tieAt_get hk
    rw [ht] at z
    exact Option.some.inj z
  refine ⟨c, by rw [← hc]; simp [hkx], ?_⟩
  rw [hct, ← net_a hk, ← net_b hk, htt]
  rfl
theorem G_forest_trails (T : Txt K mg a) : FnOk P w K mg base CX0 2 a.f_forest_trails a.d_forest_trails ["web"] sp_trails := by
  have G_drawn_together : FnOk P w K mg base CX0 1 a.f_drawn_together a.d_drawn_together ["leasts", "one", "other"] sp_drawn := G_drawn_together T
  refine T.F_forest_trails.ok sc_forest_trails (fun vs H Q E h => ?_) (fun cdv A outer s H vs Q E hr h => ?_)
  · obtain ⟨w, p, ts, g, rfl, _⟩ := h
    rfl
  · obtain ⟨wb, p, ts, g, rfl, hw, q⟩ := h
    refine ⟨_, (pss_cons (ps_set (i := 1) sc_forest_trails.nd rfl (Or.inl rfl) (pe_callTy (listR rfl) (by rfl) T.n_list PyProof.Rows.boot_list (pa_cons (pe_callTy call_rng (by rfl) T.n_range PyProof.Rows.boot_range (pa_cons (pe_ix (ixT K) (pv 0) pe_int (fun _ _ => rfl)) pa_nil)) pa_nil)))
      (pss_cons (ps_set (i := 2) sc_forest_trails.nd rfl (Or.inl rfl) (pe_op op_rep (pe_lst (pa_cons pe_int pa_nil)) (pe_ix (ixT K) (pv 0) pe_int (fun _ _ => rfl))))
      (pss_cons (ps_for PassesOwn.never rfl (pi_range1 (by rfl) T.n_range (pa_cons (pe_callB (lenK K) (by rfl) T.n_len PySem.boot_len (pa_cons (pe_ix (ixT K) (pv 0) pe_int (fun _ _ => rfl)) pa_nil)) pa_nil)) (pg_name (i := 3) sc_forest_trails.nd rfl (Or.inl rfl))
      (pss_cons (ps_set (i := 4) sc_forest_trails.nd rfl (Or.inl rfl) (pe_ix (ixT K) (pe_ix (ixT K) (pe_ix (ixT K) (pv 0) pe_int (fun _ _ => rfl)) (pv 3) (fun _ _ => rfl)) pe_int (fun _ _ => rfl)))
      (pss_cons (ps_set (i := 5) sc_forest_trails.nd rfl (Or.inl rfl) (pe_ix (ixT K) (pe_ix (ixT K) (pe_ix (ixT K) (pv 0) pe_int (fun _ _ => rfl)) (pv 3) (fun _ _ => rfl)) pe_int (fun _ _ => rfl)))
      (pss_one (ps_if (pt_cmpR op_ne (pe_ix (ixL K) (pv 1) (pv 4) (fun _ _ => rfl)) (pe_ix (ixL K) (pv 1) (pv 5) (fun _ _ => rfl)) (nomark _)) (pss_cons (ps_set (i := 6) sc_forest_trails.nd rfl (Or.inr rfl) (pe_op op_xor (pe_op op_xor (pe_ix (ixL K) (pv 2) (pv 4) (fun _ _ => rfl)) (pe_ix (ixL K) (pv 2) (pv 5) (fun _ _ => rfl))) (pe_op op_shl pe_int (pv 3))))
      (pss_cons (ps_set (i := 7) sc_forest_trails.nd rfl (Or.inr rfl) (pe_callB (call_max2 rfl) (by rfl) T.n_max PyProof.Rows.boot_max (pa_cons (pe_ix (ixL K) (pv 1) (pv 4) (fun _ _ => rfl)) (pa_cons (pe_ix (ixL K) (pv 1) (pv 5) (fun _ _ => rfl)) pa_nil))))
      (pss_cons (ps_comp (i := 2) sc_forest_trails.nd rfl rfl (own := ["trail", "least"]) (frees := ["bridge", "moved"]) (js := [6, 7]) (compText_of (defScope s_forest_trails) ["web", "leasts", "trails", "tie", "one", "other", "bridge", "moved"]) rfl (pi_zip K (by rfl) T.n_zip (pa_cons (pv 2) (pa_cons (pv 1) pa_nil))) (fun _ _ _ _ => (pgT K (n := 2) rfl (pgs_cons (pg_name (i := 0) (show (["trail", "least", "bridge", "moved"] : List Str).Nodup by decide +kernel) rfl (Or.inl rfl)) (pgs_cons (pg_name (i := 1) (show (["trail", "least", "bridge", "moved"] : List Str).Nodup by decide +kernel) rfl (Or.inl rfl)) pgs_nil)))) (fun _ _ _ _ => pts_nil) (fun _ _ _ _ => (pe_ifExp (pt_cmpR op_eq (pv 1) (pv 3) (nomark _)) (pe_op op_xor (pv 0) (pv 2)) (pv 0))))
      (pss_one (ps_set (i := 1) sc_forest_trails.nd rfl (Or.inl rfl) (pe_call G_drawn_together (hr.mono (by decide)) (by rfl) T.m_drawn_together T.k_drawn_together T.b_drawn_together .nil pass0 (pa_cons (pv 1) (pa_cons (pv 4) (pa_cons (pv 5) pa_nil))))))))) pss_nil)))))
      (pss_one (ps_ret (pv 2)))))), ?_⟩
    refine hd_forest_trails ?_
    intro zz0 zz1 zz2 zz3 zz4 zz5 zz6 zz7 zz8 zz9
    obtain ⟨bt, xs, h1, h2, h3⟩ := id hw.ex
    have wp := g.p2
    have wl := g.len
    have hxl := h3.length
    refine (exq rfl (ixq (SqT.of h1) (atI_nat (j := 0) rfl) (exq rfl (fun r hr => ⟨r, p, rfl, upd_same, by (first | lia | omega), fun l hl => ?_⟩))))
    have s1 : Same H (upd (upd H r (.rng 0 (p : Int))) l (.lst (rngV p))) := (Same.new hr).trans (Same.new hl)
    have hl1 : upd (upd H r (.rng 0 (p : Int))) l (.lst (rngV p)) l = some (.lst (mapV ((netOf p ts g).lab 0) p)) := upd_same
    generalize upd (upd H r (.rng 0 (p : Int))) l (.lst (rngV p)) = H1 at s1 hl1
    refine ⟨dl rfl, fun l0 hl0 => ?_⟩
    have s0 : Same H1 (upd H1 l0 (.lst [.int 0])) := Same.new hl0
    refine (exq rfl (ixq (SqT.of (s0 _ _ (s1 _ _ h1))) (atI_nat (j := 0) rfl) ⟨l0, (p : Int), exq rfl ⟨rfl, upd_same, by (first | lia | omega), by (first | lia | omega), (by rw [Int.toNat_natCast]; show 1 * p ≤ sizeLine; exact dl (Nat.ble_eq.mpr (by (first | lia | omega)))), fun e he => ?_⟩⟩))
    have s2 := s0.trans (Same.new (o := .lst (List.replicate (p : Int).toNat [V.int 0]).flatten) he)
    have he2 : upd (upd H1 l0 (.lst [.int 0])) e (.lst (List.replicate (p : Int).toNat [V.int 0]).flatten) e = some (.lst (mapV ((netOf p ts g).trail 0) p)) := by
      rw [upd_same, Int.toNat_natCast, rep_mapV]
      rfl
    generalize upd (upd H1 l0 (.lst [.int 0])) e (.lst (List.replicate (p : Int).toNat [V.int 0]).flatten) = H2 at s2 he2
    refine (exq rfl (ixq (SqT.of ((s1.trans s2) _ _ h1)) (atI_nat (j := 1) rfl) (lnq rfl (.inr (SqT.of ((s1.trans s2) _ _ h2))) (exq rfl ⟨(by (first | lia | omega)), (by (first | lia | omega)), ?_⟩))))
    refine for_range' (lo := 0) (n := (xs.length : Int).toNat) (fun k σ H3 => ∃ la ta v3 v4 v5 v6 v7, σ = [some (.ref wb), some (.ref la), some (.ref ta), v3, v4, v5, v6, v7] ∧ Same H H3 ∧ H3 la = some (.lst (mapV ((netOf p ts g).lab k) p)) ∧ H3 ta = some (.lst (mapV ((netOf p ts g).trail k) p)) ∧ H ta = none)
      ⟨l, e, none, none, none, none, none, rfl, s1.trans s2, s2 _ _ hl1, he2, s1.free (s0.free he)⟩ ?_ ?_
    · rintro k D' σ H3 hk ⟨la, ta, v3, v4, v5, v6, v7, rfl, s3, hla, hta, htn⟩
      rw [Int.toNat_natCast, hxl] at hk
      rw [Int.zero_add]
      obtain ⟨c, hxc, hct⟩ := tie_at (g := g) h3 hk
      have hA := (netOf p ts g).al k hk
      have hB := (netOf p ts g).bl k hk
      have hls := RM.lab_succ (N := netOf p ts g) k
      have hinF : (netOf p ts g).inF k = !decide ((netOf p ts g).lab k ((netOf p ts g).a k) = (netOf p ts g).lab k ((netOf p ts g).b k)) := rfl
      have htr : (netOf p ts g).trail (k + 1) = if (netOf p ts g).inF k = true then fun v => if (netOf p ts g).lab k v = max ((netOf p ts g).lab k ((netOf p ts g).a k)) ((netOf p ts g).lab k ((netOf p ts g).b k)) then (netOf p ts g).trail k v ^^^ ((netOf p ts g).trail k ((netOf p ts g).a k) ^^^ (netOf p ts g).trail k ((netOf p ts g).b k) ^^^ 2 ^ k) else (netOf p ts g).trail k v else (netOf p ts g).trail k := rfl
      generalize (netOf p ts g).a k = A0 at *
      generalize (netOf p ts g).b k = B0 at *
      refine (exq rfl (ixq (SqT.of (s3 _ _ h1)) (atI_nat (j := 1) rfl) (exq rfl (ixq (SqT.of (s3 _ _ h2)) (atI_nat (j := k) hxc) (ixq (SqT.of (s3 _ _ hct)) (atI_nat (j := 0) rfl) (?_))))))
      refine (exq rfl (ixq (SqT.of (s3 _ _ h1)) (atI_nat (j := 1) rfl) (exq rfl (ixq (SqT.of (s3 _ _ h2)) (atI_nat (j := k) hxc) (ixq (SqT.of (s3 _ _ hct)) (atI_nat (j := 1) rfl) (?_))))))
      refine (exq rfl (exq rfl (ixl (SqL.of hla) (atI_nat (j := A0) (mapV_get hA)) (exq rfl (exq rfl (ixl (SqL.of hla) (atI_nat (j := B0) (mapV_get hB)) ⟨rfl, exq rfl (?_)⟩))))))
      rw [dec_nat]
      by_cases he : (netOf p ts g).lab k A0 = (netOf p ts g).lab k B0
      · rw [decide_eq_true he] at hinF
        rw [hinF, if_neg (by decide)] at hls htr
        rw [decide_eq_true he]
        exact iteF ⟨la, ta, _, _, _, _, _, rfl, s3, by rw [hls]; exact hla, by rw [htr]; exact hta, htn⟩
      · rw [decide_eq_false he] at hinF
        rw [hinF, if_pos (by rfl)] at hls htr
        rw [decide_eq_false he]
        have hbr : Builtin.bitXor (Builtin.bitXor (((netOf p ts g).trail k A0 : Nat) : Int) (((netOf p ts g).trail k B0 : Nat) : Int)) (1 * 2 ^ (k : Int).toNat) = (((netOf p ts g).trail k A0 ^^^ (netOf p ts g).trail k B0 ^^^ 2 ^ k : Nat) : Int) := by
          rw [shl_int, xor_int, xor_int]
        refine iteT (exq rfl (exq rfl (ixl (SqL.of hta) (atI_nat (j := A0) (mapV_get hA)) (exq rfl (exq rfl (ixl (SqL.of hta) (atI_nat (j := B0) (mapV_get hB)) (ijq (exq rfl (ijq ⟨⟨by (first | lia | omega), by (first | lia | omega), by decide⟩, ijq (?_)⟩)))))))))
        refine (exq rfl (exq rfl (ixl (SqL.of hla) (atI_nat (j := A0) (mapV_get hA)) (exq rfl (exq rfl (ixl (SqL.of hla) (atI_nat (j := B0) (mapV_get hB)) ⟨_, _, rfl, ?_⟩))))))
        refine (exq rfl (exq rfl ⟨ta, la, rfl, ⟨_, SqL.of hta⟩, ⟨_, SqL.of hla⟩, fun D hD => comp_zip (xs := mapV ((netOf p ts g).trail k) p) (ys := mapV ((netOf p ts g).lab k) p) (by rw [mapV_len, mapV_len]) (Mapd ((netOf p ts g).trail (k + 1)) H3 D) (.start hD) (fun i acc H4 _ pd => ⟨SqL.of (pd.1 _ _ hta), SqL.of (pd.1 _ _ hla), pd.len⟩) (by rw [mapV_len]; exact dl (Nat.ble_eq.mpr (by (first | lia | omega)))) ?_ ?_⟩))
        · intro i x y T0 acc H4 hx hy pd hT
          obtain ⟨hi, rfl⟩ := mapV_of hx
          obtain ⟨_, rfl⟩ := mapV_of hy
          refine ⟨T0, _, rfl, SqT.of upd_same, rfl, _, _, rfl, _, _, rfl, rfl, rfl, exq rfl (exq rfl ⟨rfl, exq rfl (?_)⟩)⟩
          rw [max_int, dec_nat]
          by_cases hm : (netOf p ts g).lab k i = max ((netOf p ts g).lab k A0) ((netOf p ts g).lab k B0)
          · rw [decide_eq_true hm]
            refine iteT (exq rfl (exq rfl (ijq (pd.next hD (Same.new hT) ?_))))
            show V.int (Builtin.bitXor _ (Builtin.bitXor (Builtin.bitXor _ _) _)) = _
            rw [hbr, xor_int, htr]
            show _ = V.int (((if _ then _ else _ : Nat)) : Int)
            rw [if_pos hm]
          · rw [decide_eq_false hm]
            refine iteF (exq rfl (pd.next hD (Same.new hT) ?_))
            rw [htr]
            show _ = V.int (((if _ then _ else _ : Nat)) : Int)
            rw [if_neg hm]
        · intro acc H4 pd
          rw [mapV_len] at pd
          have hD4 : H4 D = some (.lst (mapV ((netOf p ts g).trail (k + 1)) p)) := by rw [pd.2.1, pd.2.2]
          refine (exq rfl (exq rfl (exq rfl ⟨la, (netOf p ts g).lab k, p, A0, B0, rfl, pd.1 _ _ hla, wp, hA, hB, fun D2 H5 hn5 s5 hD2 => ?_⟩)))
          exact ⟨D2, D, _, _, _, _, _, rfl, (s3.trans pd.1).trans s5, by rw [hls]; exact hD2, s5 _ _ hD4, s3.free hD⟩
    · rintro σ H3 ⟨la, ta, v3, v4, v5, v6, v7, rfl, s3, hla, hta, htn⟩
      rw [Int.toNat_natCast, hxl] at hta
      exact (exq rfl (q ta H3 htn s3 hta))
theorem G_forest (T : Txt K mg a) : FnOk P w K mg base CX0 3 a.f_forest a.d_forest ["web"] sp_forest := by
  have G_forest_trails : FnOk P w K mg base CX0 2 a.f_forest_trails a.d_forest_trails ["web"] sp_trails := G_forest_trails T
  refine T.F_forest.ok sc_forest (fun vs H Q E h => ?_) (fun cdv A outer s H vs Q E hr h => ?_)
  · obtain ⟨w, p, ts, g, rfl, _⟩ := h
    rfl
  · obtain ⟨wb, p, ts, g, rfl, hw, q⟩ := h
    refine ⟨_, (pss_cons (ps_set (i := 1) sc_forest.nd rfl (Or.inl rfl) pe_int)
      (pss_cons (ps_for PassesOwn.never rfl (piL K (pe_call G_forest_trails (hr.mono (by decide)) (by rfl) T.m_forest_trails T.k_forest_trails T.b_forest_trails .nil pass0 (pa_cons (pv 0) pa_nil))) (pg_name (i := 2) sc_forest.nd rfl (Or.inl rfl))
      (pss_one (ps_aug (i := 1) sc_forest.nd rfl (Or.inl rfl) (pv 2) iop_or)))
      (pss_one (ps_ret (pv 1))))), ?_⟩
    refine hd_forest ?_
    intro zz0 zz1 zz2
    refine (exq rfl ⟨wb, p, ts, g, rfl, hw, fun D H1 hDn s1 hD => ⟨D, rfl, ⟨_, SqL.of hD⟩, ?_⟩⟩)
    refine for_list' (K := K) (a := D) (xs := mapV ((netOf p ts g).trail ts.length) p) (fun i σ H2 => ∃ v2, σ = [some (.ref wb), some (.int ((orT ((netOf p ts g).trail ts.length) i : Nat) : Int)), v2] ∧ H2 = H1) ⟨none, rfl, rfl⟩ (fun i σ H2 _ ⟨_, _, z⟩ => by rw [z]; exact SqL.of hD) ?_ ?_
    · rintro i x D' σ H2 hx ⟨v2, rfl, rfl⟩
      obtain ⟨hi, rfl⟩ := mapV_of hx
      refine (exq rfl (exq rfl (ijq ⟨some (.int (((netOf p ts g).trail ts.length i : Nat) : Int)), ?_, rfl⟩)))
      show [_, some (V.int (Builtin.bitOr _ _)), _] = _
      rw [or_int]
      rfl
    · rintro σ H2 ⟨v2, rfl, rfl⟩
      rw [mapV_len, orT_forest]
      exact (exq rfl (q _ s1))
theorem G_chords (T : Txt K mg a) : FnOk P w K mg base CX0 4 a.f_chords a.d_chords ["web"] sp_chords := by
  have G_forest : FnOk P w K mg base CX0 3 a.f_forest a.d_forest ["web"] sp_forest := G_forest T
  have G_all_ties : FnOk P w K mg base CX0 1 a.f_all_ties a.d_all_ties ["web"] sp_all_ties := G_all_ties T
  have G_ties_in : FnOk P w K mg base CX0 2 a.f_ties_in a.d_ties_in ["tie_set"] sp_ties_in := G_ties_in T
  refine T.F_chords.ok sc_chords (fun vs H Q E h => ?_) (fun cdv A outer s H vs Q E hr h => ?_)
  · obtain ⟨w, p, ts, g, rfl, _⟩ := h
    rfl
  · obtain ⟨wb, p, ts, g, rfl, hw, q⟩ := h
    refine ⟨_, (pss_one (ps_ret (pe_call G_ties_in (hr.mono (by decide)) (by rfl) T.m_ties_in T.k_ties_in T.b_ties_in .nil pass0 (pa_cons (pe_op op_xor (pe_call G_all_ties (hr.mono (by decide)) (by rfl) T.m_all_ties T.k_all_ties T.b_all_ties .nil pass0 (pa_cons (pv 0) pa_nil)) (pe_call G_forest (hr.mono (by decide)) (by rfl) T.m_forest T.k_forest T.b_forest .nil pass0 (pa_cons (pv 0) pa_nil))) pa_nil)))), ?_⟩
    have wl := g.len
    refine (exq rfl ⟨wb, p, ts, rfl, hw, g.web, _, rfl, wb, p, ts, g, rfl, hw, fun H1 s1 => (ijq ⟨(2 ^ ts.length - 1) ^^^ forestN p ts g, ?_, ?_, fun D H2 hDn s2 hD => ?_⟩)⟩)
    · show [V.int (Builtin.bitXor _ _)] = _
      rw [pow_sub, xor_int]
    · exact Nat.le_trans (bits_le chordM_lt) (by (first | lia | omega))
    · rw [chordM_ties] at hD
      exact q D H2 (s1.free hDn) (s1.trans s2) hD
theorem G_ring_closed (T : Txt K mg a) : FnOk P w K mg base CX0 1 a.f_ring_closed a.d_ring_closed ["web", "trails", "chord"] sp_ring_closed := by
  refine T.F_ring_closed.ok sc_ring_closed (fun vs H Q E h => ?_) (fun cdv A outer s H vs Q E hr h => ?_)
  · obtain ⟨w, p, ts, g, D, c, rfl, _⟩ := h
    rfl
  · obtain ⟨wb, p, ts, g, D, c, rfl, hw, hD, hc, q⟩ := h
    refine ⟨_, (pss_cons (ps_set (i := 3) sc_ring_closed.nd rfl (Or.inl rfl) (pe_ix (ixT K) (pe_ix (ixT K) (pv 0) pe_int (fun _ _ => rfl)) (pv 2) (fun _ _ => rfl)))
      (pss_one (ps_ret (pe_op op_xor (pe_op op_xor (pe_ix (ixL K) (pv 1) (pe_ix (ixT K) (pv 3) pe_int (fun _ _ => rfl)) (fun _ _ => rfl)) (pe_ix (ixL K) (pv 1) (pe_ix (ixT K) (pv 3) pe_int (fun _ _ => rfl)) (fun _ _ => rfl))) (pe_op op_shl pe_int (pv 2)))))), ?_⟩
    refine hd_ring_closed ?_
    intro zz0
    obtain ⟨bt, xs, h1, h2, h3⟩ := id hw.ex
    have wl := g.len
    obtain ⟨b, hxc, hct⟩ := tie_at (g := g) h3 hc
    have hA := (netOf p ts g).al c hc
    have hB := (netOf p ts g).bl c hc
    refine (exq rfl (ixq (SqT.of h1) (atI_nat (j := 1) rfl) (exq rfl (ixq (SqT.of h2) (atI_nat (j := c) hxc) (?_)))))
    refine (exq rfl (exq rfl (ixq (SqT.of hct) (atI_nat (j := 0) rfl) (ixl (SqL.of hD) (atI_nat (j := (netOf p ts g).a c) (mapV_get hA)) (exq rfl (exq rfl (ixq (SqT.of hct) (atI_nat (j := 1) rfl) (ixl (SqL.of hD) (atI_nat (j := (netOf p ts g).b c) (mapV_get hB)) (ijq (exq rfl (ijq ⟨⟨by (first | lia | omega), by (first | lia | omega), by decide⟩, ijq (?_)⟩)))))))))))
    show Q (V.int (Builtin.bitXor (Builtin.bitXor _ _) _)) H
    rw [shl_int, xor_int, xor_int]
    exact q
end

def sp_chord_ring (C : Addr) : Sp := fun vs H Q E => ∃ w p ts, ∃ g : GoodWeb p ts, ∃ S, vs = [.ref w, .int S] ∧ WebAt H w p ts ∧
  ((∃ c : Nat, S = (c : Int) ∧ c ∈ (netOf p ts g).chords ∧ ∀ H', Same H H' → Q (.int (((netOf p ts g).ring c : Nat) : Int)) H') ∨ ((∀ c ∈ (netOf p ts g).chords, S ≠ ((c : Nat) : Int)) ∧ ∀ H', Same H H' → E (.ref C) none H'))
section
variable {P : Program} {w : World} {K : PySem.W.Frag} {mg : Str → Option Value} {base : Heap} {a : Adr}
theorem G_chord_ring (T : Txt K mg a) : FnOk P w K mg base (CX1 P w) 5 a.f_chord_ring a.d_chord_ring ["web", "tie"] (sp_chord_ring a.c_NoChord) := by
  have G_chords : FnOk P w K mg base CX0 4 a.f_chords a.d_chords ["web"] sp_chords := G_chords T
  have G_forest_trails : FnOk P w K mg base CX0 2 a.f_forest_trails a.d_forest_trails ["web"] sp_trails := G_forest_trails T
  have G_ring_closed : FnOk P w K mg base CX0 1 a.f_ring_closed a.d_ring_closed ["web", "trails", "chord"] sp_ring_closed := G_ring_closed T
  refine T.F_chord_ring.ok1 sc_chord_ring (fun vs H Q E h => ?_) (fun cdv A outer s H vs Q E hr h => ?_)
  · obtain ⟨w, p, ts, g, S, rfl, _⟩ := h
    rfl
  · obtain ⟨wb, p, ts, g, S, rfl, hw, q⟩ := h
    refine ⟨_, (pss_cons (ps_if (pt_cmpR (notInK K) (pv 1) (pe_call G_chords (hr.mono (by decide)) (by rfl) T.m_chords T.k_chords T.b_chords .nil pass0 (pa_cons (pv 0) pa_nil)) (by with_unfolding_all rfl)) (pss_one (ps_raise out_of.thr rfl (by rfl) T.x_NoChord PySem.F.excBase_ValueError (pa_cons pe_str pa_nil))) pss_nil)
      (pss_one (ps_ret (pe_call G_ring_closed (hr.mono (by decide)) (by rfl) T.m_ring_closed T.k_ring_closed T.b_ring_closed .nil pass0 (pa_cons (pv 0) (pa_cons (pe_call G_forest_trails (hr.mono (by decide)) (by rfl) T.m_forest_trails T.k_forest_trails T.b_forest_trails .nil pass0 (pa_cons (pv 0) pa_nil)) (pa_cons (pv 1) pa_nil))))))), ?_⟩
    refine hd_chord_ring ?_
    intro zz0 zz1
    refine (exq rfl (exq rfl ⟨wb, p, ts, g, rfl, hw, fun D H1 hDn s1 hD => (lnq rfl (.inl (SqL.of hD)) ⟨rfl, flat_nats _, _, rfl, ?_⟩)⟩))
    rcases q with ⟨c, rfl, hc, q⟩ | ⟨hS, q⟩
    · rw [inV_nats, decide_eq_true hc]
      refine iteF (exq rfl (exq rfl ⟨wb, p, ts, g, rfl, hw.same s1, fun D2 H2 hn2 s2 hD2 => (exq rfl ⟨wb, p, ts, g, D2, c, rfl, hw.same (s1.trans s2), hD2, (RM.chords_mem.mp hc).1, q _ (s1.trans s2)⟩)⟩))
    · rw [inV_no hS]
      exact iteT ⟨dl rfl, q _ s1⟩
end

def sp_check_even : Sp := fun vs H Q _ => ∃ w p ts, ∃ g : GoodWeb p ts, ∃ S, ∃ m : Nat, vs = [.ref w, .int S] ∧ S = (m : Int) ∧ WebAt H w p ts ∧ m < 2 ^ ts.length ∧ (netOf p ts g).Even m ∧ ∀ H', Same H H' → Q .non H'
def sp_by_chords : Sp := fun vs H Q _ => ∃ w p ts, ∃ g : GoodWeb p ts, ∃ S, ∃ m : Nat, vs = [.ref w, .int S] ∧ S = (m : Int) ∧ WebAt H w p ts ∧ m < 2 ^ ts.length ∧ (netOf p ts g).Even m ∧
  ∀ D H', H D = none → Same H H' → H' D = some (.lst (natsV ((netOf p ts g).chords.filter fun d => m.testBit d))) → Q (.ref D) H'
def sp_even_numbered : Sp := fun vs H Q _ => ∃ w p ts, ∃ g : GoodWeb p ts, ∃ S, ∃ z : Nat, vs = [.ref w, .int S] ∧ S = (z : Int) ∧ WebAt H w p ts ∧ z < 2 ^ (netOf p ts g).chords.length ∧
  ∀ H', Same H H' → Q (.int (((netOf p ts g).sumR z (netOf p ts g).chords 0 : Nat) : Int)) H'
def sp_number_of : Sp := fun vs H Q _ => ∃ w p ts, ∃ g : GoodWeb p ts, ∃ S, ∃ m : Nat, vs = [.ref w, .int S] ∧ S = (m : Int) ∧ WebAt H w p ts ∧ m < 2 ^ ts.length ∧ (netOf p ts g).Even m ∧
  ∀ H', Same H H' → Q (.int ((maskOf (fun i => m.testBit ((netOf p ts g).chords.getD i 0)) (netOf p ts g).chords.length : Nat) : Int)) H'
theorem chords_few {p : Nat} {ts : List Tie} {g : GoodWeb p ts} : (netOf p ts g).chords.length ≤ 24 := by
  have := List.length_filter_le (fun k => !(netOf p ts g).inF k) (List.range (netOf p ts g).n)
  rw [List.length_range] at this
  exact Nat.le_trans this g.len
section
variable {P : Program} {w : World} {K : PySem.W.Frag} {mg : Str → Option Value} {base : Heap} {a : Adr}
theorem G_check_even (T : Txt K mg a) : FnOk P w K mg base CX0 6 a.f_check_even a.d_check_even ["web", "tie_set"] sp_check_even := by
  have G_odd_points : FnOk P w K mg base (CX1 P w) 5 a.f_odd_points a.d_odd_points ["web", "tie_set"] (sp_odd_points a.c_BadSet) := G_odd_points T
  refine T.F_check_even.ok sc_check_even (fun vs H Q E h => ?_) (fun cdv A outer s H vs Q E hr h => ?_)
  · obtain ⟨w, p, ts, g, S, m, rfl, _⟩ := h
    rfl
  · obtain ⟨wb, p, ts, g, S, m, rfl, rfl, hw, hm, ev, q⟩ := h
    refine ⟨_, (pss_cons (ps_set (i := 2) sc_check_even.nd rfl (Or.inl rfl) (pe_call G_odd_points (hr.mono (by decide)) (by rfl) T.m_odd_points T.k_odd_points T.b_odd_points .nil passN (pa_cons (pv 0) (pa_cons (pv 1) pa_nil))))
      (pss_one (ps_if (pt_cmpR (op_neK K hr.units) (pv 2) (pe_lst pa_nil) (nomark _)) pss_never pss_nil))), ?_⟩
    refine hd_check_even ?_
    intro zz0 zz1
    have ho := (even_net g hm).mpr ev
    refine (exq rfl (exq rfl ⟨wb, p, ts, _, rfl, hw, g.web, .inl ⟨m, rfl, hm, fun D H1 s1 hD => ?_⟩⟩))
    rw [ho] at hD
    refine (exq rfl ⟨dl rfl, fun l hl => ⟨_, _, .lst (SqL.of (Same.new hl _ _ hD)) (nats_dat []), .lst (SqL.of upd_same) .nil, shaped_nats _, rfl, exq rfl (?_)⟩⟩)
    rw [eqv_nil]
    exact iteF (q _ (s1.trans (Same.new hl)))
theorem G_by_chords (T : Txt K mg a) : FnOk P w K mg base CX0 7 a.f_by_chords a.d_by_chords ["web", "tie_set"] sp_by_chords := by
  have G_check_even : FnOk P w K mg base CX0 6 a.f_check_even a.d_check_even ["web", "tie_set"] sp_check_even := G_check_even T
  have G_chords : FnOk P w K mg base CX0 4 a.f_chords a.d_chords ["web"] sp_chords := G_chords T
  have G_has_tie : FnOk P w K mg base CX0 1 a.f_has_tie a.d_has_tie ["tie_set", "tie"] sp_has_tie := G_has_tie T
  refine T.F_by_chords.ok sc_by_chords (fun vs H Q E h => ?_) (fun cdv A outer s H vs Q E hr h => ?_)
  · obtain ⟨w, p, ts, g, S, m, rfl, _⟩ := h
    rfl
  · obtain ⟨wb, p, ts, g, S, m, rfl, rfl, hw, hm, ev, q⟩ := h
    refine ⟨_, (pss_cons (ps_expr (pe_call G_check_even (hr.mono (by decide)) (by rfl) T.m_check_even T.k_check_even T.b_check_even .nil pass0 (pa_cons (pv 0) (pa_cons (pv 1) pa_nil))))
      (pss_one (ps_ret (pe_comp (own := ["chord"]) (frees := ["tie_set"]) (js := [1]) (compText_of (defScope s_by_chords) ["web", "tie_set"]) rfl (piL K (pe_call G_chords (hr.mono (by decide)) (by rfl) T.m_chords T.k_chords T.b_chords .nil pass0 (pa_cons (pv 0) pa_nil))) (fun _ _ _ _ => (pg_name (i := 0) (show (["chord", "tie_set"] : List Str).Nodup by decide +kernel) rfl (Or.inl rfl))) (fun _ _ _ _ => (pts_one (pt_val (pe_call G_has_tie (hr.mono (by decide)) (by rfl) T.m_has_tie T.k_has_tie T.b_has_tie .nil pass0 (pa_cons (pv 1) (pa_cons (pv 0) pa_nil)))))) (fun _ _ _ _ => (pv 0)))))), ?_⟩
    refine hd_by_chords ?_
    intro zz0
    refine (exq rfl (exq rfl ⟨wb, p, ts, g, _, m, rfl, rfl, hw, hm, ev, fun H1 s1 => ?_⟩))
    refine (exq rfl ⟨wb, p, ts, g, rfl, hw.same s1, fun D H2 hn2 s2 hD => ⟨D, rfl, ⟨_, SqL.of hD⟩, fun C hC => comp_list (xs := natsV (netOf p ts g).chords) (Filt (fun d => m.testBit d) (netOf p ts g).chords H2 C) (.start hC) (fun i acc H3 _ f => ⟨SqL.of (f.1 _ _ hD), f.len⟩) (by rw [natsV_len]; exact small24 chords_few) ?_ ?_⟩⟩)
    · intro i x acc H3 hx f
      obtain ⟨k, hk, rfl⟩ := natsV_get hx
      refine ⟨rfl, exq rfl (exq rfl ⟨(m : Int), k, rfl, exq rfl (?_)⟩)⟩
      rw [bit_nat]
      cases hb : m.testBit k with
      | true => exact (exq rfl (f.yes hC (Same.refl _) hk hb))
      | false => exact f.no (Same.refl _) hk hb
    · intro acc H3 f
      rw [natsV_len] at f
      exact q C H3 ((s1.trans s2).free hC) ((s1.trans s2).trans f.1) f.fin
theorem G_even_numbered (T : Txt K mg a) : FnOk P w K mg base CX0 7 a.f_even_numbered a.d_even_numbered ["web", "number"] sp_even_numbered := by
  have G_rank : FnOk P w K mg base CX0 6 a.f_rank a.d_rank ["web"] sp_rank := G_rank T
  have G_forest_trails : FnOk P w K mg base CX0 2 a.f_forest_trails a.d_forest_trails ["web"] sp_trails := G_forest_trails T
  have G_chords : FnOk P w K mg base CX0 4 a.f_chords a.d_chords ["web"] sp_chords := G_chords T
  have G_has_tie : FnOk P w K mg base CX0 1 a.f_has_tie a.d_has_tie ["tie_set", "tie"] sp_has_tie := G_has_tie T
  have G_ring_closed : FnOk P w K mg base CX0 1 a.f_ring_closed a.d_ring_closed ["web", "trails", "chord"] sp_ring_closed := G_ring_closed T
  refine T.F_even_numbered.ok sc_even_numbered (fun vs H Q E h => ?_) (fun cdv A outer s H vs Q E hr h => ?_)
  · obtain ⟨w, p, ts, g, S, z, rfl, _⟩ := h
    rfl
  · obtain ⟨wb, p, ts, g, S, z, rfl, rfl, hw, hz, q⟩ := h
    refine ⟨_, (pss_cons (ps_if (PW.pt (pw_or (pt_cmpR op_lt (pv 1) pe_int (nomark _)) (pw_or1 (pt_cmpR op_gt (pe_op op_shr (pv 1) (pe_call G_rank (hr.mono (by decide)) (by rfl) T.m_rank T.k_rank T.b_rank .nil pass0 (pa_cons (pv 0) pa_nil))) pe_int (nomark _))))) pss_never pss_nil)
      (pss_cons (ps_set (i := 2) sc_even_numbered.nd rfl (Or.inl rfl) (pe_call G_forest_trails (hr.mono (by decide)) (by rfl) T.m_forest_trails T.k_forest_trails T.b_forest_trails .nil pass0 (pa_cons (pv 0) pa_nil)))
      (pss_cons (ps_set (i := 3) sc_even_numbered.nd rfl (Or.inl rfl) pe_int)
      (pss_cons (ps_for PassesOwn.never rfl (pi_enum K (by rfl) T.n_enumerate (pa_cons (pe_call G_chords (hr.mono (by decide)) (by rfl) T.m_chords T.k_chords T.b_chords .nil pass0 (pa_cons (pv 0) pa_nil)) pa_nil)) (pgT K (n := 2) rfl (pgs_cons (pg_name (i := 4) sc_even_numbered.nd rfl (Or.inl rfl)) (pgs_cons (pg_name (i := 5) sc_even_numbered.nd rfl (Or.inl rfl)) pgs_nil)))
      (pss_one (ps_if (pt_val (pe_call G_has_tie (hr.mono (by decide)) (by rfl) T.m_has_tie T.k_has_tie T.b_has_tie .nil pass0 (pa_cons (pv 1) (pa_cons (pv 4) pa_nil)))) (pss_one (ps_aug (i := 3) sc_even_numbered.nd rfl (Or.inl rfl) (pe_call G_ring_closed (hr.mono (by decide)) (by rfl) T.m_ring_closed T.k_ring_closed T.b_ring_closed .nil pass0 (pa_cons (pv 0) (pa_cons (pv 2) (pa_cons (pv 5) pa_nil)))) iop_xor)) pss_nil)))
      (pss_one (ps_ret (pv 3))))))), ?_⟩
    refine hd_even_numbered ?_
    intro zz0 zz1 zz2 zz3 zz4 zz5 zz6
    have wl := g.len
    have cf := chords_few (g := g)
    refine (exq rfl (ijq (exq rfl (iteD (by (first | lia | omega)) (exq rfl (exq rfl ⟨wb, p, ts, g, rfl, hw, fun H1 s1 => (ijq ⟨(by (first | lia | omega)), ijq (exq rfl (?_))⟩)⟩))))))
    have hd0 : (z : Int) / 2 ^ (((netOf p ts g).chords.length : Nat) : Int).toNat = 0 := by
      rw [Int.toNat_natCast]
      have h2 : ((2 : Int) ^ (netOf p ts g).chords.length) = ((2 ^ (netOf p ts g).chords.length : Nat) : Int) := by simp
      rw [h2]
      exact Int.ediv_eq_zero_of_lt (by (first | lia | omega)) (by (first | lia | omega))
    dsimp only
    rw [hd0]
    refine iteF (exq rfl ⟨wb, p, ts, g, rfl, hw.same s1, fun D H2 hn2 s2 hD => ?_⟩)
    refine (exq rfl ⟨wb, p, ts, g, rfl, hw.same (s1.trans s2), fun C H3 hn3 s3 hC => ⟨C, rfl, ⟨_, SqL.of hC⟩, ?_⟩⟩)
    have s13 := (s1.trans s2).trans s3
    have hD3 := s3 _ _ hD
    refine for_enum (K := K) (a := C) (xs := natsV (netOf p ts g).chords) (fun i σ H4 => ∃ f v4 v5, σ = [some (.ref wb), some (.int (z : Int)), some (.ref D), some (.int ((f : Nat) : Int)), v4, v5] ∧ Same H3 H4 ∧ f ^^^ (netOf p ts g).sumR z ((netOf p ts g).chords.drop i) i = (netOf p ts g).sumR z (netOf p ts g).chords 0)
      ⟨0, none, none, rfl, Same.refl _, by rw [Nat.zero_xor]; rfl⟩ (fun i σ H4 _ ⟨_, _, _, _, z, _⟩ => SqL.of (z _ _ hC)) ?_ ?_
    · rintro i x T0 σ H4 hx ⟨f, v4, v5, rfl, s4, hf⟩ hT
      obtain ⟨c, hc, rfl⟩ := natsV_get hx
      have hcl := (RM.chords_mem.mp (List.mem_of_getElem? hc)).1
      rw [sumR_drop hc] at hf
      have s5 := s4.trans (Same.new (o := .tup [.int (i : Int), .int (c : Int)]) hT)
      refine ⟨T0, _, rfl, SqT.of upd_same, rfl, _, _, rfl, _, _, rfl, rfl, ?_⟩
      refine (exq rfl (exq rfl ⟨(z : Int), i, rfl, exq rfl (?_)⟩))
      rw [bit_nat]
      cases hb : z.testBit i with
      | false =>
        rw [hb, if_neg (by decide), Nat.zero_xor] at hf
        exact iteF ⟨f, _, _, rfl, s5, hf⟩
      | true =>
        rw [hb, if_pos rfl, ← Nat.xor_assoc] at hf
        refine iteT (exq rfl (exq rfl (exq rfl (exq rfl ⟨wb, p, ts, g, D, c, rfl, hw.same (s13.trans s5), s5 _ _ hD3, hcl, _, _, rfl, rfl, f ^^^ (netOf p ts g).ring c, some (.int (i : Int)), some (.int (c : Int)), ?_, s5, hf⟩))))
        show [_, _, _, some (V.int (Builtin.bitXor _ _)), _, _] = _
        rw [xor_int]
    · rintro σ H4 ⟨f, v4, v5, rfl, s4, hf⟩
      rw [natsV_len, List.drop_length] at hf
      have hf' : f ^^^ 0 = _ := hf
      rw [Nat.xor_zero] at hf'
      rw [hf']
      exact (exq rfl (q H4 (s13.trans s4)))
theorem G_number_of_even (T : Txt K mg a) : FnOk P w K mg base CX0 7 a.f_number_of_even a.d_number_of_even ["web", "tie_set"] sp_number_of := by
  have G_check_even : FnOk P w K mg base CX0 6 a.f_check_even a.d_check_even ["web", "tie_set"] sp_check_even := G_check_even T
  have G_chords : FnOk P w K mg base CX0 4 a.f_chords a.d_chords ["web"] sp_chords := G_chords T
  have G_has_tie : FnOk P w K mg base CX0 1 a.f_has_tie a.d_has_tie ["tie_set", "tie"] sp_has_tie := G_has_tie T
  refine T.F_number_of_even.ok sc_number_of_even (fun vs H Q E h => ?_) (fun cdv A outer s H vs Q E hr h => ?_)
  · obtain ⟨w, p, ts, g, S, m, rfl, _⟩ := h
    rfl
  · obtain ⟨wb, p, ts, g, S, m, rfl, rfl, hw, hm, ev, q⟩ := h
    refine ⟨_, (pss_cons (ps_expr (pe_call G_check_even (hr.mono (by decide)) (by rfl) T.m_check_even T.k_check_even T.b_check_even .nil pass0 (pa_cons (pv 0) (pa_cons (pv 1) pa_nil))))
      (pss_cons (ps_set (i := 2) sc_number_of_even.nd rfl (Or.inl rfl) pe_int)
      (pss_cons (ps_for PassesOwn.never rfl (pi_enum K (by rfl) T.n_enumerate (pa_cons (pe_call G_chords (hr.mono (by decide)) (by rfl) T.m_chords T.k_chords T.b_chords .nil pass0 (pa_cons (pv 0) pa_nil)) pa_nil)) (pgT K (n := 2) rfl (pgs_cons (pg_name (i := 3) sc_number_of_even.nd rfl (Or.inl rfl)) (pgs_cons (pg_name (i := 4) sc_number_of_even.nd rfl (Or.inl rfl)) pgs_nil)))
      (pss_one (ps_if (pt_val (pe_call G_has_tie (hr.mono (by decide)) (by rfl) T.m_has_tie T.k_has_tie T.b_has_tie .nil pass0 (pa_cons (pv 1) (pa_cons (pv 4) pa_nil)))) (pss_one (ps_aug (i := 2) sc_number_of_even.nd rfl (Or.inl rfl) (pe_op op_shl pe_int (pv 3)) iop_or)) pss_nil)))
      (pss_one (ps_ret (pv 2)))))), ?_⟩
    refine hd_number_of_even ?_
    intro zz0 zz1 zz2 zz3 zz4
    have cf := chords_few (g := g)
    refine (exq rfl (exq rfl ⟨wb, p, ts, g, _, m, rfl, rfl, hw, hm, ev, fun H1 s1 => ?_⟩))
    refine (exq rfl ⟨wb, p, ts, g, rfl, hw.same s1, fun C H3 hn3 s3 hC => ⟨C, rfl, ⟨_, SqL.of hC⟩, ?_⟩⟩)
    refine for_enum (K := K) (a := C) (xs := natsV (netOf p ts g).chords) (fun i σ H4 => ∃ v3 v4, σ = [some (.ref wb), some (.int (m : Int)), some (.int ((maskOf (fun i => m.testBit ((netOf p ts g).chords.getD i 0)) i : Nat) : Int)), v3, v4] ∧ Same H3 H4)
      ⟨none, none, rfl, Same.refl _⟩ (fun i σ H4 _ ⟨_, _, _, z⟩ => SqL.of (z _ _ hC)) ?_ ?_
    · rintro i x T0 σ H4 hx ⟨v3, v4, rfl, s4⟩ hT
      obtain ⟨c, hc, rfl⟩ := natsV_get hx
      have hil := (List.getElem?_eq_some_iff.mp hc).1
      have hg : (netOf p ts g).chords.getD i 0 = c := by rw [List.getD_eq_getElem?_getD, hc]; rfl
      have s5 := s4.trans (Same.new (o := .tup [.int (i : Int), .int (c : Int)]) hT)
      have mo := mask_or (fun i => m.testBit ((netOf p ts g).chords.getD i 0)) i
      rw [hg] at mo
      refine ⟨T0, _, rfl, SqT.of upd_same, rfl, _, _, rfl, _, _, rfl, rfl, ?_⟩
      refine (exq rfl (exq rfl ⟨(m : Int), c, rfl, exq rfl (?_)⟩))
      rw [bit_nat]
      cases hb : m.testBit c with
      | false =>
        rw [hb, if_neg (by decide), Nat.or_zero] at mo
        exact iteF ⟨_, _, by rw [← mo]; rfl, s5⟩
      | true =>
        rw [hb, if_pos rfl] at mo
        refine iteT (exq rfl (exq rfl (ijq ⟨⟨by (first | lia | omega), by (first | lia | omega), by decide⟩, ijq ⟨some (.int (i : Int)), some (.int (c : Int)), ?_, s5⟩⟩)))
        show [_, _, some (V.int (Builtin.bitOr _ (1 * 2 ^ (i : Int).toNat))), _, _] = _
        rw [shl_int, or_int, mo]
    · rintro σ H4 ⟨v3, v4, rfl, s4⟩
      rw [natsV_len]
      exact (exq rfl (q H4 ((s1.trans s3).trans s4)))
end

def sp_set_of : Sp := fun vs H Q _ => ∃ w p ts, ∃ (l : Addr) (ks : List Nat), vs = [.ref w, .ref l] ∧ WebAt H w p ts ∧ Web p ts ∧ H l = some (.lst (natsV ks)) ∧ (∀ k ∈ ks, k < ts.length) ∧ Q (.int ((orM ks : Nat) : Int)) H
section
variable {P : Program} {w : World} {K : PySem.W.Frag} {mg : Str → Option Value} {base : Heap} {a : Adr}
theorem G_set_of (T : Txt K mg a) : FnOk P w K mg base CX0 1 a.f_set_of a.d_set_of ["web", "ties"] sp_set_of := by
  refine T.F_set_of.ok sc_set_of (fun vs H Q E h => ?_) (fun cdv A outer s H vs Q E hr h => ?_)
  · obtain ⟨w, p, ts, l, ks, rfl, _⟩ := h
    rfl
  · obtain ⟨wb, p, ts, l, ks, rfl, hw, W, hl, hk, q⟩ := h
    refine ⟨_, (pss_cons (ps_set (i := 2) sc_set_of.nd rfl (Or.inl rfl) pe_int)
      (pss_cons (ps_for PassesOwn.never rfl (piL K (pv 1)) (pg_name (i := 3) sc_set_of.nd rfl (Or.inl rfl))
      (pss_cons (ps_if (PW.pt (pw_or (pt_cmpR op_lt (pv 3) pe_int (nomark _)) (pw_or1 (pt_cmpR op_ge (pv 3) (pe_callB (lenK K) (by rfl) T.n_len PySem.boot_len (pa_cons (pe_ix (ixT K) (pv 0) pe_int (fun _ _ => rfl)) pa_nil)) (nomark _))))) pss_never pss_nil)
      (pss_one (ps_aug (i := 2) sc_set_of.nd rfl (Or.inl rfl) (pe_op op_shl pe_int (pv 3)) iop_or))))
      (pss_one (ps_ret (pv 2))))), ?_⟩
    refine hd_set_of ?_
    intro zz0 zz1 zz2 zz3 zz4
    obtain ⟨bt, xs, h1, h2, h3⟩ := id hw.ex
    have hxl := h3.length
    have wl := W.len
    refine (exq rfl ⟨l, rfl, ⟨_, SqL.of hl⟩, for_list (K := K) (a := l) (xs := natsV ks) (fun i σ H2 => ∃ v3, σ = [some (.ref wb), some (.ref l), some (.int ((orM (ks.take i) : Nat) : Int)), v3] ∧ H2 = H) ⟨none, rfl, rfl⟩ (fun i σ H2 _ ⟨_, _, z⟩ => by rw [z]; exact SqL.of hl) ?_ ?_⟩)
    · rintro i x σ H2 hx ⟨v3, rfl, rfl⟩
      obtain ⟨k, hki, rfl⟩ := natsV_get hx
      have hkn := hk k (List.mem_of_getElem? hki)
      refine (exq rfl (ijq (exq rfl (iteD (by (first | lia | omega)) (exq rfl (exq rfl (ixq (SqT.of h1) (atI_nat (j := 1) rfl) (lnq rfl (.inr (SqT.of h2)) (ijq (exq rfl (iteD (by (first | lia | omega)) ?_)))))))))))
      refine (exq rfl (exq rfl (ijq ⟨⟨by (first | lia | omega), by (first | lia | omega), by decide⟩, ijq ⟨some (.int (k : Int)), ?_, rfl⟩⟩)))
      show [_, _, some (V.int (Builtin.bitOr _ (1 * 2 ^ (k : Int).toNat))), _] = _
      rw [shl_int, or_int, List.take_add_one, hki]
      unfold Ring.orM
      rw [List.foldl_append]
      rfl
    · rintro σ H2 ⟨v3, rfl, rfl⟩
      rw [natsV_len, List.take_length]
      exact (exq rfl (q))
end

def sp_tie_at : Sp := fun vs H Q _ => ∃ w p ts, ∃ g : GoodWeb p ts, ∃ S, ∃ m x t : Nat, vs = [.ref w, .int S, .int (x : Int)] ∧ S = (m : Int) ∧ WebAt H w p ts ∧ m < 2 ^ ts.length ∧ ((netOf p ts g).tiesAt m x)[0]? = some t ∧ ∀ H', Same H H' → Q (.int (t : Int)) H'
def sp_far_end : Sp := fun vs H Q _ => ∃ w p ts, ∃ g : GoodWeb p ts, ∃ t x : Nat, vs = [.ref w, .int (t : Int), .int (x : Int)] ∧ WebAt H w p ts ∧ t < ts.length ∧ Q (.int (((netOf p ts g).far t x : Nat) : Int)) H
def sp_ring_within : Sp := fun vs H Q _ => ∃ w p ts, ∃ g : GoodWeb p ts, ∃ S, ∃ m : Nat, vs = [.ref w, .int S] ∧ S = (m : Int) ∧ WebAt H w p ts ∧ m < 2 ^ ts.length ∧ (netOf p ts g).Even m ∧ m ≠ 0 ∧
  ∀ (r : Nat) H', Same H H' → RM.Cl (netOf p ts g) m r → Q (.int (r : Int)) H'
def sp_parted : Sp := fun vs H Q _ => ∃ w p ts, ∃ g : GoodWeb p ts, ∃ S, ∃ m : Nat, vs = [.ref w, .int S] ∧ S = (m : Int) ∧ WebAt H w p ts ∧ m < 2 ^ ts.length ∧ (netOf p ts g).Even m ∧
  ∀ D H' (rs ls : List Nat), H D = none → Same H H' → H' D = some (.lst (natsV ls)) → RM.Pt (netOf p ts g) m rs 0 → ls.Perm rs → ls.length ≤ 24 → Q (.ref D) H'
theorem cut_two (u v z : V) : cutV [u, v, z] none (some 2) = [u, v] := rfl
theorem in_two (x u v : Nat) : inV (.int (x : Int)) [.int (u : Int), .int (v : Int)] = decide (u = x ∨ v = x) := by
  have e : ([.int (u : Int), .int (v : Int)] : List V) = natsV [u, v] := rfl
  rw [e, inV_nats]
  refine decide_eq_decide.mpr ?_
  simp [eq_comm]
theorem tiesAt_is {p : Nat} {ts : List Tie} {g : GoodWeb p ts} {m x : Nat} (hm : m < 2 ^ ts.length) : (tiesOf (m : Int)).filter (fun t => decide ((netOf p ts g).a t = x ∨ (netOf p ts g).b t = x)) = (netOf p ts g).tiesAt m x := by
  rw [ties_nat hm, List.filter_filter]
  unfold RM.Net.tiesAt
  refine List.filter_congr fun k _ => ?_
  rw [Bool.and_comm, Bool.decide_or]
theorem ties_first {m : Nat} (h : m ≠ 0) : ∃ c, (tiesOf (m : Int))[0]? = some c ∧ m.testBit c = true := by
  obtain ⟨k, hk⟩ := Nat.exists_testBit_of_ne_zero h
  have hm : k ∈ tiesOf (m : Int) := by
    unfold tiesOf
    refine List.mem_filter.mpr ⟨List.mem_range.mpr (Nat.lt_of_not_le fun z => ?_), by rw [bit_nat]; exact hk⟩
    have := bit_high z
    rw [bit_nat, hk] at this
    cases this
  cases e : tiesOf (m : Int) with
  | nil =>
    rw [e] at hm
    cases hm
  | cons c r =>
    have hc : c ∈ tiesOf (m : Int) := by rw [e]; exact List.mem_cons_self
    unfold tiesOf at hc
    have := (List.mem_filter.mp hc).2
    rw [bit_nat] at this
    exact ⟨c, rfl, this⟩
section
variable {P : Program} {w : World} {K : PySem.W.Frag} {mg : Str → Option Value} {base : Heap} {a : Adr}
theorem G_tie_at (T : Txt K mg a) : FnOk P w K mg base CX0 3 a.f_tie_at a.d_tie_at ["web", "tie_set", "point"] sp_tie_at := by
  have G_ties_in : FnOk P w K mg base CX0 2 a.f_ties_in a.d_ties_in ["tie_set"] sp_ties_in := G_ties_in T
  refine T.F_tie_at.ok sc_tie_at (fun vs H Q E h => ?_) (fun cdv A outer s H vs Q E hr h => ?_)
  · obtain ⟨w, p, ts, g, S, m, x, t, rfl, _⟩ := h
    rfl
  · obtain ⟨wb, p, ts, g, S, m, x, t0, rfl, rfl, hw, hm, ht0, q⟩ := h
    refine ⟨_, (pss_one (ps_ret (pe_ix (ixL K) (pe_comp (own := ["tie"]) (frees := ["web", "point"]) (js := [0, 2]) (compText_of (defScope s_tie_at) ["web", "tie_set", "point"]) rfl (piL K (pe_call G_ties_in (hr.mono (by decide)) (by rfl) T.m_ties_in T.k_ties_in T.b_ties_in .nil pass0 (pa_cons (pv 1) pa_nil))) (fun _ _ _ _ => (pg_name (i := 0) (show (["tie", "web", "point"] : List Str).Nodup by decide +kernel) rfl (Or.inl rfl))) (fun _ _ _ _ => (pts_one (pt_cmpR (inK K) (pv 2) (pe_slice (slT K) (pe_ix (ixT K) (pe_ix (ixT K) (pv 1) pe_int (fun _ _ => rfl)) (pv 0) (fun _ _ => rfl)) po_none (po_some pe_int)) (by with_unfolding_all rfl)))) (fun _ _ _ _ => (pv 0))) pe_int (fun _ _ => rfl)))), ?_⟩
    obtain ⟨bt, xs, h1, h2, h3⟩ := id hw.ex
    have hxl := h3.length
    have wl := g.len
    have hb24 : Builtin.Int.intBits (m : Int) ≤ ts.length := bits_le hm
    refine (exq rfl ⟨m, rfl, by (first | lia | omega), fun D H1 hn1 s1 hD => ⟨D, rfl, ⟨_, SqL.of hD⟩, fun C hC => comp_list (xs := natsV (tiesOf (m : Int))) (Filt (fun t => decide ((netOf p ts g).a t = x ∨ (netOf p ts g).b t = x)) (tiesOf (m : Int)) H1 C) (.start hC) (fun i acc H2 _ f => ⟨SqL.of (f.1 _ _ hD), f.len⟩) ?_ ?_ ?_⟩⟩)
    · rw [natsV_len]
      refine small24 (Nat.le_trans (List.length_filter_le _ _) ?_)
      rw [List.length_range]
      (first | lia | omega)
    · intro i y acc H2 hy f
      obtain ⟨t, ht, rfl⟩ := natsV_get hy
      have htl := ties_lt hm (List.mem_of_getElem? ht)
      obtain ⟨b, hxb, hct⟩ := tie_in (g := g) h3 htl
      have s2 := s1.trans f.1
      refine ⟨rfl, exq rfl (exq rfl (ixq (SqT.of (s2 _ _ h1)) (atI_nat (j := 1) rfl) (exq rfl (ixq (SqT.of (s2 _ _ h2)) (atI_nat (j := t) hxb) (?_)))))⟩
      refine (exq rfl ⟨b, _, rfl, SqT.of (s2 _ _ hct), (fun z => absurd (show HT.sIx 3 3 (some 2) = 3 from z.2) (by decide)), fun u hu => ?_⟩)
      rw [cut_two]
      refine (lnq rfl (.inr (SqT.of upd_same)) ⟨rfl, rfl, exq rfl (?_)⟩)
      dsimp only
      rw [in_two]
      cases hb : decide ((netOf p ts g).a t = x ∨ (netOf p ts g).b t = x) with
      | true => exact (exq rfl (f.yes hC (Same.new hu) ht hb))
      | false => exact f.no (Same.new hu) ht hb
    · intro acc H2 f
      rw [natsV_len] at f
      have hC2 := f.fin
      rw [tiesAt_is hm] at hC2
      exact (ixl (SqL.of hC2) (atI_nat (j := 0) (nats_at ht0)) (q H2 (s1.trans f.1)))
theorem G_far_end (T : Txt K mg a) : FnOk P w K mg base CX0 1 a.f_far_end a.d_far_end ["web", "tie", "point"] sp_far_end := by
  refine T.F_far_end.ok sc_far_end (fun vs H Q E h => ?_) (fun cdv A outer s H vs Q E hr h => ?_)
  · obtain ⟨w, p, ts, g, t, x, rfl, _⟩ := h
    rfl
  · obtain ⟨wb, p, ts, g, t, x, rfl, hw, ht, q⟩ := h
    refine ⟨_, (pss_cons (ps_set (i := 3) sc_far_end.nd rfl (Or.inl rfl) (pe_ix (ixT K) (pe_ix (ixT K) (pv 0) pe_int (fun _ _ => rfl)) (pv 1) (fun _ _ => rfl)))
      (pss_one (ps_ret (pe_ifExp (pt_cmpR op_eq (pe_ix (ixT K) (pv 3) pe_int (fun _ _ => rfl)) (pv 2) (nomark _)) (pe_ix (ixT K) (pv 3) pe_int (fun _ _ => rfl)) (pe_ix (ixT K) (pv 3) pe_int (fun _ _ => rfl)))))), ?_⟩
    refine hd_far_end ?_
    intro zz0
    obtain ⟨bt, xs, h1, h2, h3⟩ := id hw.ex
    obtain ⟨b, hxb, hct⟩ := tie_in (g := g) h3 ht
    refine (exq rfl (ixq (SqT.of h1) (atI_nat (j := 1) rfl) (exq rfl (ixq (SqT.of h2) (atI_nat (j := t) hxb) (?_)))))
    refine (exq rfl (ixq (SqT.of hct) (atI_nat (j := 0) rfl) (exq rfl ⟨rfl, exq rfl (?_)⟩)))
    rw [dec_nat]
    unfold RM.Net.far at q
    by_cases e : (netOf p ts g).a t = x
    · rw [if_pos e] at q
      rw [decide_eq_true e]
      exact iteT (exq rfl (ixq (SqT.of hct) (atI_nat (j := 1) rfl) (q)))
    · rw [if_neg e] at q
      rw [decide_eq_false e]
      exact iteF (exq rfl (ixq (SqT.of hct) (atI_nat (j := 0) rfl) (q)))
theorem G_ring_within (T : Txt K mg a) : FnOk P w K mg base CX0 4 a.f_ring_within a.d_ring_within ["web", "even"] sp_ring_within := by
  have G_ties_in : FnOk P w K mg base CX0 2 a.f_ties_in a.d_ties_in ["tie_set"] sp_ties_in := G_ties_in T
  have G_tie_at : FnOk P w K mg base CX0 3 a.f_tie_at a.d_tie_at ["web", "tie_set", "point"] sp_tie_at := G_tie_at T
  have G_far_end : FnOk P w K mg base CX0 1 a.f_far_end a.d_far_end ["web", "tie", "point"] sp_far_end := G_far_end T
  have G_set_of : FnOk P w K mg base CX0 1 a.f_set_of a.d_set_of ["web", "ties"] sp_set_of := G_set_of T
  refine T.F_ring_within.ok sc_ring_within (fun vs H Q E h => ?_) (fun cdv A outer s H vs Q E hr h => ?_)
  · obtain ⟨w, p, ts, g, S, m, rfl, _⟩ := h
    rfl
  · obtain ⟨wb, p, ts, g, S, m, rfl, rfl, hw, hm, ev, hm0, q⟩ := h
    refine ⟨_, (pss_cons (ps_set (i := 2) sc_ring_within.nd rfl (Or.inl rfl) (pe_lst (pa_cons (pe_ix (ixT K) (pe_ix (ixT K) (pe_ix (ixT K) (pv 0) pe_int (fun _ _ => rfl)) (pe_ix (ixL K) (pe_call G_ties_in (hr.mono (by decide)) (by rfl) T.m_ties_in T.k_ties_in T.b_ties_in .nil pass0 (pa_cons (pv 1) pa_nil)) pe_int (fun _ _ => rfl)) (fun _ _ => rfl)) pe_int (fun _ _ => rfl)) pa_nil)))
      (pss_cons (ps_set (i := 3) sc_ring_within.nd rfl (Or.inl rfl) (pe_lst pa_nil))
      (pss_cons (ps_set (i := 4) sc_ring_within.nd rfl (Or.inl rfl) (pv 1))
      (pss_cons (ps_while PassesOwn.never (pt_cmpR op_eq (bmK K (pe_bm PySem.F.plainAttrs_list PySem.F.slot_list_count PySem.F.type_list_count mt_count (pv 2) (pa_cons (pe_ix (ixL K) (pv 2) (pe_un un_neg pe_int) (fun _ _ => rfl)) pa_nil))) pe_int (nomark _)) (pss_cons (ps_set (i := 5) sc_ring_within.nd rfl (Or.inl rfl) (pe_call G_tie_at (hr.mono (by decide)) (by rfl) T.m_tie_at T.k_tie_at T.b_tie_at .nil pass0 (pa_cons (pv 0) (pa_cons (pv 4) (pa_cons (pe_ix (ixL K) (pv 2) (pe_un un_neg pe_int) (fun _ _ => rfl)) pa_nil)))))
      (pss_cons (ps_expr (bmK K (pe_bm PySem.F.plainAttrs_list PySem.F.slot_list_append PySem.F.type_list_append mt_append (pv 3) (pa_cons (pv 5) pa_nil))))
      (pss_cons (ps_expr (bmK K (pe_bm PySem.F.plainAttrs_list PySem.F.slot_list_append PySem.F.type_list_append mt_append (pv 2) (pa_cons (pe_call G_far_end (hr.mono (by decide)) (by rfl) T.m_far_end T.k_far_end T.b_far_end .nil pass0 (pa_cons (pv 0) (pa_cons (pv 5) (pa_cons (pe_ix (ixL K) (pv 2) (pe_un un_neg pe_int) (fun _ _ => rfl)) pa_nil)))) pa_nil))))
      (pss_one (ps_aug (i := 4) sc_ring_within.nd rfl (Or.inl rfl) (pe_op op_shl pe_int (pv 5)) iop_xor))))))
      (pss_one (ps_ret (pe_call G_set_of (hr.mono (by decide)) (by rfl) T.m_set_of T.k_set_of T.b_set_of .nil pass0 (pa_cons (pv 0) (pa_cons (pe_slice (slL K) (pv 3) (po_some (bmK K (pe_bm PySem.F.plainAttrs_list PySem.F.slot_list_index PySem.F.type_list_index mt_index (pv 2) (pa_cons (pe_ix (ixL K) (pv 2) (pe_un un_neg pe_int) (fun _ _ => rfl)) pa_nil)))) po_none) pa_nil))))))))), ?_⟩
    refine hd_ring_within ?_
    intro zz0 zz1 zz2 zz3 zz4 zz5 zz6 zz7
    obtain ⟨bt, xs, h1, h2, h3⟩ := id hw.ex
    have wl := g.len
    have wp := g.p2
    have hb24 : Builtin.Int.intBits (m : Int) ≤ ts.length := bits_le hm
    obtain ⟨c, hc0, hcb⟩ := ties_first hm0
    have hc1 : ((List.range (netOf p ts g).n).filter fun k => m.testBit k)[0]? = some c := by show ((List.range ts.length).filter _)[0]? = some c; rw [← ties_nat hm]; exact hc0
    have hcl := RM.bits_lt hm hcb
    obtain ⟨b, hxb, hct⟩ := tie_in (g := g) h3 hcl
    refine (exq rfl (ixq (SqT.of h1) (atI_nat (j := 1) rfl) (exq rfl ⟨m, rfl, by (first | lia | omega), fun D H1 hn1 s1 hD => (ixl (SqL.of hD) (atI_nat (j := 0) (nats_at hc0)) (ixq (SqT.of (s1 _ _ h2)) (atI_nat (j := c) hxb) (ixq (SqT.of (s1 _ _ hct)) (atI_nat (j := 0) rfl) ⟨dl rfl, fun Pp hPp => ?_⟩)))⟩)))
    have s2 : Same H (upd H1 Pp (.lst [.int (((netOf p ts g).a c : Nat) : Int)])) := s1.trans (Same.new hPp)
    have hP2 : upd H1 Pp (.lst [.int (((netOf p ts g).a c : Nat) : Int)]) Pp = some (.lst (natsV ([] ++ [(netOf p ts g).a c]))) := upd_same
    generalize upd H1 Pp (.lst [.int (((netOf p ts g).a c : Nat) : Int)]) = H2 at s2 hP2
    have hPn : H Pp = none := s1.free hPp
    refine ⟨dl rfl, fun Tt hTt => ?_⟩
    have hTn : H Tt = none := s2.free hTt
    have hTP : Tt ≠ Pp := Ne.symm (ne_of_none hP2 hTt)
    have s3 : Same H (upd H2 Tt (.lst [])) := s2.trans (Same.new hTt)
    have hP3 : upd H2 Tt (.lst []) Pp = some (.lst (natsV ([] ++ [(netOf p ts g).a c]))) := by rw [upd_ne (Ne.symm hTP)]; exact hP2
    have hT3 : upd H2 Tt (.lst []) Tt = some (.lst (natsV [])) := upd_same
    generalize upd H2 Tt (.lst []) = H3 at s3 hP3 hT3
    refine (exq rfl ⟨fun k σ H4 => ∃ pre v ks left v5, σ = [some (.ref wb), some (.int (m : Int)), some (.ref Pp), some (.ref Tt), some (.int ((left : Nat) : Int)), v5] ∧ Same H H4 ∧ H4 Pp = some (.lst (natsV (pre ++ [v]))) ∧ H4 Tt = some (.lst (natsV ks)) ∧ RM.Wn (netOf p ts g) m pre v ks left ∧ k = p + 1 - pre.length, ⟨p + 1, [], (netOf p ts g).a c, [], m, none, rfl, s3, hP3, hT3, RM.Wn.start hc1, rfl⟩, ?_⟩)
    rintro k σ H4 ⟨pre, v, ks, left, v5, rfl, s4, hP4, hT4, wn, rfl⟩
    have wy := RM.wn_way (N := netOf p ts g) hm ev wn
    have hlen := wy.w.len
    refine (exq rfl ⟨.inl ⟨rfl, _, SqL.of hP4⟩, exq rfl (exq rfl (ixl (SqL.of hP4) (at_last pre v) ⟨Pp, _, _, rfl, rfl, hP4, rfl, flat_nats _, rfl, exq rfl (?_)⟩))⟩)
    rw [count_nats, count_end]
    by_cases hv : v ∉ pre
    · rw [decide_eq_true hv]
      have hfew := wy.few hv
      have hpe : (netOf p ts g).p = p := rfl
      rw [hpe] at hfew
      refine iteT ⟨fun σ H5 => ∃ pre' v ks left v5, σ = [some (.ref wb), some (.int (m : Int)), some (.ref Pp), some (.ref Tt), some (.int ((left : Nat) : Int)), v5] ∧ Same H H5 ∧ H5 Pp = some (.lst (natsV (pre' ++ [v]))) ∧ H5 Tt = some (.lst (natsV ks)) ∧ RM.Wn (netOf p ts g) m pre' v ks left ∧ pre'.length = pre.length + 1, fun σ H5 ⟨pre', v, ks, left, v5, z1, z2, z3, z4, z5, z6⟩ => ⟨p + 1 - pre'.length, by (first | lia | omega), pre', v, ks, left, v5, z1, z2, z3, z4, z5, rfl⟩, ?_⟩
      obtain ⟨t, ht0⟩ := RM.wn_on (N := netOf p ts g) hm ev wn hv
      obtain ⟨_, ht, hx⟩ := RM.tiesAt_mem.mp (List.mem_of_getElem? ht0)
      refine (exq rfl (exq rfl (exq rfl (exq rfl (ixl (SqL.of hP4) (at_last pre v) ⟨wb, p, ts, g, _, left, v, t, rfl, rfl, hw.same s4, wy.left_lt, ht0, fun H5 s5 => ?_⟩)))))
      have htl : t < ts.length := RM.bits_lt wy.left_lt ht
      have hP5 := s5 _ _ hP4
      have hT5 := s5 _ _ hT4
      refine (exq rfl ⟨.inl ⟨rfl, _, SqL.of hT5⟩, exq rfl ⟨Tt, _, _, rfl, rfl, hT5, smallL (by rw [natsV_len]; (first | lia | omega)), ?_⟩⟩)
      have s6 : Same H (upd H5 Tt (.lst (natsV ks ++ [.int (t : Int)]))) := (s4.trans s5).put hTn
      have hP6 : upd H5 Tt (.lst (natsV ks ++ [.int (t : Int)])) Pp = some (.lst (natsV (pre ++ [v]))) := by rw [upd_ne (Ne.symm hTP)]; exact hP5
      have hT6 : upd H5 Tt (.lst (natsV ks ++ [.int (t : Int)])) Tt = some (.lst (natsV (ks ++ [t]))) := by rw [upd_same, natsV_snoc]
      generalize upd H5 Tt (.lst (natsV ks ++ [.int (t : Int)])) = H6 at s6 hP6 hT6
      refine (exq rfl ⟨.inl ⟨rfl, _, SqL.of hP6⟩, exq rfl (exq rfl (exq rfl (exq rfl (ixl (SqL.of hP6) (at_last pre v) ⟨wb, p, ts, g, t, v, rfl, hw.same s6, htl, Pp, _, _, rfl, rfl, hP6, smallL (by rw [natsV_len, List.length_append]; simp; (first | lia | omega)), ?_⟩))))⟩)
      have wn2 := RM.Wn.next wn hv ht0
      generalize (netOf p ts g).far t v = u at wn2
      have s7 : Same H (upd H6 Pp (.lst (natsV (pre ++ [v]) ++ [.int (u : Int)]))) := s6.put hPn
      have hP7 : upd H6 Pp (.lst (natsV (pre ++ [v]) ++ [.int (u : Int)])) Pp = some (.lst (natsV (pre ++ [v] ++ [u]))) := by rw [upd_same, natsV_snoc (pre ++ [v]) u]
      have hT7 : upd H6 Pp (.lst (natsV (pre ++ [v]) ++ [.int (u : Int)])) Tt = some (.lst (natsV (ks ++ [t]))) := by rw [upd_ne hTP]; exact hT6
      generalize upd H6 Pp (.lst (natsV (pre ++ [v]) ++ [.int (u : Int)])) = H7 at s7 hP7 hT7
      refine (exq rfl (exq rfl (ijq ⟨⟨by (first | lia | omega), by (first | lia | omega), by decide⟩, ijq ⟨pre ++ [v], u, ks ++ [t], left ^^^ 2 ^ t, some (.int (t : Int)), ?_, s7, hP7, hT7, wn2, by simp⟩⟩)))
      show [_, _, _, _, some (V.int (Builtin.bitXor _ (1 * 2 ^ (t : Int).toNat))), _] = _
      rw [shl_int, xor_int]
    · rw [decide_eq_false hv]
      refine iteF ?_
      have hv : v ∈ pre := Classical.not_not.mp hv
      obtain ⟨i, hi, hix⟩ := first_at hv wy.nd
      have hil := (List.getElem?_eq_some_iff.mp hi).1
      refine (exq rfl (exq rfl (exq rfl ⟨.inl ⟨rfl, _, SqL.of hP4⟩, exq rfl (exq rfl (ixl (SqL.of hP4) (at_last pre v) ⟨Pp, _, _, i, rfl, rfl, hP4, rfl, flat_nats _, (by rw [natsV_len, List.length_append]; simp; (first | lia | omega)), hix, _, rfl, Tt, _, rfl, SqL.of hT4, fun Cc hCc => ?_⟩))⟩)))
      rw [cut_from ks (by (first | lia | omega))]
      exact ⟨wb, p, ts, Cc, ks.drop i, rfl, hw.same (s4.trans (Same.new hCc)), g.web, upd_same, fun k hk => wy.w.lt k (List.mem_of_mem_drop hk), q _ _ (s4.trans (Same.new hCc)) ⟨pre, v, ks, left, i, wn, hi, wy.nd, rfl⟩⟩
theorem G_parted (T : Txt K mg a) : FnOk P w K mg base CX0 7 a.f_parted a.d_parted ["web", "tie_set"] sp_parted := by
  have G_check_even : FnOk P w K mg base CX0 6 a.f_check_even a.d_check_even ["web", "tie_set"] sp_check_even := G_check_even T
  have G_ring_within : FnOk P w K mg base CX0 4 a.f_ring_within a.d_ring_within ["web", "even"] sp_ring_within := G_ring_within T
  refine T.F_parted.ok sc_parted (fun vs H Q E h => ?_) (fun cdv A outer s H vs Q E hr h => ?_)
  · obtain ⟨w, p, ts, g, S, m, rfl, _⟩ := h
    rfl
  · obtain ⟨wb, p, ts, g, S, m, rfl, rfl, hw, hm, ev, q⟩ := h
    refine ⟨_, (pss_cons (ps_expr (pe_call G_check_even (hr.mono (by decide)) (by rfl) T.m_check_even T.k_check_even T.b_check_even .nil pass0 (pa_cons (pv 0) (pa_cons (pv 1) pa_nil))))
      (pss_cons (ps_set (i := 2) sc_parted.nd rfl (Or.inl rfl) (pe_lst pa_nil))
      (pss_cons (ps_set (i := 3) sc_parted.nd rfl (Or.inl rfl) (pv 1))
      (pss_cons (ps_while PassesOwn.never (pt_cmpR op_gt (pv 3) pe_int (nomark _)) (pss_cons (ps_set (i := 4) sc_parted.nd rfl (Or.inl rfl) (pe_call G_ring_within (hr.mono (by decide)) (by rfl) T.m_ring_within T.k_ring_within T.b_ring_within .nil pass0 (pa_cons (pv 0) (pa_cons (pv 3) pa_nil))))
      (pss_cons (ps_expr (bmK K (pe_bm PySem.F.plainAttrs_list PySem.F.slot_list_append PySem.F.type_list_append mt_append (pv 2) (pa_cons (pv 4) pa_nil))))
      (pss_one (ps_aug (i := 3) sc_parted.nd rfl (Or.inl rfl) (pv 4) iop_xor)))))
      (pss_one (ps_ret (pe_callB (sortedK K) (by rfl) T.n_sorted PyProof.Rows.boot_sorted (pa_cons (pv 2) pa_nil)))))))), ?_⟩
    refine hd_parted ?_
    intro zz0 zz1 zz2 zz3 zz4 zz5 zz6
    have wl := g.len
    refine (exq rfl (exq rfl ⟨wb, p, ts, g, _, m, rfl, rfl, hw, hm, ev, fun H1 s1 => ⟨dl rfl, fun F hF => ?_⟩⟩))
    have hFn : H F = none := s1.free hF
    have s2 : Same H (upd H1 F (.lst [])) := s1.trans (Same.new hF)
    have hF2 : upd H1 F (.lst []) F = some (.lst (natsV [])) := upd_same
    generalize upd H1 F (.lst []) = H2 at s2 hF2
    have hc24 : RM.cnt (fun k => m.testBit k) ts.length ≤ 24 := by
      rw [← ties_cnt hm]
      unfold tiesOf
      refine Nat.le_trans (List.length_filter_le _ _) ?_
      rw [List.length_range]
      have : Builtin.Int.intBits (m : Int) ≤ ts.length := bits_le hm
      (first | lia | omega)
    refine (exq rfl ⟨fun k σ H4 => ∃ rs left v4, σ = [some (.ref wb), some (.int (m : Int)), some (.ref F), some (.int ((left : Nat) : Int)), v4] ∧ Same H H4 ∧ H4 F = some (.lst (natsV rs)) ∧ RM.Pt (netOf p ts g) m rs left ∧ left = k, ⟨m, [], m, none, rfl, s2, hF2, RM.Pt.start, rfl⟩, ?_⟩)
    rintro k σ H4 ⟨rs, left, v4, rfl, s4, hF4, pt, rfl⟩
    obtain ⟨hl, el, _, _, _⟩ := RM.pt_facts (N := netOf p ts g) hm ev pt
    have hn : rs.length + RM.cnt (fun k => left.testBit k) ts.length ≤ RM.cnt (fun k => m.testBit k) ts.length := RM.pt_len (N := netOf p ts g) hm ev pt
    refine (exq rfl (ijq (exq rfl (ite2 (fun hpos => ?_) (fun hpos => ?_)))))
    · have hpos : (0 : Int) < ((left : Nat) : Int) := of_decide_eq_true hpos
      have hne : left ≠ 0 := by (first | lia | omega)
      refine ⟨fun σ H5 => ∃ rs left' v4, σ = [some (.ref wb), some (.int (m : Int)), some (.ref F), some (.int ((left' : Nat) : Int)), v4] ∧ Same H H5 ∧ H5 F = some (.lst (natsV rs)) ∧ RM.Pt (netOf p ts g) m rs left' ∧ left' < left, fun σ H5 ⟨rs, left', v4, z1, z2, z3, z4, z5⟩ => ⟨left', z5, rs, left', v4, z1, z2, z3, z4, rfl⟩, ?_⟩
      refine (exq rfl (exq rfl ⟨wb, p, ts, g, _, left, rfl, rfl, hw.same s4, hl, el, hne, fun r H5 s5 cl => ?_⟩))
      have hF5 := s5 _ _ hF4
      obtain ⟨c1, c2, c3⟩ := RM.cl_facts (N := netOf p ts g) hl el cl
      refine (exq rfl ⟨.inl ⟨rfl, _, SqL.of hF5⟩, exq rfl ⟨F, _, _, rfl, rfl, hF5, smallL (by rw [natsV_len]; (first | lia | omega)), ?_⟩⟩)
      have hdec : left ^^^ r < left := by
        have h1 := xor_and left r
        have h2 : left &&& r = r := by
          rw [Nat.and_comm]
          exact sub_iff.mpr c3
        rw [h2] at h1
        have : 0 < r := Nat.pos_of_ne_zero c1.1
        (first | lia | omega)
      refine (exq rfl (exq rfl (ijq ⟨rs ++ [r], left ^^^ r, some (.int (r : Int)), ?_, ((s4.trans s5).put hFn), by rw [upd_same, natsV_snoc], RM.Pt.next pt hne cl, hdec⟩)))
      show [_, _, _, some (V.int (Builtin.bitXor _ _)), _] = _
      rw [xor_int]
    · have hz : left = 0 := by
        have : ¬ (0 : Int) < ((left : Nat) : Int) := fun z => hpos (decide_eq_true z)
        (first | lia | omega)
      subst hz
      refine (exq rfl ⟨F, rs.map fun x => ((x : Nat) : Int), rfl, SqL.of (by rw [hF4, natsV_ints]), by rw [List.length_map]; (first | lia | omega), fun l ns' hl hp hs => ?_⟩)
      have hnat : ∀ x ∈ ns', ((x.toNat : Nat) : Int) = x := fun x hx => by
        obtain ⟨y, _, rfl⟩ := List.mem_map.mp (hp.mem_iff.mp hx)
        rfl
      have hperm : (ns'.map Int.toNat).Perm rs := by
        have h := hp.map Int.toNat
        rw [List.map_map] at h
        have e : rs.map (Int.toNat ∘ fun x => ((x : Nat) : Int)) = rs := by
          rw [show (Int.toNat ∘ fun x => ((x : Nat) : Int)) = id from funext fun x => rfl]
          simp
        rw [e] at h
        exact h
      have hval : ns'.map V.int = natsV (ns'.map Int.toNat) := by
        unfold natsV
        rw [List.map_map]
        exact List.map_congr_left fun x hx => by show V.int x = V.int ((x.toNat : Nat) : Int); rw [hnat x hx]
      refine q l _ rs (ns'.map Int.toNat) (s4.free hl) (s4.trans (Same.new hl)) (by rw [upd_same, hval]) pt hperm (by rw [hperm.length_eq]; (first | lia | omega))
end

def sp_cell (K : PySem.W.Frag) : Sp := fun vs H Q _ => ∃ (a : Addr) (ns : List Int) (k : Nat), vs = [.ref a, .int (k : Int)] ∧ SqL K H a (ns.map V.int) ∧ ∀ z, Q (.int z) H
def sp_stir : Sp := fun vs H Q _ => ∃ c k, vs = [.int c, .int k] ∧ ∀ z, 0 ≤ z → Q (.int z) H
def sp_tie : Sp := fun vs H Q _ => ∃ (c : Int) (p : Nat) (t : Int), vs = [.int c, .int (p : Int), .int t] ∧ 2 ≤ p ∧ p ≤ 10 ∧ 1 ≤ t ∧ t ≤ 100000000000000000000000000000 ∧
  ∀ tie b r c' H', Same H H' → GoodTie (p : Int) tie → H' b = some (.tup (tieV tie)) → H' r = some (.tup [.ref b, .int c']) → Q (.ref r) H'
def sp_web (K : PySem.W.Frag) : Sp := fun vs H Q _ => ∃ (a : Addr) (ns : List Int) (most : Nat), vs = [.ref a, .int (most : Int)] ∧ SqL K H a (ns.map V.int) ∧ ns.length ≤ 63 ∧ most ≤ 24 ∧
  ∀ w p ts H', Same H H' → GoodWeb p ts → p ≤ 6 → ts.length ≤ most → WebAt H' w p ts → Q (.ref w) H'
theorem pick4 (y : Int) : ∃ m, atI [V.int 1, .int 1, .int 1, .int (10 ^ (29 : Int).toNat)] (y % 4) = some (.int m) ∧ 1 ≤ m ∧ m ≤ 100000000000000000000000000000 := by
  obtain ⟨h0, h1⟩ := emod2 y 4 (by decide)
  generalize y % 4 = i at h0 h1
  have hi : i = 0 ∨ i = 1 ∨ i = 2 ∨ i = 3 := by (first | lia | omega)
  rcases hi with rfl | rfl | rfl | rfl
  · exact ⟨1, atI_nat (j := 0) rfl, by decide, by decide⟩
  · exact ⟨1, atI_nat (j := 1) rfl, by decide, by decide⟩
  · exact ⟨1, atI_nat (j := 2) rfl, by decide, by decide⟩
  · exact ⟨10 ^ (29 : Int).toNat, atI_nat (j := 3) rfl, by decide, by decide⟩
section
variable {P : Program} {w : World} {K : PySem.W.Frag} {mg : Str → Option Value} {base : Heap} {a : Adr}
theorem G_law_cell (T : Txt K mg a) : FnOk P w K mg base CX0 1 a.f_law_cell a.d_law_cell ["script", "k"] (sp_cell K) := by
  refine T.F_law_cell.ok sc_law_cell (fun vs H Q E h => ?_) (fun cdv A outer s H vs Q E hr h => ?_)
  · obtain ⟨b, ns, k, rfl, _⟩ := h
    rfl
  · obtain ⟨b, ns, k, rfl, hS, q⟩ := h
    refine ⟨_, (pss_cons (ps_if (pt_cmpR op_lt (pv 1) (pe_callB (lenK K) (by rfl) T.n_len PySem.boot_len (pa_cons (pv 0) pa_nil)) (nomark _)) (pss_one (ps_ret (pe_ix (ixL K) (pv 0) (pv 1) (fun _ _ => rfl)))) pss_nil)
      (pss_one (ps_ret pe_int))), ?_⟩
    refine hd_law_cell ?_
    intro zz0 zz1
    refine (exq rfl (exq rfl ⟨b, _, rfl, .inl hS, _, _, rfl, rfl, exq rfl (ite2 (fun hlt => ?_) (fun _ => q 0))⟩))
    have hlt := of_decide_eq_true hlt
    rw [List.length_map] at hlt
    exact (exq rfl (exq rfl ⟨b, _, _, _, rfl, rfl, hS, atI_nat (j := k) (ints_at (by (first | lia | omega))), q _⟩))
theorem G_law_stir (T : Txt K mg a) : FnOk P w K mg base CX0 1 a.f_law_stir a.d_law_stir ["cell", "k"] sp_stir := by
  refine T.F_law_stir.ok sc_law_stir (fun vs H Q E h => ?_) (fun cdv A outer s H vs Q E hr h => ?_)
  · obtain ⟨c, k, rfl, _⟩ := h
    rfl
  · obtain ⟨c, k, rfl, q⟩ := h
    refine ⟨_, (pss_cons (ps_set (i := 2) sc_law_stir.nd rfl (Or.inl rfl) (pe_op op_mod (pe_op op_add (pe_op op_add (pv 0) (pe_op op_mul pe_int (pv 1))) pe_int) pe_int))
      (pss_cons (ps_set (i := 2) sc_law_stir.nd rfl (Or.inl rfl) (pe_op op_mod (pe_op op_mul (pv 2) (pv 2)) pe_int))
      (pss_one (ps_ret (pe_op op_fdiv (pe_op op_mod (pe_op op_mul (pv 2) pe_int) pe_int) pe_int))))), ?_⟩
    refine hd_law_stir ?_
    intro zz0 zz1
    refine (exq rfl (exq rfl (ijq ⟨.inl ⟨by decide, by decide⟩, ijq (ijq (ijq ⟨(modC rfl), ?_⟩))⟩)))
    have h1 := emod2 (c + 7919 * k + 101) 2147483647 (by decide)
    dsimp only
    generalize (c + 7919 * k + 101) % 2147483647 = n at h1
    refine (exq rfl (exq rfl (ijq ⟨.inl ⟨by (first | lia | omega), by (first | lia | omega)⟩, ijq ⟨(modC rfl), ?_⟩⟩)))
    refine (exq rfl (ijq ⟨.inr ⟨by decide, by decide⟩, ijq ⟨(modC rfl), ijq ⟨⟨by decide, by decide⟩, ?_⟩⟩⟩))
    have h2 := emod2 (n * n % 2147483647 * 48271) 2147483629 (by decide)
    exact q _ (Int.ediv_nonneg h2.1 (by decide))
theorem G_law_tie (T : Txt K mg a) : FnOk P w K mg base CX0 1 a.f_law_tie a.d_law_tie ["c", "points", "times"] sp_tie := by
  refine T.F_law_tie.ok sc_law_tie (fun vs H Q E h => ?_) (fun cdv A outer s H vs Q E hr h => ?_)
  · obtain ⟨c, p, t, rfl, _⟩ := h
    rfl
  · obtain ⟨c, p, t, rfl, hp1, hp2, ht1, ht2, q⟩ := h
    refine ⟨_, (pss_cons (ps_set (i := 3) sc_law_tie.nd rfl (Or.inl rfl) (pe_op op_mod (pv 0) (pv 1)))
      (pss_cons (ps_set (i := 0) sc_law_tie.nd rfl (Or.inl rfl) (pe_op op_fdiv (pv 0) (pv 1)))
      (pss_cons (ps_set (i := 4) sc_law_tie.nd rfl (Or.inl rfl) (pe_op op_mod (pe_op op_add (pe_op op_add (pv 3) pe_int) (pe_op op_mod (pv 0) (pe_op op_sub (pv 1) pe_int))) (pv 1)))
      (pss_cons (ps_set (i := 0) sc_law_tie.nd rfl (Or.inl rfl) (pe_op op_fdiv (pv 0) (pe_op op_sub (pv 1) pe_int)))
      (pss_one (ps_ret (pe_tup (pa_cons (pe_tup (pa_cons (pv 3) (pa_cons (pv 4) (pa_cons (pe_op op_mul (pe_op op_add pe_int (pe_op op_mod (pv 0) pe_int)) (pv 2)) pa_nil)))) (pa_cons (pe_op op_fdiv (pv 0) pe_int) pa_nil))))))))), ?_⟩
    refine hd_law_tie ?_
    intro zz0 zz1 zz2 zz3
    have p0 : (0 : Int) < (p : Int) := by (first | lia | omega)
    have p9 : (0 : Int) < (p : Int) - 1 := by (first | lia | omega)
    have hd : ∀ i, CDiv i (p : Int) := fun i => ⟨by (first | lia | omega), by (first | lia | omega)⟩
    have hd1 : ∀ i, CDiv i ((p : Int) - 1) := fun i => ⟨by (first | lia | omega), by (first | lia | omega)⟩
    refine (exq rfl (exq rfl (ijq ⟨p0, ?_⟩)))
    refine (exq rfl (exq rfl (ijq ⟨hd _, ?_⟩)))
    refine (exq rfl (ijq (exq rfl (exq rfl (ijq (ijq ⟨p9, _, _, rfl, rfl, exq rfl (ijq ⟨p0, ?_⟩)⟩))))))
    refine (exq rfl (exq rfl (ijq (ijq ⟨hd1 _, ?_⟩))))
    obtain ⟨r0, r1⟩ := emod2 (c / p / (p - 1)) 9 (by decide)
    refine (exq rfl (exq rfl (exq rfl (ijq ⟨(modC rfl), ijq (exq rfl (ijq ⟨.inl ⟨by (first | lia | omega), by (first | lia | omega)⟩, dl rfl, fun b hb => ?_⟩))⟩))))
    refine (exq rfl (ijq ⟨⟨by decide, by decide⟩, dl rfl, fun r hr => ?_⟩))
    obtain ⟨o1, o2, o3⟩ := other_ne (p := p) (o := c % p) (r := c / p % (p - 1)) (emod2 _ _ p0).1 (emod2 _ _ p0).2 (emod2 _ _ p9).1 (emod2 _ _ p9).2
    refine q (c % p, (c % p + 1 + c / p % (p - 1)) % p, (1 + c / p / (p - 1) % 9) * t) b r _ _ ((Same.new hb).trans (Same.new hr)) ?_ (Same.new hr _ _ upd_same) upd_same
    generalize c / p / (p - 1) % 9 = r at r0 r1
    have hr' : r = 0 ∨ r = 1 ∨ r = 2 ∨ r = 3 ∨ r = 4 ∨ r = 5 ∨ r = 6 ∨ r = 7 ∨ r = 8 := by (first | lia | omega)
    refine ⟨(emod2 _ _ p0).1, (emod2 _ _ p0).2, o1, o2, o3, ?_, ?_⟩
    · show 1 ≤ (1 + r) * t
      rcases hr' with rfl | rfl | rfl | rfl | rfl | rfl | rfl | rfl | rfl <;> (first | lia | omega)
    · show (1 + r) * t ≤ _
      rcases hr' with rfl | rfl | rfl | rfl | rfl | rfl | rfl | rfl | rfl <;> (first | lia | omega)
theorem G_law_web (T : Txt K mg a) : FnOk P w K mg base CX0 2 a.f_law_web a.d_law_web ["script", "most"] (sp_web K) := by
  have G_law_cell : FnOk P w K mg base CX0 1 a.f_law_cell a.d_law_cell ["script", "k"] (sp_cell K) := G_law_cell T
  have G_law_stir : FnOk P w K mg base CX0 1 a.f_law_stir a.d_law_stir ["cell", "k"] sp_stir := G_law_stir T
  have G_law_tie : FnOk P w K mg base CX0 1 a.f_law_tie a.d_law_tie ["c", "points", "times"] sp_tie := G_law_tie T
  refine T.F_law_web.ok sc_law_web (fun vs H Q E h => ?_) (fun cdv A outer s H vs Q E hr h => ?_)
  · obtain ⟨b, ns, most, rfl, _⟩ := h
    rfl
  · obtain ⟨b, ns, most, rfl, hS, hn, hm, q⟩ := h
    refine ⟨_, (pss_cons (ps_set (i := 2) sc_law_web.nd rfl (Or.inl rfl) (pe_op op_mod (pe_call G_law_cell (hr.mono (by decide)) (by rfl) T.m_law_cell T.k_law_cell T.b_law_cell .nil pass0 (pa_cons (pv 0) (pa_cons pe_int pa_nil))) (pe_op op_pow pe_int pe_int)))
      (pss_cons (ps_set (i := 3) sc_law_web.nd rfl (Or.inl rfl) (pe_op op_add pe_int (pe_op op_mod (pe_op op_fdiv (pv 2) pe_int) pe_int)))
      (pss_cons (ps_set (i := 4) sc_law_web.nd rfl (Or.inl rfl) (pe_ix (ixL K) (pe_lst (pa_cons pe_int (pa_cons pe_int (pa_cons pe_int (pa_cons (pe_op op_pow pe_int pe_int) pa_nil))))) (pe_op op_mod (pe_op op_fdiv (pv 2) pe_int) pe_int) (fun _ _ => rfl)))
      (pss_cons (ps_set (i := 5) sc_law_web.nd rfl (Or.inl rfl) (pe_lst pa_nil))
      (pss_cons (ps_if (PW.pt (pw_and (pt_cmpR op_gt (pv 3) pe_int (nomark _)) (pw_and1 (pt_cmpR op_eq (pe_op op_mod (pv 2) pe_int) pe_int (nomark _))))) (pss_cons (ps_set (i := 6) sc_law_web.nd rfl (Or.inl rfl) (pe_op op_mod (pe_call G_law_cell (hr.mono (by decide)) (by rfl) T.m_law_cell T.k_law_cell T.b_law_cell .nil pass0 (pa_cons (pv 0) (pa_cons pe_int pa_nil))) (pe_op op_mulB (pe_op op_pow pe_int pe_int) (pe_op op_pow pe_int pe_int))))
      (pss_one (ps_for PassesOwn.never rfl (pi_range1 (by rfl) T.n_range (pa_cons (pe_op op_mod (pe_op op_fdiv (pv 2) pe_int) (pe_op op_add (pv 1) pe_int)) pa_nil)) (pg_name (i := 7) sc_law_web.nd rfl (Or.inl rfl))
      (pss_cons (ps_asg (pe_call G_law_tie (hr.mono (by decide)) (by rfl) T.m_law_tie T.k_law_tie T.b_law_tie .nil pass0 (pa_cons (pv 6) (pa_cons (pv 3) (pa_cons (pv 4) pa_nil)))) (pgT K (n := 2) rfl (pgs_cons (pg_name (i := 8) sc_law_web.nd rfl (Or.inl rfl)) (pgs_cons (pg_name (i := 6) sc_law_web.nd rfl (Or.inl rfl)) pgs_nil))))
      (pss_one (ps_expr (bmK K (pe_bm PySem.F.plainAttrs_list PySem.F.slot_list_append PySem.F.type_list_append mt_append (pv 5) (pa_cons (pv 8) pa_nil))))))))) pss_nil)
      (pss_cons (ps_if (PW.pt (pw_and (pt_cmpR op_gt (pv 3) pe_int (nomark _)) (pw_and1 (pt_cmpR op_eq (pe_op op_mod (pv 2) pe_int) pe_int (nomark _))))) (pss_one (ps_for PassesOwn.never rfl (pi_range2 (by rfl) T.n_range (pa_cons pe_int (pa_cons (pe_callB (call_min2 rfl) (by rfl) T.n_min PyProof.Rows.boot_min (pa_cons (pe_callB (lenK K) (by rfl) T.n_len PySem.boot_len (pa_cons (pv 0) pa_nil)) (pa_cons (pe_op op_add pe_int (pv 1)) pa_nil))) pa_nil))) (pg_name (i := 7) sc_law_web.nd rfl (Or.inl rfl))
      (pss_one (ps_expr (bmK K (pe_bm PySem.F.plainAttrs_list PySem.F.slot_list_append PySem.F.type_list_append mt_append (pv 5) (pa_cons (pe_ix (ixT K) (pe_call G_law_tie (hr.mono (by decide)) (by rfl) T.m_law_tie T.k_law_tie T.b_law_tie .nil pass0 (pa_cons (pe_call G_law_stir (hr.mono (by decide)) (by rfl) T.m_law_stir T.k_law_stir T.b_law_stir .nil pass0 (pa_cons (pe_ix (ixL K) (pv 0) (pv 7) (fun _ _ => rfl)) (pa_cons (pv 7) pa_nil))) (pa_cons (pv 3) (pa_cons (pv 4) pa_nil)))) pe_int (fun _ _ => rfl)) pa_nil))))))) pss_nil)
      (pss_one (ps_ret (pe_tup (pa_cons (pv 3) (pa_cons (pe_callTy (tuplK K) (by rfl) T.n_tuple PyProof.Rows.boot_tuple (pa_cons (pv 5) pa_nil)) pa_nil))))))))))), ?_⟩
    refine hd_law_web ?_
    intro zz0 zz1 zz2 zz3 zz4 zz5 zz6 zz7 zz8 zz9 zz10 zz11
    refine (exq rfl ⟨b, ns, 0, rfl, hS, fun z => (ijq ⟨⟨by decide, by decide, by decide⟩, ijq ⟨(modC rfl), ?_⟩⟩)⟩)
    have h0 := (emod2 z (10 ^ (60 : Int).toNat) (by decide)).1
    dsimp only
    generalize z % 10 ^ (60 : Int).toNat = hd at h0
    refine (exq rfl (ijq ⟨⟨by decide, by decide⟩, ijq ⟨(modC rfl), ijq (?_)⟩⟩))
    obtain ⟨p, hp, p1, p6⟩ : ∃ p : Nat, 1 + hd / 2 % 6 = (p : Int) ∧ 1 ≤ p ∧ p ≤ 6 := ⟨(1 + hd / 2 % 6).toNat, by (first | lia | omega), by (first | lia | omega), by (first | lia | omega)⟩
    dsimp only
    rw [hp]
    obtain ⟨m, hat, m1, m2⟩ := pick4 (hd / 12)
    refine (ijq ⟨⟨by decide, by decide, by decide⟩, dl rfl, fun l hl => (exq rfl (ijq ⟨⟨by decide, by decide⟩, ijq ⟨(modC rfl), ixl (SqL.of upd_same) (hat) (?_)⟩⟩))⟩)
    have s1 : Same H (upd H l (.lst [.int 1, .int 1, .int 1, .int (10 ^ (29 : Int).toNat)])) := Same.new hl
    generalize upd H l (.lst [.int 1, .int 1, .int 1, .int (10 ^ (29 : Int).toNat)]) = H1 at s1
    refine ⟨dl rfl, fun D hD => ?_⟩
    have hk0 : 0 ≤ hd / 48 % ((most : Int) + 1) ∧ hd / 48 % ((most : Int) + 1) < (most : Int) + 1 := emod2 _ _ (by (first | lia | omega))
    -- the web is told
    have fin : ∀ (n : Nat) (H2 : Hp), Ties (p : Int) H1 D n H2 → n ≤ most → ∃ acc, H2 D = some (.lst acc) ∧ ∀ l', H2 l' = none → ([V.int (p : Int), .ref l'] : List V).length ≤ sizeLine ∧ ∀ w', upd H2 l' (.tup acc) w' = none → Q (.ref w') (upd (upd H2 l' (.tup acc)) w' (.tup [.int (p : Int), .ref l'])) := by
      intro n H2 ht hnm
      obtain ⟨acc, ts, hd, hl, gt, z⟩ := ht.fin
      refine ⟨acc, hd, fun l' hl' => ⟨dl rfl, fun w' hw => ?_⟩⟩
      obtain ⟨z1, z2⟩ := z l' hl' w' hw
      exact q w' p ts _ (s1.trans z1) ⟨p1, by (first | lia | omega), by (first | lia | omega), gt⟩ p6 (by (first | lia | omega)) z2
    have t0 : Ties (p : Int) H1 D 0 (upd H1 D (.lst [])) := Ties.start hD
    generalize upd H1 D (.lst []) = H2 at t0
    by_cases hp1 : p = 1
    · subst hp1
      refine (exq rfl (ijq (exq rfl (iteD (by decide) (iteF ?_)))))
      refine (exq rfl (ijq (exq rfl (iteD (by decide) (iteF ?_)))))
      obtain ⟨acc, hD2, z⟩ := fin 0 H2 t0 (by (first | lia | omega))
      exact (exq rfl (exq rfl ⟨D, acc, rfl, .inl ⟨SqL.of hD2, z⟩⟩))
    · by_cases hpar : hd % 2 = 0
      · refine (exq rfl (ijq (exq rfl (iteP (by (first | lia | omega)) (exq rfl (ijq ⟨(modC rfl), rfl, exq rfl (iteP (congrArg V.int hpar) ?_)⟩))))))
        refine (exq rfl ⟨b, ns, 1, rfl, (s1.trans t0.1).seq hS, fun z1 => (ijq ⟨⟨by decide, by decide, by decide⟩, ijq ⟨⟨by decide, by decide, by decide⟩, ijq ⟨mulOk_of (by decide) (by decide), ijq ⟨(modC rfl), ?_⟩⟩⟩⟩)⟩)
        refine (exq rfl (ijq ⟨⟨by decide, by decide⟩, exq rfl (ijq (ijq ⟨(by (first | lia | omega)), exq rfl ⟨(by (first | lia | omega)), (by (first | lia | omega)), ?_⟩⟩))⟩))
        refine for_range (lo := 0) (n := (hd / 48 % ((most : Int) + 1)).toNat) (fun i σ H3 => ∃ c v7 v8, σ = [some (.ref b), some (.int (most : Int)), some (.int hd), some (.int (p : Int)), some (.int m), some (.ref D), some (.int c), v7, v8] ∧ Ties (p : Int) H1 D i H3) ⟨_, none, none, rfl, t0⟩ ?_ ?_
        · rintro i σ H3 hi ⟨c, v7, v8, rfl, t3⟩
          refine (exq rfl (exq rfl (exq rfl ⟨c, p, m, rfl, by (first | lia | omega), by (first | lia | omega), m1, m2, fun tie bb r c' H4 s4 gt hb hr => ?_⟩)))
          obtain ⟨acc, hD4, hac, t5⟩ := t3.push hD s4 gt hb
          refine ⟨r, _, rfl, SqT.of hr, rfl, _, _, rfl, _, _, rfl, rfl, ?_⟩
          exact (exq rfl ⟨.inl ⟨rfl, _, SqL.of hD4⟩, exq rfl ⟨D, acc, _, rfl, rfl, hD4, smallL (by (first | lia | omega)), _, _, _, rfl, t5⟩⟩)
        · rintro σ H3 ⟨c, v7, v8, rfl, t3⟩
          refine (exq rfl (ijq (exq rfl (iteP (by (first | lia | omega)) (exq rfl (ijq ⟨(modC rfl), rfl, exq rfl (iteD (fun z => by have := V.int.inj z; (first | lia | omega)) ?_)⟩))))))
          obtain ⟨acc, hD2, z⟩ := fin _ H3 t3 (by (first | lia | omega))
          exact (exq rfl (exq rfl ⟨D, acc, rfl, .inl ⟨SqL.of hD2, z⟩⟩))
      · refine (exq rfl (ijq (exq rfl (iteP (by (first | lia | omega)) (exq rfl (ijq ⟨(modC rfl), rfl, exq rfl (iteD (fun z => hpar (V.int.inj z)) ?_)⟩))))))
        refine (exq rfl (ijq (exq rfl (iteP (by (first | lia | omega)) (exq rfl (ijq ⟨(modC rfl), rfl, exq rfl (iteP (congrArg V.int (by (first | lia | omega))) ?_)⟩))))))
        have hml : (ns.map V.int).length = ns.length := List.length_map ..
        refine (exq rfl ⟨b, _, rfl, .inl ((s1.trans t0.1).seq hS), exq rfl (ijq ⟨_, _, rfl, _, _, rfl, ⟨by decide, by decide, ?_, ?_⟩, ?_⟩)⟩)
        · rw [hml]; split <;> (first | lia | omega)
        · rw [hml]; split <;> (first | lia | omega)
        have hr1 : ∃ r : Nat, ((if (2 + (most : Int)) < ((ns.map V.int).length : Int) then 2 + (most : Int) else ((ns.map V.int).length : Int)) - 2).toNat = r ∧ r ≤ most ∧ (r = 0 ∨ r + 2 ≤ ns.length) := (exq rfl ⟨by rw [hml]; split <;> (first | lia | omega), by rw [hml]; split <;> (first | lia | omega)⟩)
        obtain ⟨r, hr0, hr1, hr2⟩ := hr1
        refine for_range (lo := 2) (n := _) (fun i σ H3 => ∃ v6 v7 v8, σ = [some (.ref b), some (.int (most : Int)), some (.int hd), some (.int (p : Int)), some (.int m), some (.ref D), v6, v7, v8] ∧ Ties (p : Int) H1 D i H3) ⟨none, none, none, rfl, t0⟩ ?_ ?_
        · rintro i σ H3 hi ⟨v6, v7, v8, rfl, t3⟩
          rw [hr0] at hi
          have ek : (2 : Int) + (i : Int) = ((2 + i : Nat) : Int) := by (first | lia | omega)
          rw [ek]
          have hD3 : ∃ acc, H3 D = some (.lst acc) := let ⟨_, acc, _, z, _⟩ := t3; ⟨acc, z⟩
          obtain ⟨acc0, hD3⟩ := hD3
          refine (exq rfl ⟨.inl ⟨rfl, _, SqL.of hD3⟩, exq rfl (exq rfl ⟨b, _, _, _, rfl, rfl, (s1.trans t3.1).seq hS, atI_nat (j := 2 + i) (ints_at (by (first | lia | omega))), exq rfl ⟨_, _, rfl, fun z z0 => ?_⟩⟩)⟩)
          refine (exq rfl (exq rfl ⟨z, p, m, rfl, by (first | lia | omega), by (first | lia | omega), m1, m2, fun tie bb rr c' H4 s4 gt hb hr => ?_⟩))
          obtain ⟨acc, hD4, hac, t5⟩ := t3.push hD s4 gt hb
          exact (ixq (SqT.of hr) (atI_nat (j := 0) rfl) ⟨D, acc, _, rfl, rfl, hD4, smallL (by (first | lia | omega)), _, _, _, rfl, t5⟩)
        · rintro σ H3 ⟨v6, v7, v8, rfl, t3⟩
          rw [hr0] at t3
          obtain ⟨acc, hD2, z⟩ := fin _ H3 t3 (by (first | lia | omega))
          exact (exq rfl (exq rfl ⟨D, acc, rfl, .inl ⟨SqL.of hD2, z⟩⟩))
end

def sp_law_ties : Sp := fun vs H Q _ => ∃ m : Nat, vs = [.int (m : Int)] ∧ Builtin.Int.intBits (m : Int) ≤ 1000 ∧ ∀ D H', H D = none → Same H H' → H' D = some (.lst (natsV (tiesOf (m : Int)))) → Q (.ref D) H'
def sp_law_odd : Sp := fun vs H Q _ => ∃ w p ts, ∃ m : Nat, vs = [.ref w, .int (m : Int)] ∧ WebAt H w p ts ∧ Web p ts ∧ m < 2 ^ ts.length ∧ ∀ D H', H D = none → Same H H' → H' D = some (.lst (natsV (oddOf p ts (m : Int)))) → Q (.ref D) H'
section
variable {P : Program} {w : World} {K : PySem.W.Frag} {mg : Str → Option Value} {base : Heap} {a : Adr}
theorem G_law_ties (T : Txt K mg a) : FnOk P w K mg base CX0 1 a.f_law_ties a.d_law_ties ["some"] sp_law_ties := by
  refine T.F_law_ties.ok sc_law_ties (fun vs H Q E h => ?_) (fun cdv A outer s H vs Q E hr h => ?_)
  · obtain ⟨m, rfl, _⟩ := h
    rfl
  · obtain ⟨m, rfl, hm, k⟩ := h
    refine ⟨_, (pss_one (ps_ret (pe_comp (own := ["tie"]) (frees := ["some"]) (js := [0]) (compText_of (defScope s_law_ties) ["some"]) rfl (pi_range1 (by rfl) T.n_range (pa_cons (pe_bm0 PySem.F.plainAttrs_int PyProof.Rows.slot_int_bit_length PyProof.Rows.type_int_bit_length mt_bits (pv 0)) pa_nil)) (fun _ _ _ _ => (pg_name (i := 0) (show (["tie", "some"] : List Str).Nodup by decide +kernel) rfl (Or.inl rfl))) (fun _ _ _ _ => (pts_one (pt_cmpR op_eq (pe_op op_mod (pe_op op_shr (pv 1) (pv 0)) pe_int) pe_int (nomark _)))) (fun _ _ _ _ => (pv 0))))), ?_⟩
    refine (exq rfl ⟨rfl, exq rfl ⟨rfl, exq rfl ⟨(by (first | lia | omega)), (by (first | lia | omega)), fun D hD => comp_range (lo := 0) (m := Builtin.Int.intBits (m : Int)) (Pick (bit (m : Int)) H D) (.start hD) (fun i acc H2 _ p => p.len) (dl (Nat.ble_eq.mpr hm)) ?_ ?_⟩⟩⟩)
    · intro i acc H2 hi p
      rw [Int.zero_add]
      refine ⟨rfl, exq rfl (exq rfl (ijq ⟨(by (first | lia | omega)), ijq ⟨(modC rfl), rfl, exq rfl (?_)⟩⟩))⟩
      rw [Int.toNat_natCast, bit_eq]
      cases hb : bit (m : Int) i with
      | true => exact (exq rfl (p.yes hD (Same.refl _) hb))
      | false => exact p.no (Same.refl _) hb
    · intro acc H2 p
      exact k D H2 hD p.1 (by rw [p.2.1, p.2.2]; rfl)
theorem cut_tie (t : Tie) : cutV (tieV t) none (some 2) = [.int t.1, .int t.2.1] := rfl
theorem G_law_odd (T : Txt K mg a) : FnOk P w K mg base CX0 2 a.f_law_odd a.d_law_odd ["web", "some"] sp_law_odd := by
  have G_law_ties : FnOk P w K mg base CX0 1 a.f_law_ties a.d_law_ties ["some"] sp_law_ties := G_law_ties T
  refine T.F_law_odd.ok sc_law_odd (fun vs H Q E h => ?_) (fun cdv A outer s H vs Q E hr h => ?_)
  · obtain ⟨w, p, ts, m, rfl, _⟩ := h
    rfl
  · obtain ⟨wb, p, ts, m, rfl, hw, W, hm, q⟩ := h
    refine ⟨_, (pss_cons (ps_set (i := 2) sc_law_odd.nd rfl (Or.inr rfl) (pe_op op_rep (pe_lst (pa_cons pe_int pa_nil)) (pe_ix (ixT K) (pv 0) pe_int (fun _ _ => rfl))))
      (pss_cons (ps_for PassesOwn.never rfl (piL K (pe_call G_law_ties (hr.mono (by decide)) (by rfl) T.m_law_ties T.k_law_ties T.b_law_ties .nil pass0 (pa_cons (pv 1) pa_nil))) (pg_name (i := 3) sc_law_odd.nd rfl (Or.inl rfl))
      (pss_one (ps_for PassesOwn.never rfl (piT K (pe_slice (slT K) (pe_ix (ixT K) (pe_ix (ixT K) (pv 0) pe_int (fun _ _ => rfl)) (pv 3) (fun _ _ => rfl)) po_none (po_some pe_int))) (pg_name (i := 4) sc_law_odd.nd rfl (Or.inl rfl))
      (pss_one (ps_asg (pe_op op_add (pe_ix (ixL K) (pv 2) (pv 4) (fun _ _ => rfl)) pe_int) (pg_sub (pv 2) (pv 4) set_list))))))
      (pss_one (ps_ret (pe_comp (own := ["point"]) (frees := ["ends"]) (js := [2]) (compText_of (defScope s_law_odd) ["web", "some", "ends", "tie", "point"]) rfl (pi_range1 (by rfl) T.n_range (pa_cons (pe_ix (ixT K) (pv 0) pe_int (fun _ _ => rfl)) pa_nil)) (fun _ _ _ _ => (pg_name (i := 0) (show (["point", "ends"] : List Str).Nodup by decide +kernel) rfl (Or.inl rfl))) (fun _ _ _ _ => (pts_one (pt_cmpR op_eq (pe_op op_mod (pe_ix (ixL K) (pv 1) (pv 0) (fun _ _ => rfl)) pe_int) pe_int (nomark _)))) (fun _ _ _ _ => (pv 0))))))), ?_⟩
    refine hd_law_odd ?_
    intro zz0 zz1 zz2 zz3
    obtain ⟨b, xs, h1, h2, h3⟩ := id hw.ex
    have wp := W.pts
    have wl := W.len
    have hxl := h3.length
    refine ⟨dl rfl, fun l0 hl0 => ?_⟩
    have s0 : Same H (upd H l0 (.lst [.int 0])) := Same.new hl0
    refine (exq rfl (ixq (SqT.of (s0 _ _ h1)) (atI_nat (j := 0) rfl) ⟨l0, (p : Int), exq rfl ⟨rfl, upd_same, by (first | lia | omega), by (first | lia | omega), (by rw [Int.toNat_natCast]; show 1 * p ≤ sizeLine; exact dl (Nat.ble_eq.mpr (by (first | lia | omega)))), fun e he => ?_⟩⟩))
    have s1 := s0.trans (Same.new (o := .lst (List.replicate (p : Int).toNat [V.int 0]).flatten) he)
    have he1 : upd (upd H l0 (.lst [.int 0])) e (.lst (List.replicate (p : Int).toNat [V.int 0]).flatten) e = some (.lst (intsV (List.replicate p 0))) := by
      rw [upd_same, Int.toNat_natCast, rep_zero]
    generalize upd (upd H l0 (.lst [.int 0])) e (.lst (List.replicate (p : Int).toNat [V.int 0]).flatten) = H1 at s1 he1
    have heH : H e = none := s0.free he
    have hb24 : Builtin.Int.intBits (m : Int) ≤ ts.length := bits_le hm
    refine (exq rfl ⟨m, rfl, by (first | lia | omega), fun L H2 hLn s2 hL => ⟨L, rfl, ⟨_, SqL.of hL⟩, ?_⟩⟩)
    have s12 := s1.trans s2
    have heL : e ≠ L := ne_of_none he1 hLn
    have hwe : wb ≠ e := ne_of_none h1 heH
    have hbe : b ≠ e := ne_of_none h2 heH
    refine for_list (K := K) (a := L) (xs := natsV (tiesOf (m : Int))) (fun i σ H3 => ∃ v3 v4, σ = [some (.ref wb), some (.int (m : Int)), some (.ref e), v3, v4] ∧ (∀ x o, H2 x = some o → x ≠ e → H3 x = some o) ∧ H3 e = some (.lst (intsV (((tiesOf (m : Int)).take i).foldl (Ring.step ts) (List.replicate p 0)))))
      ⟨none, none, rfl, fun _ _ z _ => z, s2 _ _ he1⟩ (fun i σ H3 _ ⟨_, _, _, z, _⟩ => SqL.of (z _ _ hL (Ne.symm heL))) ?_ ?_
    · rintro i y σ H3 hi ⟨v3, v4, rfl, z3, he3⟩
      obtain ⟨k, hk, rfl⟩ := natsV_get hi
      have hkl : k < ts.length := ties_lt hm (List.mem_of_getElem? hk)
      have hkx : k < xs.length := by (first | lia | omega)
      obtain ⟨t, ht, c, hc, hct⟩ := Paired.getP h3 (i := k) (x := xs[k]) (by simp [hkx])
      have hce : c ≠ e := ne_of_none hct heH
      obtain ⟨a0, a1, b0, b1⟩ := W.inw.ends t (List.mem_of_getElem? ht)
      refine (exq rfl (ixq (SqT.of (z3 _ _ (s12 _ _ h1) hwe)) (atI_nat (j := 1) rfl) (exq rfl (ixq (v := xs[k]) (SqT.of (z3 _ _ (s12 _ _ h2) hbe)) (atI_nat (j := k) (by simp [hkx])) (?_)))))
      rw [hc]
      refine (exq rfl ⟨c, _, rfl, SqT.of (z3 _ _ (s12 _ _ hct) hce), (fun z => absurd (show HT.sIx 3 3 (some 2) = 3 from z.2) (by decide)), fun u hu => ?_⟩)
      rw [cut_tie]
      have s4 : Same H3 (upd H3 u (.tup [.int t.1, .int t.2.1])) := Same.new hu
      have hu4 : upd H3 u (.tup [.int t.1, .int t.2.1]) u = some (.tup [.int t.1, .int t.2.1]) := upd_same
      have hue : u ≠ e := Ne.symm (ne_of_none he3 hu)
      generalize upd H3 u (.tup [.int t.1, .int t.2.1]) = H4 at s4 hu4
      generalize hE : ((tiesOf (m : Int)).take i).foldl (Ring.step ts) (List.replicate p 0) = EE at he3
      have hEl : EE.length = p := by rw [← hE, fold_len, List.length_replicate]
      refine ⟨u, rfl, ⟨_, SqT.of hu4⟩, for_tup (K := K) (a := u) (xs := [.int t.1, .int t.2.1]) (fun j σ H5 => ∃ v4, σ = [some (.ref wb), some (.int (m : Int)), some (.ref e), some (.int (k : Int)), v4] ∧ (∀ x o, H4 x = some o → x ≠ e → H5 x = some o) ∧ H5 e = some (.lst (intsV (([t.1, t.2.1].take j).foldl Ring.bump EE))))
        ⟨v4, rfl, fun _ _ z _ => z, s4 _ _ he3⟩ (fun j σ H5 _ ⟨_, _, z, _⟩ => SqT.of (z _ _ hu4 hue)) ?_ ?_⟩
      · rintro j y σ H5 hj ⟨v, rfl, z5, he5⟩
        obtain ⟨z, rfl, hz0, hz1, hzj⟩ : ∃ z : Nat, y = V.int (z : Int) ∧ z < p ∧ j < 2 ∧ [t.1, t.2.1][j]? = some (z : Int) := by
          match j, hj with
          | 0, hj => exact ⟨t.1.toNat, by rw [Int.toNat_of_nonneg a0]; exact (Option.some.inj hj).symm, by (first | lia | omega), by decide, by rw [Int.toNat_of_nonneg a0]; rfl⟩
          | 1, hj => exact ⟨t.2.1.toNat, by rw [Int.toNat_of_nonneg b0]; exact (Option.some.inj hj).symm, by (first | lia | omega), by decide, by rw [Int.toNat_of_nonneg b0]; rfl⟩
        generalize hF : ([t.1, t.2.1].take j).foldl Ring.bump EE = FF at he5
        have hFl : FF.length = p := by
          rw [← hF]
          match j, hz1 with
          | 0, _ => exact hEl
          | 1, _ => show (Ring.bump EE t.1).length = p; rw [bump_len, hEl]
        refine (exq rfl (exq rfl (ixl (SqL.of he5) (atI_nat (j := z) (intsV_get (by (first | lia | omega)))) (ijq (exq rfl (exq rfl ⟨e, _, _, z, rfl, rfl, he5, ixN_nat (by rw [intsV, List.length_map]; (first | lia | omega)), ?_⟩))))))
        rw [intsV_bump]
        refine (exq rfl ⟨fun x o q hx => by rw [upd_ne hx]; exact z5 x o q hx, ?_⟩)
        rw [upd_same, List.take_add_one, hzj, List.foldl_append, hF]
        rfl
      · rintro σ H5 ⟨v, rfl, z5, he5⟩
        refine ⟨_, _, rfl, fun x o q hx => z5 x o (s4 _ _ (z3 x o q hx)) hx, ?_⟩
        rw [he5, List.take_add_one, hk, List.foldl_append, hE]
        show _ = some (HO.lst (intsV (Ring.step ts EE k)))
        unfold Ring.step
        rw [ht]
        rfl
    · rintro σ H3 ⟨v3, v4, rfl, z3, he3⟩
      have s13 : Same H H3 := fun x o z => z3 x o (s12 x o z) (ne_of_none z heH)
      have hE : H3 e = some (.lst (intsV (endsOf p ts (m : Int)))) := by
        rw [he3, natsV_len, List.take_length]
        rfl
      have hEl : (endsOf p ts (m : Int)).length = p := by rw [ends_ties hm, foldT_len, List.length_replicate]
      refine (exq rfl (ixq (SqT.of (s13 _ _ h1)) (atI_nat (j := 0) rfl) (exq rfl ⟨(by (first | lia | omega)), (by (first | lia | omega)), fun D hD => comp_range (lo := 0) (m := p) (Pick (fun i => decide ((endsOf p ts (m : Int)).getD i 0 % 2 = 1)) H3 D) (.start hD) (fun i acc H4 _ p => p.len) (dl (Nat.ble_eq.mpr (by (first | lia | omega)))) ?_ ?_⟩)))
      · intro i acc H4 hi pk
        rw [Int.zero_add]
        refine ⟨rfl, exq rfl (exq rfl (ixl (SqL.of (pk.1 _ _ hE)) (atI_nat (j := i) (intsV_get (by rw [hEl]; exact hi))) (ijq ⟨(modC rfl), rfl, exq rfl (?_)⟩)))⟩
        rw [dec_one]
        cases hb : decide ((endsOf p ts (m : Int)).getD i 0 % 2 = 1) with
        | true => exact (exq rfl (pk.yes hD (Same.refl _) hb))
        | false => exact pk.no (Same.refl _) hb
      · intro acc H4 pk
        exact q D H4 (s13.free hD) (s13.trans pk.1) (by rw [pk.2.1, pk.2.2]; rfl)
end

def sp_sum : Sp := fun vs H Q _ => ∃ (l : Addr) (rs : List Nat), vs = [.ref l] ∧ H l = some (.lst (natsV rs)) ∧ Q (.int ((xorL rs : Nat) : Int)) H
def sp_fine : Sp := fun vs H Q _ => ∃ w p ts, ∃ g : GoodWeb p ts, ∃ m : Nat, vs = [.ref w, .int (m : Int)] ∧ WebAt H w p ts ∧ m < 2 ^ ts.length ∧ (netOf p ts g).Even m ∧ ∀ H', Same H H' → Q (.bl true) H'
section
variable {P : Program} {w : World} {K : PySem.W.Frag} {mg : Str → Option Value} {base : Heap} {a : Adr}
theorem G_law_sum (T : Txt K mg a) : FnOk P w K mg base CX0 1 a.f_law_sum a.d_law_sum ["rings"] sp_sum := by
  refine T.F_law_sum.ok sc_law_sum (fun vs H Q E h => ?_) (fun cdv A outer s H vs Q E hr h => ?_)
  · obtain ⟨l, rs, rfl, _⟩ := h
    rfl
  · obtain ⟨l, rs, rfl, hl, q⟩ := h
    refine ⟨_, (pss_cons (ps_set (i := 1) sc_law_sum.nd rfl (Or.inl rfl) pe_int)
      (pss_cons (ps_for PassesOwn.never rfl (piL K (pv 0)) (pg_name (i := 2) sc_law_sum.nd rfl (Or.inl rfl))
      (pss_one (ps_set (i := 1) sc_law_sum.nd rfl (Or.inl rfl) (pe_op op_xor (pv 1) (pv 2)))))
      (pss_one (ps_ret (pv 1))))), ?_⟩
    refine hd_law_sum ?_
    intro zz0 zz1 zz2
    refine (exq rfl ⟨l, rfl, ⟨_, SqL.of hl⟩, for_list' (K := K) (a := l) (xs := natsV rs) (fun i σ H2 => ∃ v, σ = [some (.ref l), some (.int ((xorL (rs.take i) : Nat) : Int)), v] ∧ H2 = H) ⟨none, rfl, rfl⟩ (fun i σ H2 _ ⟨_, _, e⟩ => by rw [e]; exact SqL.of hl) ?_ ?_⟩)
    · rintro i x D' σ H2 hx ⟨v, rfl, rfl⟩
      obtain ⟨r, hr', rfl⟩ := natsV_get hx
      refine (exq rfl (exq rfl (ijq ⟨some (.int (r : Int)), ?_, rfl⟩)))
      rw [List.take_add_one, hr', Option.toList_some, xorL_snoc, ← xor_int]
      rfl
    · rintro σ H2 ⟨v, rfl, rfl⟩
      rw [natsV_len, List.take_length]
      exact (exq rfl (q))
theorem G_law_fine (T : Txt K mg a) : FnOk P w K mg base CX0 8 a.f_law_fine a.d_law_fine ["web", "some"] sp_fine := by
  have G_law_sum : FnOk P w K mg base CX0 1 a.f_law_sum a.d_law_sum ["rings"] sp_sum := G_law_sum T
  have G_by_chords : FnOk P w K mg base CX0 7 a.f_by_chords a.d_by_chords ["web", "tie_set"] sp_by_chords := G_by_chords T
  have G_chord_ring : FnOk P w K mg base (CX1 P w) 5 a.f_chord_ring a.d_chord_ring ["web", "tie"] (sp_chord_ring a.c_NoChord) := G_chord_ring T
  have G_parted : FnOk P w K mg base CX0 7 a.f_parted a.d_parted ["web", "tie_set"] sp_parted := G_parted T
  have G_is_ring : FnOk P w K mg base (CX1 P w) 7 a.f_is_ring a.d_is_ring ["web", "tie_set"] (sp_is_ring a.c_BadSet) := G_is_ring T
  refine T.F_law_fine.ok sc_law_fine (fun vs H Q E h => ?_) (fun cdv A outer s H vs Q E hr h => ?_)
  · obtain ⟨w, p, ts, g, m, rfl, _⟩ := h
    rfl
  · obtain ⟨wb, p, ts, g, m, rfl, hw, hm, ev, q⟩ := h
    refine ⟨_, (pss_cons (ps_comp (i := 2) sc_law_fine.nd rfl rfl (own := ["tie"]) (frees := ["web"]) (js := [0]) (compText_of (defScope s_law_fine) ["web", "some", "rings", "ring"]) rfl (piL K (pe_call G_by_chords (hr.mono (by decide)) (by rfl) T.m_by_chords T.k_by_chords T.b_by_chords .nil pass0 (pa_cons (pv 0) (pa_cons (pv 1) pa_nil)))) (fun _ _ _ _ => (pg_name (i := 0) (show (["tie", "web"] : List Str).Nodup by decide +kernel) rfl (Or.inl rfl))) (fun _ _ _ _ => pts_nil) (fun _ _ _ _ => (pe_call G_chord_ring (hr.mono (by decide)) (by rfl) T.m_chord_ring T.k_chord_ring T.b_chord_ring .nil passN (pa_cons (pv 1) (pa_cons (pv 0) pa_nil)))))
      (pss_cons (ps_if (PW.pt (pw_or (pt_cmpR op_ne (pe_call G_law_sum (hr.mono (by decide)) (by rfl) T.m_law_sum T.k_law_sum T.b_law_sum .nil pass0 (pa_cons (pv 2) pa_nil)) (pv 1) (nomark _)) (pw_or1 (pt_cmpR op_ne (pe_call G_law_sum (hr.mono (by decide)) (by rfl) T.m_law_sum T.k_law_sum T.b_law_sum .nil pass0 (pa_cons (pe_call G_parted (hr.mono (by decide)) (by rfl) T.m_parted T.k_parted T.b_parted .nil pass0 (pa_cons (pv 0) (pa_cons (pv 1) pa_nil))) pa_nil)) (pv 1) (nomark _))))) (pss_one (ps_ret pe_bl)) pss_nil)
      (pss_cons (ps_for PassesOwn.never rfl (piL K (pv 2)) (pg_name (i := 3) sc_law_fine.nd rfl (Or.inl rfl))
      (pss_one (ps_if (pt_cmpR isNotB (pe_call G_is_ring (hr.mono (by decide)) (by rfl) T.m_is_ring T.k_is_ring T.b_is_ring .nil passN (pa_cons (pv 0) (pa_cons (pv 3) pa_nil))) pe_bl (nomark _)) (pss_one (ps_ret pe_bl)) pss_nil)))
      (pss_one (ps_ret (pe_cmpR op_eq (pe_call G_is_ring (hr.mono (by decide)) (by rfl) T.m_is_ring T.k_is_ring T.b_is_ring .nil passN (pa_cons (pv 0) (pa_cons (pv 1) pa_nil))) (pe_cmpR op_eq (pe_callB (lenK K) (by rfl) T.n_len PySem.boot_len (pa_cons (pe_call G_parted (hr.mono (by decide)) (by rfl) T.m_parted T.k_parted T.b_parted .nil pass0 (pa_cons (pv 0) (pa_cons (pv 1) pa_nil))) pa_nil)) pe_int (nomark _)) (nomark _))))))), ?_⟩
    refine hd_law_fine ?_
    intro zz0 zz1 zz2 zz3 zz4 zz5
    refine (exq rfl (exq rfl ⟨wb, p, ts, g, _, m, rfl, rfl, hw, hm, ev, fun D1 H1 _ s1 hL1 => ⟨D1, rfl, ⟨_, SqL.of hL1⟩, fun D hD => ?_⟩⟩))
    have hcs : ∀ c ∈ (netOf p ts g).chords.filter (fun d => m.testBit d), c < ts.length ∧ (netOf p ts g).inF c = false ∧ c ∈ (netOf p ts g).chords := fun c hc =>
      ⟨(RM.chords_mem.mp (List.mem_filter.mp hc).1).1, (RM.chords_mem.mp (List.mem_filter.mp hc).1).2, (List.mem_filter.mp hc).1⟩
    have hsum : xorL (((netOf p ts g).chords.filter (fun d => m.testBit d)).map (netOf p ts g).ring) = m := RM.by_chords hm ev
    have hcl : ((netOf p ts g).chords.filter (fun d => m.testBit d)).length ≤ 24 := Nat.le_trans (List.length_filter_le _ _) chords_few
    generalize (netOf p ts g).chords.filter (fun d => m.testBit d) = cs at hL1 hcs hsum hcl
    refine comp_list (xs := natsV cs) (fun i acc H2 => Same H1 H2 ∧ H2 D = some (.lst acc) ∧ acc = natsV ((cs.take i).map (netOf p ts g).ring)) ⟨Same.new hD, upd_same, rfl⟩ ?_ (by rw [natsV_len]; exact small24 hcl) ?_ ?_
    · rintro i acc H2 _ ⟨s2, hD2, rfl⟩
      refine ⟨SqL.of (s2 _ _ hL1), hD2, ?_⟩
      rw [natsV_len, List.length_map, List.length_take]
      exact Nat.min_le_left _ _
    · rintro i x acc H2 hx ⟨s2, hD2, rfl⟩
      obtain ⟨c, hc, rfl⟩ := natsV_get hx
      obtain ⟨_, _, c3⟩ := hcs c (List.mem_of_getElem? hc)
      refine ⟨rfl, exq rfl (exq rfl ⟨wb, p, ts, g, _, rfl, hw.same (s1.trans s2), .inl ⟨c, rfl, c3, fun H3 s3 => ⟨s3 _ _ hD2, (s2.trans s3).put hD, upd_same, ?_⟩⟩⟩)⟩
      rw [List.take_add_one, hc, Option.toList_some, List.map_append, List.map_singleton, natsV_snoc]
    · rintro acc H2 ⟨s2, hD2, rfl⟩
      rw [natsV_len, List.take_length] at hD2
      have hw2 := hw.same (s1.trans s2)
      have pt_ok : ∀ {rs ls : List Nat}, RM.Pt (netOf p ts g) m rs 0 → ls.Perm rs → xorL ls = m ∧ ((netOf p ts g).Ring m ↔ ls.length = 1) := fun {rs ls} pt hp => by
        obtain ⟨_, _, h3, h4, h5⟩ := RM.pt_facts (N := netOf p ts g) hm ev pt
        rw [Nat.xor_zero] at h5
        refine ⟨(xorL_perm hp).trans h5, ?_⟩
        rw [hp.length_eq]
        exact RM.parted_one (fun r hr => (h3 r hr).1) h4 h5
      refine (exq rfl ⟨D, _, rfl, hD2, _, rfl, rfl, exq rfl (iteNS (by rw [hsum]) ?_)⟩)
      refine (exq rfl (exq rfl ⟨wb, p, ts, g, _, m, rfl, rfl, hw2, hm, ev, fun D3 H3 rs3 ls3 _ s3 hL3 pt3 hp3 hl3 => ?_⟩))
      refine ⟨D3, _, rfl, hL3, _, rfl, rfl, exq rfl (iteNS (by rw [(pt_ok pt3 hp3).1]) ?_)⟩
      have hD3 := s3 _ _ hD2
      refine (exq rfl ⟨D, rfl, ⟨_, SqL.of hD3⟩, for_list' (K := K) (a := D) (xs := natsV (cs.map (netOf p ts g).ring)) (fun i σ H4 => ∃ v, σ = [some (.ref wb), some (.int (m : Int)), some (.ref D), v] ∧ Same H3 H4) ⟨none, rfl, Same.refl _⟩ (fun i σ H4 _ ⟨_, _, s⟩ => SqL.of (s _ _ hD3)) ?_ ?_⟩)
      · rintro i x D' σ H4 hx ⟨v, rfl, s4⟩
        obtain ⟨r, hr', rfl⟩ := natsV_get hx
        obtain ⟨c, hc, rfl⟩ := List.mem_map.mp (List.mem_of_getElem? hr')
        obtain ⟨c1, c2, c3⟩ := hcs c hc
        refine (exq rfl (exq rfl ⟨wb, p, ts, g, _, rfl, hw2.same (s3.trans s4), .inl ⟨(netOf p ts g).ring c, rfl, RM.ring_lt c1, fun H5 s5 => ?_⟩⟩))
        rw [(ringB_iff g (RM.ring_lt c1)).mpr (RM.ring_ring c1 c2)]
        exact ⟨true, true, rfl, rfl, exq rfl (iteF (exq rfl (s4.trans s5)))⟩
      · rintro σ H4 ⟨v, rfl, s4⟩
        refine (exq rfl (exq rfl ⟨wb, p, ts, g, _, rfl, hw2.same (s3.trans s4), .inl ⟨m, rfl, hm, fun H5 s5 => ?_⟩⟩))
        refine (exq rfl (exq rfl ⟨wb, p, ts, g, _, m, rfl, rfl, hw2.same ((s3.trans s4).trans s5), hm, ev, fun D6 H6 rs6 ls6 _ s6 hL6 pt6 hp6 hl6 => ?_⟩))
        refine (lnq rfl (.inl (SqL.of hL6)) ⟨rfl, ?_⟩)
        have e : ringB p ts g m = decide (V.int ((natsV ls6).length : Int) = V.int 1) := by
          rw [Bool.eq_iff_iff, decide_eq_true_eq, ringB_iff g hm, (pt_ok pt6 hp6).2, natsV_len]
          exact ⟨fun z => by rw [z]; rfl, fun z => by have := V.int.inj z; (first | lia | omega)⟩
        refine ⟨rfl, ?_⟩
        rw [decide_eq_true (congrArg V.bl e)]
        exact q _ ((((s1.trans s2).trans s3).trans s4).trans (s5.trans s6))
end

def sp_law (K : PySem.W.Frag) : Sp := fun vs H Q _ => ∃ (a : Addr) (ns : List Int), vs = [.ref a] ∧ SqL K H a (ns.map V.int) ∧ ns.length ≤ 63 ∧ ∀ H', Q (.bl true) H'
theorem pow_two (n : Nat) : ((2 : Int) ^ n) = ((2 ^ n : Nat) : Int) := by simp
section
variable {P : Program} {w : World} {K : PySem.W.Frag} {mg : Str → Option Value} {base : Heap} {a : Adr}
theorem G_law (T : Txt K mg a) : FnOk P w K mg base CX0 9 a.f_law a.d_law ["script"] (sp_law K) := by
  have G_law_web : FnOk P w K mg base CX0 2 a.f_law_web a.d_law_web ["script", "most"] (sp_web K) := G_law_web T
  have G_law_cell : FnOk P w K mg base CX0 1 a.f_law_cell a.d_law_cell ["script", "k"] (sp_cell K) := G_law_cell T
  have G_law_stir : FnOk P w K mg base CX0 1 a.f_law_stir a.d_law_stir ["cell", "k"] sp_stir := G_law_stir T
  have G_law_odd : FnOk P w K mg base CX0 2 a.f_law_odd a.d_law_odd ["web", "some"] sp_law_odd := G_law_odd T
  have G_law_fine : FnOk P w K mg base CX0 8 a.f_law_fine a.d_law_fine ["web", "some"] sp_fine := G_law_fine T
  have G_rank : FnOk P w K mg base CX0 6 a.f_rank a.d_rank ["web"] sp_rank := G_rank T
  have G_even_numbered : FnOk P w K mg base CX0 7 a.f_even_numbered a.d_even_numbered ["web", "number"] sp_even_numbered := G_even_numbered T
  have G_number_of_even : FnOk P w K mg base CX0 7 a.f_number_of_even a.d_number_of_even ["web", "tie_set"] sp_number_of := G_number_of_even T
  have G_is_even : FnOk P w K mg base (CX1 P w) 6 a.f_is_even a.d_is_even ["web", "tie_set"] (sp_is_even a.c_BadSet) := G_is_even T
  refine T.F_law.ok sc_law (fun vs H Q E h => ?_) (fun cdv A outer s H vs Q E hr h => ?_)
  · obtain ⟨b, ns, rfl, _⟩ := h
    rfl
  · obtain ⟨b, ns, rfl, hS, hn, fin⟩ := h
    refine ⟨_, (pss_cons (ps_set (i := 1) sc_law.nd rfl (Or.inr rfl) (pe_call G_law_web (hr.mono (by decide)) (by rfl) T.m_law_web T.k_law_web T.b_law_web .nil pass0 (pa_cons (pv 0) (pa_cons pe_int pa_nil))))
      (pss_cons (ps_set (i := 2) sc_law.nd rfl (Or.inl rfl) (pe_op op_shl pe_int (pe_call G_rank (hr.mono (by decide)) (by rfl) T.m_rank T.k_rank T.b_rank .nil pass0 (pa_cons (pv 1) pa_nil))))
      (pss_cons (ps_comp (i := 3) sc_law.nd rfl rfl (own := ["some"]) (frees := ["web"]) (js := [1]) (compText_of (defScope s_law) ["script", "web", "many", "due", "found", "number", "other"]) rfl (pi_range1 (by rfl) T.n_range (pa_cons (pe_op op_shl pe_int (pe_callB (lenK K) (by rfl) T.n_len PySem.boot_len (pa_cons (pe_ix (ixT K) (pv 1) pe_int (fun _ _ => rfl)) pa_nil))) pa_nil)) (fun _ _ _ _ => (pg_name (i := 0) (show (["some", "web"] : List Str).Nodup by decide +kernel) rfl (Or.inl rfl))) (fun _ _ _ _ => (pts_one (pt_cmpR (op_eqK K hr.units) (pe_call G_law_odd (hr.mono (by decide)) (by rfl) T.m_law_odd T.k_law_odd T.b_law_odd .nil pass0 (pa_cons (pv 1) (pa_cons (pv 0) pa_nil))) (pe_lst pa_nil) (nomark _)))) (fun _ _ _ _ => (pv 0)))
      (pss_cons (ps_comp (i := 4) sc_law.nd rfl rfl (own := ["number"]) (frees := ["web"]) (js := [1]) (compText_of (defScope s_law) ["script", "web", "many", "due", "found", "number", "other"]) rfl (pi_range1 (by rfl) T.n_range (pa_cons (pv 2) pa_nil)) (fun _ _ _ _ => (pg_name (i := 0) (show (["number", "web"] : List Str).Nodup by decide +kernel) rfl (Or.inl rfl))) (fun _ _ _ _ => pts_nil) (fun _ _ _ _ => (pe_call G_even_numbered (hr.mono (by decide)) (by rfl) T.m_even_numbered T.k_even_numbered T.b_even_numbered .nil pass0 (pa_cons (pv 1) (pa_cons (pv 0) pa_nil)))))
      (pss_cons (ps_if (PW.pt (pw_or (pt_cmpR (op_neK K hr.units) (pe_callB (sortedA K) (by rfl) T.n_sorted PyProof.Rows.boot_sorted (pa_cons (pv 4) pa_nil)) (pv 3) (nomark _)) (pw_or1 (pt_cmpR op_ne (pe_ix (ixL K) (pv 4) pe_int (fun _ _ => rfl)) pe_int (nomark _))))) (pss_one (ps_ret pe_bl)) pss_nil)
      (pss_cons (ps_for PassesOwn.never rfl (pi_range1 (by rfl) T.n_range (pa_cons (pv 2) pa_nil)) (pg_name (i := 5) sc_law.nd rfl (Or.inl rfl))
      (pss_cons (ps_set (i := 6) sc_law.nd rfl (Or.inl rfl) (pe_op op_mod (pe_call G_law_stir (hr.mono (by decide)) (by rfl) T.m_law_stir T.k_law_stir T.b_law_stir .nil pass0 (pa_cons (pe_call G_law_cell (hr.mono (by decide)) (by rfl) T.m_law_cell T.k_law_cell T.b_law_cell .nil pass0 (pa_cons (pv 0) (pa_cons (pe_op op_mod (pv 5) pe_int) pa_nil))) (pa_cons (pv 5) pa_nil))) (pv 2)))
      (pss_cons (ps_if (pt_cmpR op_ne (pe_op op_xor (pe_ix (ixL K) (pv 4) (pv 5) (fun _ _ => rfl)) (pe_ix (ixL K) (pv 4) (pv 6) (fun _ _ => rfl))) (pe_ix (ixL K) (pv 4) (pe_op op_xor (pv 5) (pv 6)) (fun _ _ => rfl)) (nomark _)) (pss_one (ps_ret pe_bl)) pss_nil)
      (pss_cons (ps_if (PW.pt (pw_or (pt_cmpR op_ne (pe_call G_number_of_even (hr.mono (by decide)) (by rfl) T.m_number_of_even T.k_number_of_even T.b_number_of_even .nil pass0 (pa_cons (pv 1) (pa_cons (pe_ix (ixL K) (pv 4) (pv 5) (fun _ _ => rfl)) pa_nil))) (pv 5) (nomark _)) (pw_or1 (pt_cmpR isNotB (pe_call G_is_even (hr.mono (by decide)) (by rfl) T.m_is_even T.k_is_even T.b_is_even .nil passN (pa_cons (pv 1) (pa_cons (pe_ix (ixL K) (pv 4) (pv 5) (fun _ _ => rfl)) pa_nil))) pe_bl (nomark _))))) (pss_one (ps_ret pe_bl)) pss_nil)
      (pss_one (ps_if (pt_not (pt_val (pe_call G_law_fine (hr.mono (by decide)) (by rfl) T.m_law_fine T.k_law_fine T.b_law_fine .nil pass0 (pa_cons (pv 1) (pa_cons (pe_ix (ixL K) (pv 4) (pv 5) (fun _ _ => rfl)) pa_nil))))) (pss_one (ps_ret pe_bl)) pss_nil))))))
      (pss_one (ps_ret pe_bl)))))))), ?_⟩
    refine hd_law ?_
    intro zz0 zz1 zz2 zz3 zz4 zz5 zz6 zz7 zz8 zz9 zz10 zz11 zz12 zz13
    refine (exq rfl ⟨b, ns, 8, rfl, hS, hn, by decide, fun wb p ts H1 s1 g p6 hlen hw => ?_⟩)
    have W := g.web
    have hcl : (netOf p ts g).chords.length ≤ ts.length := by
      refine Nat.le_trans (List.length_filter_le _ _) ?_
      rw [List.length_range]
      exact Nat.le_refl _
    refine (exq rfl ⟨wb, p, ts, g, rfl, hw, fun H2 s2 => ?_⟩)
    refine (ijq ⟨⟨by (first | lia | omega), by (first | lia | omega), by decide⟩, ?_⟩)
    dsimp only
    rw [Int.toNat_natCast, Int.one_mul, pow_two]
    have hp256 : 2 ^ ts.length ≤ 256 := Nat.le_trans (Nat.pow_le_pow_right (by decide) hlen) (by decide)
    have hr256 : 2 ^ (netOf p ts g).chords.length ≤ 256 := Nat.le_trans (Nat.pow_le_pow_right (by decide) (Nat.le_trans hcl hlen)) (by decide)
    have hw2 := hw.same s2
    obtain ⟨bt, xs, h1, h2, h3⟩ := id hw2.ex
    have hxl := h3.length
    refine (exq rfl (ixq (SqT.of h1) (atI_nat (j := 1) rfl) (lnq rfl (.inr (SqT.of h2)) (ijq ⟨⟨by (first | lia | omega), by (first | lia | omega), by decide⟩, ?_⟩))))
    dsimp only
    rw [Int.toNat_natCast, hxl, Int.one_mul, pow_two]
    refine (exq rfl ⟨Int.le_trans (by decide) (Int.natCast_nonneg _), Int.lt_of_le_of_lt (Int.ofNat_le.mpr hp256) (by decide), fun D hD => comp_range (lo := 0) (m := 2 ^ ts.length) (Pick (fun k => decide (oddOf p ts (k : Int) = [])) H2 D) (.start hD) (fun i acc H3 _ pk => pk.len) (Nat.le_of_lt (small1000 (by (first | lia | omega)))) ?_ ?_⟩)
    · intro i acc H3 hi pk
      rw [Int.zero_add]
      refine ⟨rfl, exq rfl (exq rfl ⟨wb, p, ts, i, rfl, hw2.same pk.1, W, hi, fun D2 H4 hn4 s4 hD4 => ⟨dl rfl, fun l hl => ⟨_, _, .lst (SqL.of (Same.new hl _ _ hD4)) (nats_dat _), .lst (SqL.of upd_same) .nil, shaped_nats _, rfl, exq rfl (?_)⟩⟩⟩)⟩
      rw [eqv_nil]
      have s5 := s4.trans (Same.new (o := .lst []) hl)
      cases hb : decide (oddOf p ts (i : Int) = []) with
      | true => exact (exq rfl (pk.yes hD s5 hb))
      | false => exact pk.no s5 hb
    · rintro acc H3 ⟨s3, hD3, rfl⟩
      have hE : (List.range (2 ^ ts.length)).filter (fun k : Nat => decide (oddOf p ts (k : Int) = [])) = (List.range (2 ^ (netOf p ts g).chords.length)).map fun z => (netOf p ts g).sumR z (netOf p ts g).chords 0 :=
        RM.evens_list (N := netOf p ts g) fun m hm => by rw [decide_eq_true_eq]; exact even_net g hm
      rw [hE] at hD3
      have hw3 := hw2.same s3
      have ef : ∀ z, (netOf p ts g).Even ((netOf p ts g).sumR z (netOf p ts g).chords 0) ∧ (netOf p ts g).sumR z (netOf p ts g).chords 0 < 2 ^ ts.length := fun z => RM.eN_even
      have emono : ((List.range (2 ^ (netOf p ts g).chords.length)).map fun z => (netOf p ts g).sumR z (netOf p ts g).chords 0).Pairwise (· < ·) := by
        rw [← hE]
        exact List.Pairwise.filter _ List.pairwise_lt_range
      generalize hR : (netOf p ts g).chords.length = r at *
      refine (exq rfl (exq rfl ⟨Int.le_trans (by decide) (Int.natCast_nonneg _), Int.lt_of_le_of_lt (Int.ofNat_le.mpr hr256) (by decide), fun F hF => comp_range (lo := 0) (m := 2 ^ r) (fun i acc H4 => Same H3 H4 ∧ H4 F = some (.lst acc) ∧ acc = natsV ((List.range i).map fun z => (netOf p ts g).sumR z (netOf p ts g).chords 0)) ⟨Same.new hF, upd_same, rfl⟩ ?_ (Nat.le_of_lt (small1000 (by (first | lia | omega)))) ?_ ?_⟩))
      · rintro i acc H4 _ ⟨s4, hF4, rfl⟩
        exact ⟨hF4, by rw [natsV_len, List.length_map, List.length_range]; exact Nat.le_refl _⟩
      · rintro i acc H4 hi ⟨s4, hF4, rfl⟩
        rw [Int.zero_add]
        refine ⟨rfl, exq rfl (exq rfl ⟨wb, p, ts, g, _, i, rfl, rfl, hw3.same s4, by rw [hR]; exact hi, fun H5 s5 => ⟨s5 _ _ hF4, (s4.trans s5).put hF, upd_same, ?_⟩⟩)⟩
        rw [List.range_succ, List.map_append, List.map_singleton, natsV_snoc]
      · rintro acc H4 ⟨s4, hF4, rfl⟩
        have hD4 := s4 _ _ hD3
        refine (exq rfl ⟨F, ((List.range (2 ^ r)).map fun z => (netOf p ts g).sumR z (netOf p ts g).chords 0).map fun x => ((x : Nat) : Int), rfl, SqL.of (by rw [hF4, natsV_ints]), by rw [List.length_map, List.length_map, List.length_range]; (first | lia | omega), ?_, fun l hl => ?_⟩)
        · rw [List.pairwise_map]
          exact emono.imp fun z => Int.ofNat_le.mpr (Nat.le_of_lt z)
        rw [← natsV_ints]
        refine (exq rfl ⟨_, _, .lst (SqL.of upd_same) (nats_dat _), .lst (SqL.of (Same.new hl _ _ hD4)) (nats_dat _), shaped_nats _, shaped_nats _, _, rfl, ?_⟩)
        rw [eqv_lists, decide_eq_true rfl]
        have s5 : Same H4 (upd H4 l (.lst (natsV ((List.range (2 ^ r)).map fun z => (netOf p ts g).sumR z (netOf p ts g).chords 0)))) := Same.new hl
        generalize upd H4 l (.lst (natsV ((List.range (2 ^ r)).map fun z => (netOf p ts g).sumR z (netOf p ts g).chords 0))) = H5 at s5
        have hF5 := s5 _ _ hF4
        have s15 := (((s1.trans s2).trans s3).trans s4).trans s5
        have hw5 := hw3.same (s4.trans s5)
        have hat : ∀ z, z < 2 ^ r → atI (natsV ((List.range (2 ^ r)).map fun z => (netOf p ts g).sumR z (netOf p ts g).chords 0)) ((z : Nat) : Int) = some (.int (((netOf p ts g).sumR z (netOf p ts g).chords 0 : Nat) : Int)) := fun z hz => by
          refine atI_nat (j := z) ?_
          unfold natsV
          rw [List.getElem?_map, List.getElem?_map, List.getElem?_range hz]
          rfl
        have h0r := Nat.two_pow_pos r
        refine iteF (exq rfl (ixl (SqL.of hF5) (hat 0 h0r) ⟨rfl, exq rfl (iteNS (by rw [RM.eN_zero]; rfl) ?_)⟩))
        generalize hL : natsV ((List.range (2 ^ r)).map fun z => (netOf p ts g).sumR z (netOf p ts g).chords 0) = L at *
        refine (exq rfl (exq rfl ⟨Int.le_trans (by decide) (Int.natCast_nonneg _), Int.lt_of_le_of_lt (Int.ofNat_le.mpr hr256) (by decide), for_range' (lo := 0) (n := 2 ^ r) (fun i σ H6 => ∃ v5 v6, σ = [some (.ref b), some (.ref wb), some (.int ((2 ^ r : Nat) : Int)), some (.ref D), some (.ref F), v5, v6] ∧ Same H5 H6) ⟨none, none, rfl, Same.refl _⟩ ?_ ?_⟩))
        · rintro i D' σ H6 hi ⟨v5, v6, rfl, s6⟩
          rw [Int.zero_add]
          have hF6 := SqL.of (K := K) (s6 _ _ hF5)
          refine (exq rfl (exq rfl (ijq ⟨(modC rfl), b, ns, i % 60, rfl, (s15.trans s6).seq hS, fun zc => (exq rfl ⟨zc, _, rfl, fun zs zs0 => (exq rfl (ijq ⟨Int.ofNat_lt.mpr h0r, ?_⟩))⟩)⟩)))
          obtain ⟨o0, o1⟩ := emod2 zs ((2 ^ r : Nat) : Int) (Int.ofNat_lt.mpr h0r)
          obtain ⟨o, ho⟩ := Int.eq_ofNat_of_zero_le o0
          have hol : o < 2 ^ r := Int.ofNat_lt.mp (by rw [← ho]; exact o1)
          dsimp only
          rw [ho]
          have hx : i ^^^ o < 2 ^ r := Nat.xor_lt_two_pow hi hol
          refine (exq rfl (exq rfl ⟨F, _, _, _, rfl, rfl, hF6, hat i hi, _, rfl, exq rfl ⟨F, _, _, _, rfl, rfl, hF6, hat o hol, _, _, rfl, rfl, ?_⟩⟩))
          refine (exq rfl (exq rfl (exq rfl (ijq ⟨F, _, _, _, rfl, rfl, hF6, (by rw [xor_int]; exact hat _ hx), rfl, exq rfl (iteNS (by rw [RM.eN_xor]; exact congrArg V.int (xor_int _ _)) ?_)⟩))))
          obtain ⟨ev, lt⟩ := ef i
          have hw6 := hw5.same s6
          refine (exq rfl (exq rfl (exq rfl ⟨F, _, _, _, rfl, rfl, hF6, hat i hi, wb, p, ts, g, _, _, rfl, rfl, hw6, lt, ev, fun H7 s7 => (exq rfl ⟨rfl, exq rfl (iteNS (by rw [number_back (by rw [hR]; exact hi) chords_nodup]) ?_)⟩)⟩)))
          have hF7 := SqL.of (K := K) (s7 _ _ (s6 _ _ hF5))
          refine (exq rfl (exq rfl (exq rfl ⟨F, _, _, _, rfl, rfl, hF7, hat i hi, wb, p, ts, _, rfl, hw6.same s7, W, .inl (exq rfl ⟨lt, fun H8 s8 => ?_⟩)⟩)))
          rw [decide_eq_true ((even_net g lt).mpr ev)]
          refine ⟨true, true, rfl, rfl, exq rfl (iteF ?_)⟩
          have s68 := (s6.trans s7).trans s8
          refine (exq rfl (exq rfl (exq rfl (ixl (SqL.of (s68 _ _ hF5)) (hat i hi) ⟨wb, p, ts, g, _, rfl, hw5.same s68, lt, ev, fun H9 s9 => (exq rfl (iteF ⟨_, _, rfl, s68.trans s9⟩))⟩))))
        · rintro σ H6 ⟨v5, v6, rfl, s6⟩
          exact fin _
end

theorem all_mk {l : PySem.W.OpenLaw} {w : World} {K : PySem.W.Frag} {h : Heap} {mg : Str → Option Value} {fa : Addr} (X : K.In h) (G : h.Ns mainGlobals mg) (hfa : mg "law" = some (.ref fa))
    {f0 f1 f2 f3 f4 f5 f6 f7 f8 f9 f10 f11 f12 f13 f14 f15 f16 f17 f18 f19 f20 f21 f22 f23 f24 f25 f26 f27 f28 f29 f30 f31 f32 f33 f34 : Addr} {od0 an0 od1 an1 od2 an2 od3 an3 od4 an4 od5 an5 od6 an6 od7 an7 od8 an8 od9 an9 od10 an10 od11 an11 od12 an12 od13 an13 od14 an14 od15 an15 od16 an16 od17 an17 od18 an18 od19 an19 od20 an20 od21 an21 od22 an22 od23 an23 od24 an24 od25 an25 od26 an26 od27 an27 od28 an28 od29 an29 od30 an30 od31 an31 od32 an32 od33 an33 od34 an34 : Option Addr} {sl0 sl1 sl2 sl3 sl4 sl5 sl6 sl7 sl8 sl9 sl10 sl11 sl12 sl13 sl14 sl15 sl16 sl17 sl18 sl19 sl20 sl21 sl22 sl23 sl24 sl25 sl26 sl27 sl28 sl29 sl30 sl31 sl32 sl33 sl34 : Array (Option Value)}
    {oc0 kV0 dc0 pm0 cd0 ct0 oc1 kV1 dc1 pm1 cd1 ct1 oc2 kV2 dc2 pm2 cd2 ct2 oc3 kV3 dc3 pm3 cd3 ct3 oc4 kV4 dc4 pm4 cd4 ct4 oc5 kV5 dc5 pm5 cd5 ct5 oc6 kV6 dc6 pm6 cd6 ct6 oc7 kV7 dc7 pm7 cd7 ct7 oc8 kV8 dc8 pm8 cd8 ct8 oc9 kV9 dc9 pm9 cd9 ct9 oc10 kV10 dc10 pm10 cd10 ct10 oc11 kV11 dc11 pm11 cd11 ct11 oc12 kV12 dc12 pm12 cd12 ct12 oc13 kV13 dc13 pm13 cd13 ct13 oc14 kV14 dc14 pm14 cd14 ct14 oc15 kV15 dc15 pm15 cd15 ct15 oc16 kV16 dc16 pm16 cd16 ct16 oc17 kV17 dc17 pm17 cd17 ct17 oc18 kV18 dc18 pm18 cd18 ct18 oc19 kV19 dc19 pm19 cd19 ct19 oc20 kV20 dc20 pm20 cd20 ct20 oc21 kV21 dc21 pm21 cd21 ct21 oc22 kV22 dc22 pm22 cd22 ct22 oc23 kV23 dc23 pm23 cd23 ct23 oc24 kV24 dc24 pm24 cd24 ct24 oc25 kV25 dc25 pm25 cd25 ct25 oc26 kV26 dc26 pm26 cd26 ct26 oc27 kV27 dc27 pm27 cd27 ct27 oc28 kV28 dc28 pm28 cd28 ct28 oc29 kV29 dc29 pm29 cd29 ct29 oc30 kV30 dc30 pm30 cd30 ct30 oc31 kV31 dc31 pm31 cd31 ct31 oc32 kV32 dc32 pm32 cd32 ct32 oc33 kV33 dc33 pm33 cd33 ct33 oc34 kV34 dc34 pm34 cd34 ct34 : Value}
    {u_BadSet u_NoChord u_NoSuch u_NotEven : Addr}
    (a0 : PySem.W.nsIn K mainGlobals "has_tie" = some (some (.ref f0)))
    (l0 : K.lookup f0 = some ⟨oc0, od0, .func (PySem.W.fnOf "has_tie" "has_tie" (defArgs s_has_tie) (defBody s_has_tie) (defScope s_has_tie) .none kV0 dc0 pm0 an0 cd0 ct0), sl0⟩)
    (c0 : PySem.W.codeIn K cd0 "has_tie" = true) (k0 : PySem.W.keepIn K (.ref f0) = true)
    (a1 : PySem.W.nsIn K mainGlobals "ties_in" = some (some (.ref f1)))
    (l1 : K.lookup f1 = some ⟨oc1, od1, .func (PySem.W.fnOf "ties_in" "ties_in" (defArgs s_ties_in) (defBody s_ties_in) (defScope s_ties_in) .none kV1 dc1 pm1 an1 cd1 ct1), sl1⟩)
    (c1 : PySem.W.codeIn K cd1 "ties_in" = true) (k1 : PySem.W.keepIn K (.ref f1) = true)
    (a2 : PySem.W.nsIn K mainGlobals "set_of" = some (some (.ref f2)))
    (l2 : K.lookup f2 = some ⟨oc2, od2, .func (PySem.W.fnOf "set_of" "set_of" (defArgs s_set_of) (defBody s_set_of) (defScope s_set_of) .none kV2 dc2 pm2 an2 cd2 ct2), sl2⟩)
    (c2 : PySem.W.codeIn K cd2 "set_of" = true) (k2 : PySem.W.keepIn K (.ref f2) = true)
    (a3 : PySem.W.nsIn K mainGlobals "all_ties" = some (some (.ref f3)))
    (l3 : K.lookup f3 = some ⟨oc3, od3, .func (PySem.W.fnOf "all_ties" "all_ties" (defArgs s_all_ties) (defBody s_all_ties) (defScope s_all_ties) .none kV3 dc3 pm3 an3 cd3 ct3), sl3⟩)
    (c3 : PySem.W.codeIn K cd3 "all_ties" = true) (k3 : PySem.W.keepIn K (.ref f3) = true)
    (a4 : PySem.W.nsIn K mainGlobals "is_set" = some (some (.ref f4)))
    (l4 : K.lookup f4 = some ⟨oc4, od4, .func (PySem.W.fnOf "is_set" "is_set" (defArgs s_is_set) (defBody s_is_set) (defScope s_is_set) .none kV4 dc4 pm4 an4 cd4 ct4), sl4⟩)
    (c4 : PySem.W.codeIn K cd4 "is_set" = true) (k4 : PySem.W.keepIn K (.ref f4) = true)
    (a5 : PySem.W.nsIn K mainGlobals "check_set" = some (some (.ref f5)))
    (l5 : K.lookup f5 = some ⟨oc5, od5, .func (PySem.W.fnOf "check_set" "check_set" (defArgs s_check_set) (defBody s_check_set) (defScope s_check_set) .none kV5 dc5 pm5 an5 cd5 ct5), sl5⟩)
    (c5 : PySem.W.codeIn K cd5 "check_set" = true) (k5 : PySem.W.keepIn K (.ref f5) = true)
    (a6 : PySem.W.nsIn K mainGlobals "triples_in" = some (some (.ref f6)))
    (l6 : K.lookup f6 = some ⟨oc6, od6, .func (PySem.W.fnOf "triples_in" "triples_in" (defArgs s_triples_in) (defBody s_triples_in) (defScope s_triples_in) .none kV6 dc6 pm6 an6 cd6 ct6), sl6⟩)
    (c6 : PySem.W.codeIn K cd6 "triples_in" = true) (k6 : PySem.W.keepIn K (.ref f6) = true)
    (a7 : PySem.W.nsIn K mainGlobals "odd_points" = some (some (.ref f7)))
    (l7 : K.lookup f7 = some ⟨oc7, od7, .func (PySem.W.fnOf "odd_points" "odd_points" (defArgs s_odd_points) (defBody s_odd_points) (defScope s_odd_points) .none kV7 dc7 pm7 an7 cd7 ct7), sl7⟩)
    (c7 : PySem.W.codeIn K cd7 "odd_points" = true) (k7 : PySem.W.keepIn K (.ref f7) = true)
    (a8 : PySem.W.nsIn K mainGlobals "drawn_together" = some (some (.ref f8)))
    (l8 : K.lookup f8 = some ⟨oc8, od8, .func (PySem.W.fnOf "drawn_together" "drawn_together" (defArgs s_drawn_together) (defBody s_drawn_together) (defScope s_drawn_together) .none kV8 dc8 pm8 an8 cd8 ct8), sl8⟩)
    (c8 : PySem.W.codeIn K cd8 "drawn_together" = true) (k8 : PySem.W.keepIn K (.ref f8) = true)
    (a9 : PySem.W.nsIn K mainGlobals "pieces" = some (some (.ref f9)))
    (l9 : K.lookup f9 = some ⟨oc9, od9, .func (PySem.W.fnOf "pieces" "pieces" (defArgs s_pieces) (defBody s_pieces) (defScope s_pieces) .none kV9 dc9 pm9 an9 cd9 ct9), sl9⟩)
    (c9 : PySem.W.codeIn K cd9 "pieces" = true) (k9 : PySem.W.keepIn K (.ref f9) = true)
    (a10 : PySem.W.nsIn K mainGlobals "rank" = some (some (.ref f10)))
    (l10 : K.lookup f10 = some ⟨oc10, od10, .func (PySem.W.fnOf "rank" "rank" (defArgs s_rank) (defBody s_rank) (defScope s_rank) .none kV10 dc10 pm10 an10 cd10 ct10), sl10⟩)
    (c10 : PySem.W.codeIn K cd10 "rank" = true) (k10 : PySem.W.keepIn K (.ref f10) = true)
    (a11 : PySem.W.nsIn K mainGlobals "is_even" = some (some (.ref f11)))
    (l11 : K.lookup f11 = some ⟨oc11, od11, .func (PySem.W.fnOf "is_even" "is_even" (defArgs s_is_even) (defBody s_is_even) (defScope s_is_even) .none kV11 dc11 pm11 an11 cd11 ct11), sl11⟩)
    (c11 : PySem.W.codeIn K cd11 "is_even" = true) (k11 : PySem.W.keepIn K (.ref f11) = true)
    (a12 : PySem.W.nsIn K mainGlobals "check_even" = some (some (.ref f12)))
    (l12 : K.lookup f12 = some ⟨oc12, od12, .func (PySem.W.fnOf "check_even" "check_even" (defArgs s_check_even) (defBody s_check_even) (defScope s_check_even) .none kV12 dc12 pm12 an12 cd12 ct12), sl12⟩)
    (c12 : PySem.W.codeIn K cd12 "check_even" = true) (k12 : PySem.W.keepIn K (.ref f12) = true)
    (a13 : PySem.W.nsIn K mainGlobals "forest_trails" = some (some (.ref f13)))
    (l13 : K.lookup f13 = some ⟨oc13, od13, .func (PySem.W.fnOf "forest_trails" "forest_trails" (defArgs s_forest_trails) (defBody s_forest_trails) (defScope s_forest_trails) .none kV13 dc13 pm13 an13 cd13 ct13), sl13⟩)
    (c13 : PySem.W.codeIn K cd13 "forest_trails" = true) (k13 : PySem.W.keepIn K (.ref f13) = true)
    (a14 : PySem.W.nsIn K mainGlobals "forest" = some (some (.ref f14)))
    (l14 : K.lookup f14 = some ⟨oc14, od14, .func (PySem.W.fnOf "forest" "forest" (defArgs s_forest) (defBody s_forest) (defScope s_forest) .none kV14 dc14 pm14 an14 cd14 ct14), sl14⟩)
    (c14 : PySem.W.codeIn K cd14 "forest" = true) (k14 : PySem.W.keepIn K (.ref f14) = true)
    (a15 : PySem.W.nsIn K mainGlobals "chords" = some (some (.ref f15)))
    (l15 : K.lookup f15 = some ⟨oc15, od15, .func (PySem.W.fnOf "chords" "chords" (defArgs s_chords) (defBody s_chords) (defScope s_chords) .none kV15 dc15 pm15 an15 cd15 ct15), sl15⟩)
    (c15 : PySem.W.codeIn K cd15 "chords" = true) (k15 : PySem.W.keepIn K (.ref f15) = true)
    (a16 : PySem.W.nsIn K mainGlobals "ring_closed" = some (some (.ref f16)))
    (l16 : K.lookup f16 = some ⟨oc16, od16, .func (PySem.W.fnOf "ring_closed" "ring_closed" (defArgs s_ring_closed) (defBody s_ring_closed) (defScope s_ring_closed) .none kV16 dc16 pm16 an16 cd16 ct16), sl16⟩)
    (c16 : PySem.W.codeIn K cd16 "ring_closed" = true) (k16 : PySem.W.keepIn K (.ref f16) = true)
    (a17 : PySem.W.nsIn K mainGlobals "chord_ring" = some (some (.ref f17)))
    (l17 : K.lookup f17 = some ⟨oc17, od17, .func (PySem.W.fnOf "chord_ring" "chord_ring" (defArgs s_chord_ring) (defBody s_chord_ring) (defScope s_chord_ring) .none kV17 dc17 pm17 an17 cd17 ct17), sl17⟩)
    (c17 : PySem.W.codeIn K cd17 "chord_ring" = true) (k17 : PySem.W.keepIn K (.ref f17) = true)
    (a18 : PySem.W.nsIn K mainGlobals "by_chords" = some (some (.ref f18)))
    (l18 : K.lookup f18 = some ⟨oc18, od18, .func (PySem.W.fnOf "by_chords" "by_chords" (defArgs s_by_chords) (defBody s_by_chords) (defScope s_by_chords) .none kV18 dc18 pm18 an18 cd18 ct18), sl18⟩)
    (c18 : PySem.W.codeIn K cd18 "by_chords" = true) (k18 : PySem.W.keepIn K (.ref f18) = true)
    (a19 : PySem.W.nsIn K mainGlobals "even_numbered" = some (some (.ref f19)))
    (l19 : K.lookup f19 = some ⟨oc19, od19, .func (PySem.W.fnOf "even_numbered" "even_numbered" (defArgs s_even_numbered) (defBody s_even_numbered) (defScope s_even_numbered) .none kV19 dc19 pm19 an19 cd19 ct19), sl19⟩)
    (c19 : PySem.W.codeIn K cd19 "even_numbered" = true) (k19 : PySem.W.keepIn K (.ref f19) = true)
    (a20 : PySem.W.nsIn K mainGlobals "number_of_even" = some (some (.ref f20)))
    (l20 : K.lookup f20 = some ⟨oc20, od20, .func (PySem.W.fnOf "number_of_even" "number_of_even" (defArgs s_number_of_even) (defBody s_number_of_even) (defScope s_number_of_even) .none kV20 dc20 pm20 an20 cd20 ct20), sl20⟩)
    (c20 : PySem.W.codeIn K cd20 "number_of_even" = true) (k20 : PySem.W.keepIn K (.ref f20) = true)
    (a21 : PySem.W.nsIn K mainGlobals "is_ring" = some (some (.ref f21)))
    (l21 : K.lookup f21 = some ⟨oc21, od21, .func (PySem.W.fnOf "is_ring" "is_ring" (defArgs s_is_ring) (defBody s_is_ring) (defScope s_is_ring) .none kV21 dc21 pm21 an21 cd21 ct21), sl21⟩)
    (c21 : PySem.W.codeIn K cd21 "is_ring" = true) (k21 : PySem.W.keepIn K (.ref f21) = true)
    (a22 : PySem.W.nsIn K mainGlobals "tie_at" = some (some (.ref f22)))
    (l22 : K.lookup f22 = some ⟨oc22, od22, .func (PySem.W.fnOf "tie_at" "tie_at" (defArgs s_tie_at) (defBody s_tie_at) (defScope s_tie_at) .none kV22 dc22 pm22 an22 cd22 ct22), sl22⟩)
    (c22 : PySem.W.codeIn K cd22 "tie_at" = true) (k22 : PySem.W.keepIn K (.ref f22) = true)
    (a23 : PySem.W.nsIn K mainGlobals "far_end" = some (some (.ref f23)))
    (l23 : K.lookup f23 = some ⟨oc23, od23, .func (PySem.W.fnOf "far_end" "far_end" (defArgs s_far_end) (defBody s_far_end) (defScope s_far_end) .none kV23 dc23 pm23 an23 cd23 ct23), sl23⟩)
    (c23 : PySem.W.codeIn K cd23 "far_end" = true) (k23 : PySem.W.keepIn K (.ref f23) = true)
    (a24 : PySem.W.nsIn K mainGlobals "ring_within" = some (some (.ref f24)))
    (l24 : K.lookup f24 = some ⟨oc24, od24, .func (PySem.W.fnOf "ring_within" "ring_within" (defArgs s_ring_within) (defBody s_ring_within) (defScope s_ring_within) .none kV24 dc24 pm24 an24 cd24 ct24), sl24⟩)
    (c24 : PySem.W.codeIn K cd24 "ring_within" = true) (k24 : PySem.W.keepIn K (.ref f24) = true)
    (a25 : PySem.W.nsIn K mainGlobals "parted" = some (some (.ref f25)))
    (l25 : K.lookup f25 = some ⟨oc25, od25, .func (PySem.W.fnOf "parted" "parted" (defArgs s_parted) (defBody s_parted) (defScope s_parted) .none kV25 dc25 pm25 an25 cd25 ct25), sl25⟩)
    (c25 : PySem.W.codeIn K cd25 "parted" = true) (k25 : PySem.W.keepIn K (.ref f25) = true)
    (a26 : PySem.W.nsIn K mainGlobals "_law_cell" = some (some (.ref f26)))
    (l26 : K.lookup f26 = some ⟨oc26, od26, .func (PySem.W.fnOf "_law_cell" "_law_cell" (defArgs s_law_cell) (defBody s_law_cell) (defScope s_law_cell) .none kV26 dc26 pm26 an26 cd26 ct26), sl26⟩)
    (c26 : PySem.W.codeIn K cd26 "_law_cell" = true) (k26 : PySem.W.keepIn K (.ref f26) = true)
    (a27 : PySem.W.nsIn K mainGlobals "_law_stir" = some (some (.ref f27)))
    (l27 : K.lookup f27 = some ⟨oc27, od27, .func (PySem.W.fnOf "_law_stir" "_law_stir" (defArgs s_law_stir) (defBody s_law_stir) (defScope s_law_stir) .none kV27 dc27 pm27 an27 cd27 ct27), sl27⟩)
    (c27 : PySem.W.codeIn K cd27 "_law_stir" = true) (k27 : PySem.W.keepIn K (.ref f27) = true)
    (a28 : PySem.W.nsIn K mainGlobals "_law_tie" = some (some (.ref f28)))
    (l28 : K.lookup f28 = some ⟨oc28, od28, .func (PySem.W.fnOf "_law_tie" "_law_tie" (defArgs s_law_tie) (defBody s_law_tie) (defScope s_law_tie) .none kV28 dc28 pm28 an28 cd28 ct28), sl28⟩)
    (c28 : PySem.W.codeIn K cd28 "_law_tie" = true) (k28 : PySem.W.keepIn K (.ref f28) = true)
    (a29 : PySem.W.nsIn K mainGlobals "_law_web" = some (some (.ref f29)))
    (l29 : K.lookup f29 = some ⟨oc29, od29, .func (PySem.W.fnOf "_law_web" "_law_web" (defArgs s_law_web) (defBody s_law_web) (defScope s_law_web) .none kV29 dc29 pm29 an29 cd29 ct29), sl29⟩)
    (c29 : PySem.W.codeIn K cd29 "_law_web" = true) (k29 : PySem.W.keepIn K (.ref f29) = true)
    (a30 : PySem.W.nsIn K mainGlobals "_law_ties" = some (some (.ref f30)))
    (l30 : K.lookup f30 = some ⟨oc30, od30, .func (PySem.W.fnOf "_law_ties" "_law_ties" (defArgs s_law_ties) (defBody s_law_ties) (defScope s_law_ties) .none kV30 dc30 pm30 an30 cd30 ct30), sl30⟩)
    (c30 : PySem.W.codeIn K cd30 "_law_ties" = true) (k30 : PySem.W.keepIn K (.ref f30) = true)
    (a31 : PySem.W.nsIn K mainGlobals "_law_odd" = some (some (.ref f31)))
    (l31 : K.lookup f31 = some ⟨oc31, od31, .func (PySem.W.fnOf "_law_odd" "_law_odd" (defArgs s_law_odd) (defBody s_law_odd) (defScope s_law_odd) .none kV31 dc31 pm31 an31 cd31 ct31), sl31⟩)
    (c31 : PySem.W.codeIn K cd31 "_law_odd" = true) (k31 : PySem.W.keepIn K (.ref f31) = true)
    (a32 : PySem.W.nsIn K mainGlobals "_law_sum" = some (some (.ref f32)))
    (l32 : K.lookup f32 = some ⟨oc32, od32, .func (PySem.W.fnOf "_law_sum" "_law_sum" (defArgs s_law_sum) (defBody s_law_sum) (defScope s_law_sum) .none kV32 dc32 pm32 an32 cd32 ct32), sl32⟩)
    (c32 : PySem.W.codeIn K cd32 "_law_sum" = true) (k32 : PySem.W.keepIn K (.ref f32) = true)
    (a33 : PySem.W.nsIn K mainGlobals "_law_fine" = some (some (.ref f33)))
    (l33 : K.lookup f33 = some ⟨oc33, od33, .func (PySem.W.fnOf "_law_fine" "_law_fine" (defArgs s_law_fine) (defBody s_law_fine) (defScope s_law_fine) .none kV33 dc33 pm33 an33 cd33 ct33), sl33⟩)
    (c33 : PySem.W.codeIn K cd33 "_law_fine" = true) (k33 : PySem.W.keepIn K (.ref f33) = true)
    (a34 : PySem.W.nsIn K mainGlobals "law" = some (some (.ref f34)))
    (l34 : K.lookup f34 = some ⟨oc34, od34, .func (PySem.W.fnOf "law" "law" (defArgs s_law) (defBody s_law) (defScope s_law) .none kV34 dc34 pm34 an34 cd34 ct34), sl34⟩)
    (c34 : PySem.W.codeIn K cd34 "law" = true) (k34 : PySem.W.keepIn K (.ref f34) = true)
    (z_ValueError : PySem.W.nsIn K mainGlobals "ValueError" = some none)
    (z_enumerate : PySem.W.nsIn K mainGlobals "enumerate" = some none)
    (z_len : PySem.W.nsIn K mainGlobals "len" = some none)
    (z_list : PySem.W.nsIn K mainGlobals "list" = some none)
    (z_max : PySem.W.nsIn K mainGlobals "max" = some none)
    (z_min : PySem.W.nsIn K mainGlobals "min" = some none)
    (z_range : PySem.W.nsIn K mainGlobals "range" = some none)
    (z_sorted : PySem.W.nsIn K mainGlobals "sorted" = some none)
    (z_tuple : PySem.W.nsIn K mainGlobals "tuple" = some none)
    (z_zip : PySem.W.nsIn K mainGlobals "zip" = some none)
    (d_BadSet : PySem.W.nsIn K mainGlobals "BadSet" = some (some (.ref u_BadSet)))
    (d_NoChord : PySem.W.nsIn K mainGlobals "NoChord" = some (some (.ref u_NoChord)))
    (d_NoSuch : PySem.W.nsIn K mainGlobals "NoSuch" = some (some (.ref u_NoSuch)))
    (d_NotEven : PySem.W.nsIn K mainGlobals "NotEven" = some (some (.ref u_NotEven)))
    (xc_BadSet : PySem.W.excIn K u_BadSet [.type "ValueError", .type "Exception", .type "BaseException", .type "object"] "ValueError.__new__" = true)
    (xc_NoChord : PySem.W.excIn K u_NoChord [.type "ValueError", .type "Exception", .type "BaseException", .type "object"] "ValueError.__new__" = true)
    : ∃ fd : FuncData, (∀ (s : Shared) (v : Value), BindsTo s fd ⟨[v], []⟩ [("script", v)]) ∧ ∀ base : Heap, K.In base → base.Ns mainGlobals mg → FnOk l.prog w K mg base CX0 9 fa fd ["script"] (sp_law K) := by
  have e := hfa.symm.trans (PySem.W.mg_of X G a34)
  cases e
  have F0 := fun_mk (st := s_has_tie) l0 c0 k0
  have b0 := F0.binds (ps := ["tie_set", "tie"]) fun _ _ _ _ _ _ us hl => by obtain ⟨_, _, rfl⟩ := len2 us hl; rfl
  have F1 := fun_mk (st := s_ties_in) l1 c1 k1
  have b1 := F1.binds (ps := ["tie_set"]) fun _ _ _ _ _ _ us hl => by obtain ⟨_, rfl⟩ := len1 us hl; rfl
  have F2 := fun_mk (st := s_set_of) l2 c2 k2
  have b2 := F2.binds (ps := ["web", "ties"]) fun _ _ _ _ _ _ us hl => by obtain ⟨_, _, rfl⟩ := len2 us hl; rfl
  have F3 := fun_mk (st := s_all_ties) l3 c3 k3
  have b3 := F3.binds (ps := ["web"]) fun _ _ _ _ _ _ us hl => by obtain ⟨_, rfl⟩ := len1 us hl; rfl
  have F4 := fun_mk (st := s_is_set) l4 c4 k4
  have b4 := F4.binds (ps := ["web", "number"]) fun _ _ _ _ _ _ us hl => by obtain ⟨_, _, rfl⟩ := len2 us hl; rfl
  have F5 := fun_mk (st := s_check_set) l5 c5 k5
  have b5 := F5.binds (ps := ["web", "tie_set"]) fun _ _ _ _ _ _ us hl => by obtain ⟨_, _, rfl⟩ := len2 us hl; rfl
  have F6 := fun_mk (st := s_triples_in) l6 c6 k6
  have b6 := F6.binds (ps := ["web", "tie_set"]) fun _ _ _ _ _ _ us hl => by obtain ⟨_, _, rfl⟩ := len2 us hl; rfl
  have F7 := fun_mk (st := s_odd_points) l7 c7 k7
  have b7 := F7.binds (ps := ["web", "tie_set"]) fun _ _ _ _ _ _ us hl => by obtain ⟨_, _, rfl⟩ := len2 us hl; rfl
  have F8 := fun_mk (st := s_drawn_together) l8 c8 k8
  have b8 := F8.binds (ps := ["leasts", "one", "other"]) fun _ _ _ _ _ _ us hl => by obtain ⟨_, _, _, rfl⟩ := len3 us hl; rfl
  have F9 := fun_mk (st := s_pieces) l9 c9 k9
  have b9 := F9.binds (ps := ["web", "tie_set"]) fun _ _ _ _ _ _ us hl => by obtain ⟨_, _, rfl⟩ := len2 us hl; rfl
  have F10 := fun_mk (st := s_rank) l10 c10 k10
  have b10 := F10.binds (ps := ["web"]) fun _ _ _ _ _ _ us hl => by obtain ⟨_, rfl⟩ := len1 us hl; rfl
  have F11 := fun_mk (st := s_is_even) l11 c11 k11
  have b11 := F11.binds (ps := ["web", "tie_set"]) fun _ _ _ _ _ _ us hl => by obtain ⟨_, _, rfl⟩ := len2 us hl; rfl
  have F12 := fun_mk (st := s_check_even) l12 c12 k12
  have b12 := F12.binds (ps := ["web", "tie_set"]) fun _ _ _ _ _ _ us hl => by obtain ⟨_, _, rfl⟩ := len2 us hl; rfl
  have F13 := fun_mk (st := s_forest_trails) l13 c13 k13
  have b13 := F13.binds (ps := ["web"]) fun _ _ _ _ _ _ us hl => by obtain ⟨_, rfl⟩ := len1 us hl; rfl
  have F14 := fun_mk (st := s_forest) l14 c14 k14
  have b14 := F14.binds (ps := ["web"]) fun _ _ _ _ _ _ us hl => by obtain ⟨_, rfl⟩ := len1 us hl; rfl
  have F15 := fun_mk (st := s_chords) l15 c15 k15
  have b15 := F15.binds (ps := ["web"]) fun _ _ _ _ _ _ us hl => by obtain ⟨_, rfl⟩ := len1 us hl; rfl
  have F16 := fun_mk (st := s_ring_closed) l16 c16 k16
  have b16 := F16.binds (ps := ["web", "trails", "chord"]) fun _ _ _ _ _ _ us hl => by obtain ⟨_, _, _, rfl⟩ := len3 us hl; rfl
  have F17 := fun_mk (st := s_chord_ring) l17 c17 k17
  have b17 := F17.binds (ps := ["web", "tie"]) fun _ _ _ _ _ _ us hl => by obtain ⟨_, _, rfl⟩ := len2 us hl; rfl
  have F18 := fun_mk (st := s_by_chords) l18 c18 k18
  have b18 := F18.binds (ps := ["web", "tie_set"]) fun _ _ _ _ _ _ us hl => by obtain ⟨_, _, rfl⟩ := len2 us hl; rfl
  have F19 := fun_mk (st := s_even_numbered) l19 c19 k19
  have b19 := F19.binds (ps := ["web", "number"]) fun _ _ _ _ _ _ us hl => by obtain ⟨_, _, rfl⟩ := len2 us hl; rfl
  have F20 := fun_mk (st := s_number_of_even) l20 c20 k20
  have b20 := F20.binds (ps := ["web", "tie_set"]) fun _ _ _ _ _ _ us hl => by obtain ⟨_, _, rfl⟩ := len2 us hl; rfl
  have F21 := fun_mk (st := s_is_ring) l21 c21 k21
  have b21 := F21.binds (ps := ["web", "tie_set"]) fun _ _ _ _ _ _ us hl => by obtain ⟨_, _, rfl⟩ := len2 us hl; rfl
  have F22 := fun_mk (st := s_tie_at) l22 c22 k22
  have b22 := F22.binds (ps := ["web", "tie_set", "point"]) fun _ _ _ _ _ _ us hl => by obtain ⟨_, _, _, rfl⟩ := len3 us hl; rfl
  have F23 := fun_mk (st := s_far_end) l23 c23 k23
  have b23 := F23.binds (ps := ["web", "tie", "point"]) fun _ _ _ _ _ _ us hl => by obtain ⟨_, _, _, rfl⟩ := len3 us hl; rfl
  have F24 := fun_mk (st := s_ring_within) l24 c24 k24
  have b24 := F24.binds (ps := ["web", "even"]) fun _ _ _ _ _ _ us hl => by obtain ⟨_, _, rfl⟩ := len2 us hl; rfl
  have F25 := fun_mk (st := s_parted) l25 c25 k25
  have b25 := F25.binds (ps := ["web", "tie_set"]) fun _ _ _ _ _ _ us hl => by obtain ⟨_, _, rfl⟩ := len2 us hl; rfl
  have F26 := fun_mk (st := s_law_cell) l26 c26 k26
  have b26 := F26.binds (ps := ["script", "k"]) fun _ _ _ _ _ _ us hl => by obtain ⟨_, _, rfl⟩ := len2 us hl; rfl
  have F27 := fun_mk (st := s_law_stir) l27 c27 k27
  have b27 := F27.binds (ps := ["cell", "k"]) fun _ _ _ _ _ _ us hl => by obtain ⟨_, _, rfl⟩ := len2 us hl; rfl
  have F28 := fun_mk (st := s_law_tie) l28 c28 k28
  have b28 := F28.binds (ps := ["c", "points", "times"]) fun _ _ _ _ _ _ us hl => by obtain ⟨_, _, _, rfl⟩ := len3 us hl; rfl
  have F29 := fun_mk (st := s_law_web) l29 c29 k29
  have b29 := F29.binds (ps := ["script", "most"]) fun _ _ _ _ _ _ us hl => by obtain ⟨_, _, rfl⟩ := len2 us hl; rfl
  have F30 := fun_mk (st := s_law_ties) l30 c30 k30
  have b30 := F30.binds (ps := ["some"]) fun _ _ _ _ _ _ us hl => by obtain ⟨_, rfl⟩ := len1 us hl; rfl
  have F31 := fun_mk (st := s_law_odd) l31 c31 k31
  have b31 := F31.binds (ps := ["web", "some"]) fun _ _ _ _ _ _ us hl => by obtain ⟨_, _, rfl⟩ := len2 us hl; rfl
  have F32 := fun_mk (st := s_law_sum) l32 c32 k32
  have b32 := F32.binds (ps := ["rings"]) fun _ _ _ _ _ _ us hl => by obtain ⟨_, rfl⟩ := len1 us hl; rfl
  have F33 := fun_mk (st := s_law_fine) l33 c33 k33
  have b33 := F33.binds (ps := ["web", "some"]) fun _ _ _ _ _ _ us hl => by obtain ⟨_, _, rfl⟩ := len2 us hl; rfl
  have F34 := fun_mk (st := s_law) l34 c34 k34
  have b34 := F34.binds (ps := ["script"]) fun _ _ _ _ _ _ us hl => by obtain ⟨_, rfl⟩ := len1 us hl; rfl
  have T : Txt K mg ⟨f0, _, f1, _, f2, _, f3, _, f4, _, f5, _, f6, _, f7, _, f8, _, f9, _, f10, _, f11, _, f12, _, f13, _, f14, _, f15, _, f16, _, f17, _, f18, _, f19, _, f20, _, f21, _, f22, _, f23, _, f24, _, f25, _, f26, _, f27, _, f28, _, f29, _, f30, _, f31, _, f32, _, f33, _, fa, _, u_BadSet, u_NoChord, u_NoSuch, u_NotEven⟩ := ⟨F0, PySem.W.mg_of X G a0, b0, F1, PySem.W.mg_of X G a1, b1, F2, PySem.W.mg_of X G a2, b2, F3, PySem.W.mg_of X G a3, b3, F4, PySem.W.mg_of X G a4, b4, F5, PySem.W.mg_of X G a5, b5, F6, PySem.W.mg_of X G a6, b6, F7, PySem.W.mg_of X G a7, b7, F8, PySem.W.mg_of X G a8, b8, F9, PySem.W.mg_of X G a9, b9, F10, PySem.W.mg_of X G a10, b10, F11, PySem.W.mg_of X G a11, b11, F12, PySem.W.mg_of X G a12, b12, F13, PySem.W.mg_of X G a13, b13, F14, PySem.W.mg_of X G a14, b14, F15, PySem.W.mg_of X G a15, b15, F16, PySem.W.mg_of X G a16, b16, F17, PySem.W.mg_of X G a17, b17, F18, PySem.W.mg_of X G a18, b18, F19, PySem.W.mg_of X G a19, b19, F20, PySem.W.mg_of X G a20, b20, F21, PySem.W.mg_of X G a21, b21, F22, PySem.W.mg_of X G a22, b22, F23, PySem.W.mg_of X G a23, b23, F24, PySem.W.mg_of X G a24, b24, F25, PySem.W.mg_of X G a25, b25, F26, PySem.W.mg_of X G a26, b26, F27, PySem.W.mg_of X G a27, b27, F28, PySem.W.mg_of X G a28, b28, F29, PySem.W.mg_of X G a29, b29, F30, PySem.W.mg_of X G a30, b30, F31, PySem.W.mg_of X G a31, b31, F32, PySem.W.mg_of X G a32, b32, F33, PySem.W.mg_of X G a33, b33, F34, PySem.W.mg_of X G a34, b34, PySem.W.mg_none_of X G z_ValueError, PySem.W.mg_none_of X G z_enumerate, PySem.W.mg_none_of X G z_len, PySem.W.mg_none_of X G z_list, PySem.W.mg_none_of X G z_max, PySem.W.mg_none_of X G z_min, PySem.W.mg_none_of X G z_range, PySem.W.mg_none_of X G z_sorted, PySem.W.mg_none_of X G z_tuple, PySem.W.mg_none_of X G z_zip, PySem.W.mg_of X G d_BadSet, PySem.W.mg_of X G d_NoChord, PySem.W.mg_of X G d_NoSuch, PySem.W.mg_of X G d_NotEven, fun h1 X1 G1 => own_of X1 G1 d_BadSet xc_BadSet, fun h1 X1 G1 => own_of X1 G1 d_NoChord xc_NoChord⟩
  exact ⟨PySem.W.fnOf "law" "law" (defArgs s_law) (defBody s_law) (defScope s_law) .none kV34 dc34 pm34 an34 cd34 ct34, fun s v => .of_eq rfl, fun base _ _ => G_law T⟩
theorem walk {l : PySem.W.OpenLaw} {q : Program} {loose : List Str} {XP : (Str → Option Value) → Heap → Prop} {YP : World → Heap → Prop} {d : DefRec} {K : Params → PySem.W.Frag} (hn : l.most = some 63) (hdf : d.params.defaults = [])
    (hY : ∀ (w : World) (h : Heap), YP w h → (K w.params).In h)
    (F : ∀ (w : World) (mg : Str → Option Value) (fa : Addr) (h : Heap), (K w.params).In h → h.Ns mainGlobals mg → mg d.name = some (.ref fa) →
      ∃ fd : FuncData, (∀ (s : Shared) (u : Value), BindsTo s fd ⟨[u], []⟩ [("script", u)]) ∧ ∀ base : Heap, (K w.params).In base → base.Ns mainGlobals mg → FnOk l.prog w (K w.params) mg base CX0 9 fa fd ["script"] (sp_law (K w.params))) :
    PySem.W.WalkO q loose XP YP l.row.toRowW d [] (fun f vs => PySem.call f vs) :=
  L2.walk_of (n := 63) (k := 9) (x := "script") (CX := fun _ => CX0) (sp := fun w => sp_law (K w.params)) hn (by decide) hdf ⟨rfl, by decide, by decide⟩ hY F (fun _ _ a ns hl _ hS => ⟨a, ns, rfl, hS, hl, fun _ => rfl⟩) fun _ _ _ _ _ z => z
end K13
def PySem.W.Fast.tw5427872037312286466 : Unit := ()
def PySem.W.Fast.tw15929287543989105828 : Unit := ()
def PySem.W.Fast.tw10703487524061395352 : Unit := ()
def PySem.W.Fast.tw15294819156856058525 : Unit := ()
def PySem.W.Fast.tw10544118563658920101 : Unit := ()
def PySem.W.Fast.tw17337588717580823943 : Unit := ()
def PySem.W.Fast.tw8611906487161106099 : Unit := ()
def PySem.W.Fast.tw2589771689749564901 : Unit := ()
open PySem PySem.W PyProof.Rows
set_option maxRecDepth 100000 in
set_option maxHeartbeats 0 in
theorem PySem.Challenge.cw_ringbase_k13_whole_even_sets_holds : PySem.Challenge.rw_ringbase_k13_whole_even_sets.Holds := by
  w_on; o_law; k_head; (case hw => w_witness2)
  k_fill
  refine K13.walk (l := PySem.Challenge.rw_ringbase_k13_whole_even_sets) rfl rfl (fun w h Y => PySem.W.kIn_of Y) ?F
  case F =>
    intro w mg fa h KX G hmg
    refine' K13.all_mk KX G hmg ?a0 ?l0 ?c0 ?k0 ?a1 ?l1 ?c1 ?k1 ?a2 ?l2 ?c2 ?k2 ?a3 ?l3 ?c3 ?k3 ?a4 ?l4 ?c4 ?k4 ?a5 ?l5 ?c5 ?k5 ?a6 ?l6 ?c6 ?k6 ?a7 ?l7 ?c7 ?k7 ?a8 ?l8 ?c8 ?k8 ?a9 ?l9 ?c9 ?k9 ?a10 ?l10 ?c10 ?k10 ?a11 ?l11 ?c11 ?k11 ?a12 ?l12 ?c12 ?k12 ?a13 ?l13 ?c13 ?k13 ?a14 ?l14 ?c14 ?k14 ?a15 ?l15 ?c15 ?k15 ?a16 ?l16 ?c16 ?k16 ?a17 ?l17 ?c17 ?k17 ?a18 ?l18 ?c18 ?k18 ?a19 ?l19 ?c19 ?k19 ?a20 ?l20 ?c20 ?k20 ?a21 ?l21 ?c21 ?k21 ?a22 ?l22 ?c22 ?k22 ?a23 ?l23 ?c23 ?k23 ?a24 ?l24 ?c24 ?k24 ?a25 ?l25 ?c25 ?k25 ?a26 ?l26 ?c26 ?k26 ?a27 ?l27 ?c27 ?k27 ?a28 ?l28 ?c28 ?k28 ?a29 ?l29 ?c29 ?k29 ?a30 ?l30 ?c30 ?k30 ?a31 ?l31 ?c31 ?k31 ?a32 ?l32 ?c32 ?k32 ?a33 ?l33 ?c33 ?k33 ?a34 ?l34 ?c34 ?k34 ?z_ValueError ?z_enumerate ?z_len ?z_list ?z_max ?z_min ?z_range ?z_sorted ?z_tuple ?z_zip ?d_BadSet ?d_NoChord ?d_NoSuch ?d_NotEven ?xc_BadSet ?xc_NoChord
    (case d_BadSet => k_is)
    (case d_NoChord => k_is)
    (case d_NoSuch => k_is)
    (case d_NotEven => k_is)
    (case a0 => k_is)
    (case l0 => k_is)
    (case c0 => k_is)
    (case k0 => k_is)
    (case a1 => k_is)
    (case l1 => k_is)
    (case c1 => k_is)
    (case k1 => k_is)
    (case a2 => k_is)
    (case l2 => k_is)
    (case c2 => k_is)
    (case k2 => k_is)
    (case a3 => k_is)
    (case l3 => k_is)
    (case c3 => k_is)
    (case k3 => k_is)
    (case a4 => k_is)
    (case l4 => k_is)
    (case c4 => k_is)
    (case k4 => k_is)
    (case a5 => k_is)
    (case l5 => k_is)
    (case c5 => k_is)
    (case k5 => k_is)
    (case a6 => k_is)
    (case l6 => k_is)
    (case c6 => k_is)
    (case k6 => k_is)
    (case a7 => k_is)
    (case l7 => k_is)
    (case c7 => k_is)
    (case k7 => k_is)
    (case a8 => k_is)
    (case l8 => k_is)
    (case c8 => k_is)
    (case k8 => k_is)
    (case a9 => k_is)
    (case l9 => k_is)
    (case c9 => k_is)
    (case k9 => k_is)
    (case a10 => k_is)
    (case l10 => k_is)
    (case c10 => k_is)
    (case k10 => k_is)
    (case a11 => k_is)
    (case l11 => k_is)
    (case c11 => k_is)
    (case k11 => k_is)
    (case a12 => k_is)
    (case l12 => k_is)
    (case c12 => k_is)
    (case k12 => k_is)
    (case a13 => k_is)
    (case l13 => k_is)
    (case c13 => k_is)
    (case k13 => k_is)
    (case a14 => k_is)
    (case l14 => k_is)
    (case c14 => k_is)
    (case k14 => k_is)
    (case a15 => k_is)
    (case l15 => k_is)
    (case c15 => k_is)
    (case k15 => k_is)
    (case a16 => k_is)
    (case l16 => k_is)
    (case c16 => k_is)
    (case k16 => k_is)
    (case a17 => k_is)
    (case l17 => k_is)
    (case c17 => k_is)
    (case k17 => k_is)
    (case a18 => k_is)
    (case l18 => k_is)
    (case c18 => k_is)
    (case k18 => k_is)
    (case a19 => k_is)
    (case l19 => k_is)
    (case c19 => k_is)
    (case k19 => k_is)
    (case a20 => k_is)
    (case l20 => k_is)
    (case c20 => k_is)
    (case k20 => k_is)
    (case a21 => k_is)
    (case l21 => k_is)
    (case c21 => k_is)
    (case k21 => k_is)
    (case a22 => k_is)
    (case l22 => k_is)
    (case c22 => k_is)
    (case k22 => k_is)
    (case a23 => k_is)
    (case l23 => k_is)
    (case c23 => k_is)
    (case k23 => k_is)
    (case a24 => k_is)
    (case l24 => k_is)
    (case c24 => k_is)
    (case k24 => k_is)
    (case a25 => k_is)
    (case l25 => k_is)
    (case c25 => k_is)
    (case k25 => k_is)
    (case a26 => k_is)
    (case l26 => k_is)
    (case c26 => k_is)
    (case k26 => k_is)
    (case a27 => k_is)
    (case l27 => k_is)
    (case c27 => k_is)
    (case k27 => k_is)
    (case a28 => k_is)
    (case l28 => k_is)
    (case c28 => k_is)
    (case k28 => k_is)
    (case a29 => k_is)
    (case l29 => k_is)
    (case c29 => k_is)
    (case k29 => k_is)
    (case a30 => k_is)
    (case l30 => k_is)
    (case c30 => k_is)
    (case k30 => k_is)
    (case a31 => k_is)
    (case l31 => k_is)
    (case c31 => k_is)
    (case k31 => k_is)
    (case a32 => k_is)
    (case l32 => k_is)
    (case c32 => k_is)
    (case k32 => k_is)
    (case a33 => k_is)
    (case l33 => k_is)
    (case c33 => k_is)
    (case k33 => k_is)
    (case a34 => k_is)
    (case l34 => k_is)
    (case c34 => k_is)
    (case k34 => k_is)
    (case z_ValueError => k_is)
    (case z_enumerate => k_is)
    (case z_len => k_is)
    (case z_list => k_is)
    (case z_max => k_is)
    (case z_min => k_is)
    (case z_range => k_is)
    (case z_sorted => k_is)
    (case z_tuple => k_is)
    (case z_zip => k_is)
    (case xc_BadSet => k_exc)
    (case xc_NoChord => k_exc)

