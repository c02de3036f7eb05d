import PyProof.Rows.All
import Wide.All
import OpenK.AllK
import Wide.FinOn
import Lean
import PyProof.EqAt
import PyProof.EqKinds
import PyProof.TupleCall
import PySem.Challenge.RW_ringbase_k24_whole_what_stands_is_right
set_option Elab.async false
set_option linter.all false
set_option maxRecDepth 100000
namespace L2
open PySem PySem.Spec PyProof.Rows

abbrev Key := Sum Int Str
def keyIs : Key → Value → Bool
  | .inl k, v => Value.isInt k v
  | .inr x, v => Value.isStrOf x v
def keyH (w : World) : Key → Int
  | .inl k => hashInt k
  | .inr x => hashStr w x
theorem keyIs_shape : ∀ {k : Key} {v : Value}, keyIs k v = true → (∃ i t, k = Sum.inl i ∧ v = Value.int i t) ∨ (∃ x t, k = Sum.inr x ∧ v = Value.str x t)
  | .inl i, v, h => by
    obtain ⟨t, e⟩ := Value.isInt_shape (k := i) (v := v) h
    exact .inl ⟨i, t, rfl, e⟩
  | .inr x, v, h => by
    obtain ⟨t, e⟩ := Value.isStrOf_shape (x := x) (v := v) h
    exact .inr ⟨x, t, rfl, e⟩
theorem key_ll (a b : Int) : decide ((Sum.inl a : Key) = Sum.inl b) = (a == b) := by
  by_cases e : a = b
  · subst e; simp
  · have h : ¬ (Sum.inl a : Key) = Sum.inl b := fun q => e (Sum.inl.inj q)
    rw [decide_eq_false h]
    exact (beq_eq_false_iff_ne.mpr e).symm
theorem key_rr (a b : Str) : decide ((Sum.inr a : Key) = Sum.inr b) = decide (a = b) := by
  by_cases e : a = b
  · subst e; simp
  · have h : ¬ (Sum.inr a : Key) = Sum.inr b := fun q => e (Sum.inr.inj q)
    rw [decide_eq_false h, decide_eq_false e]
theorem key_lr (a : Int) (b : Str) : decide ((Sum.inl a : Key) = Sum.inr b) = false := decide_eq_false (fun q => nomatch q)
theorem key_rl (a : Str) (b : Int) : decide ((Sum.inr a : Key) = Sum.inl b) = false := decide_eq_false (fun q => nomatch q)

def mixKind (prog : Program) (w : World) : PySem.KeyKind prog w Key where
  is := keyIs
  hash := keyH w
  inj := fun v a b ha hb => by
    rcases keyIs_shape ha with ⟨i, t, rfl, rfl⟩ | ⟨x, t, rfl, rfl⟩
    · rcases keyIs_shape hb with ⟨j, u, rfl, e⟩ | ⟨y, u, rfl, e⟩
      · injection e with e1 _; rw [e1]
      · exact nomatch e
    · rcases keyIs_shape hb with ⟨j, u, rfl, e⟩ | ⟨y, u, rfl, e⟩
      · exact nomatch e
      · injection e with e1 _; rw [e1]
  byValue := fun k v h => by
    rcases keyIs_shape h with ⟨i, t, rfl, rfl⟩ | ⟨x, t, rfl, rfl⟩ <;> rfl
  pyHash := fun hv h => by
    rcases keyIs_shape hv with ⟨i, t, rfl, rfl⟩ | ⟨x, t, rfl, rfl⟩
    · exact wpAny_pyHash_int h
    · exact wpAny_pyHash_str h
  eqBool := fun hu hv h => by
    rcases keyIs_shape hu with ⟨i, t, rfl, rfl⟩ | ⟨x, t, rfl, rfl⟩
    · rcases keyIs_shape hv with ⟨j, u, rfl, rfl⟩ | ⟨y, u, rfl, rfl⟩
      · rw [key_ll] at h; exact wpAny_eqBool_int h
      · rw [key_lr] at h; exact SeqAt.EqAt.int_str i t y u _ _ _ _ h
    · rcases keyIs_shape hv with ⟨j, u, rfl, rfl⟩ | ⟨y, u, rfl, rfl⟩
      · rw [key_rl] at h; exact SeqAt.EqAt.str_int x t j u _ _ _ _ h
      · rw [key_rr] at h; exact wpAny_eqBool_str h
  «strs» := fun k x t v h => by
    rcases keyIs_shape h with ⟨i, u, rfl, e⟩ | ⟨y, u, rfl, e⟩
    · exact nomatch e
    · injection e with e1 _
      subst e1
      cases v <;> rfl

end L2

namespace L2
open PySem PySem.Spec PyProof.Rows

inductive V where
  | non | bl (b : Bool) | int (i : Int) | str (x : Str) | byt (b : Array UInt8) | flt (b : UInt64) | ref (a : Addr) | ty (n : String)
  deriving DecidableEq

def RelV : V → Value → Prop
  | .non, u => u = Value.none
  | .bl b, u => u = Value.bool b
  | .int i, u => ∃ t, u = Value.int i t
  | .str x, u => ∃ t, u = Value.str x t
  | .byt b, u => ∃ t, u = Value.bytes b t
  | .flt b, u => ∃ t, u = Value.float b t
  | .ref a, u => u = Value.ref a
  | .ty n, u => u = Value.type n

abbrev Vals : List V → List Value → Prop := Paired RelV
theorem Vals.length {xs : List V} {us : List Value} (r : Vals xs us) : xs.length = us.length := Paired.length r
theorem Vals.get : ∀ {xs : List V} {us : List Value} {i : Nat} {x : V}, Vals xs us → xs[i]? = some x → ∃ u, us[i]? = some u ∧ RelV x u
  | _, _, _, _, .nil, e => by simp at e
  | _, _, 0, _, .cons r _, e => by simp at e; subst e; exact ⟨_, rfl, r⟩
  | _, _, i + 1, x, .cons _ t, e => by
    obtain ⟨u, h1, h2⟩ := Vals.get (i := i) (x := x) t (by simpa using e)
    exact ⟨u, by simpa using h1, h2⟩
theorem Vals.set {x : V} {u : Value} (r : RelV x u) : ∀ {xs : List V} {us : List Value} (i : Nat), Vals xs us → Vals (xs.set i x) (us.set i u)
  | _, _, _, .nil => .nil
  | _, _, 0, .cons _ t => .cons r t
  | _, _, i + 1, .cons q t => .cons q (Vals.set r i t)
theorem Vals.append : ∀ {xs ys : List V} {us ws : List Value}, Vals xs us → Vals ys ws → Vals (xs ++ ys) (us ++ ws)
  | _, _, _, _, .nil, s => s
  | _, _, _, _, .cons r t, s => .cons r (Vals.append t s)
theorem Vals.take : ∀ {xs : List V} {us : List Value} (n : Nat), Vals xs us → Vals (xs.take n) (us.take n)
  | _, _, 0, _ => .nil
  | _, _, _ + 1, .nil => .nil
  | _, _, n + 1, .cons r t => .cons r (Vals.take n t)
theorem Vals.drop : ∀ {xs : List V} {us : List Value} (n : Nat), Vals xs us → Vals (xs.drop n) (us.drop n)
  | _, _, 0, r => r
  | _, _, _ + 1, .nil => .nil
  | _, _, n + 1, .cons _ t => Vals.drop n t
def RelO : Option V → Option Value → Prop
  | some v, some u => RelV v u
  | none, none => True
  | _, _ => False
def KV {κ : Type} : List (κ × V) → List (κ × Value) → Prop := Paired fun (p : κ × V) (q : κ × Value) => p.1 = q.1 ∧ RelV p.2 q.2

def kV : Key → V
  | .inl i => .int i
  | .inr x => .str x

inductive HO where
  /-- a list -/
  | lst (xs : List V)
  /-- a tuple (never changes) -/
  | tup (xs : List V)
  /-- a dict whose keys are ints and texts; one whose keys are tuples of ints and texts (the empty one is both) -/
  | dK (kvs : List (Key × V)) | dT (kvs : List (List Key × V))
  /-- a set of ints: its members, its size -/
  | set (S : Int → Bool) (n : Nat)
  /-- an instance of the class at C, its dict at dx, its attributes -/
  | ins (C dx : Addr) (fs : List (Str × V))
  /-- the dict of the instance at x -/
  | own (x : Addr)
  /-- the dict of an exception -/
  | xd (fs : List (Str × V))
  /-- a bound method, f of x -/
  | met (f x : Addr)
  /-- a range object lo, lo + 1, .. below hi -/
  | rng (lo hi : Int)
  /-- a thing that is known to the object (the script; a dict while a loop walks it): read, never written while it is so -/
  | frz (o : Obj) (u : HO)
  /-- a code object's table -/
  | tbl (ps : Array Value)
  /-- any other thing, by what is true of its one object (a def of one's own: SetO a S n := HO.ext fun h => ..) -/
  | ext (φ : Heap → Prop)

abbrev Hp := Addr → Option HO
def upd (H : Hp) (a : Addr) (o : HO) : Hp := fun b => if b = a then some o else H b
theorem upd_same {H : Hp} {a : Addr} {o : HO} : upd H a o a = some o := by unfold upd; rw [if_pos rfl]
theorem upd_ne {H : Hp} {a b : Addr} {o : HO} (h : b ≠ a) : upd H a o b = H b := by unfold upd; rw [if_neg h]
theorem ne_of {H : Hp} {a b : Addr} {o u : HO} (h : H a = some o) (h' : H b = some u) (d : o ≠ u) : a ≠ b := by
  intro e; subst e; rw [h] at h'; exact d (Option.some.inj h')
theorem ne_of_none {H : Hp} {a b : Addr} {o : HO} (h : H a = some o) (h' : H b = none) : a ≠ b := by
  intro e; subst e; rw [h] at h'; cases h'

section
variable (P : Program) (w : World)
def ObjOk (H : Hp) (h : Heap) (a : Addr) : HO → Prop
  | .lst xs => xs.length ≤ sizeLine ∧ ∃ (its : List Value) (n : Nat), Vals xs its ∧ h.get? a = some { cls := .type "list", data := .seq its.toArray n }
  | .tup xs => xs.length ≤ sizeLine ∧ ∃ its : List Value, Vals xs its ∧ IsTup h a its.toArray
  | .dK kvs => kvs.length ≤ sizeLine ∧ (a == sysModules) = false ∧ ∃ vs, KV kvs vs ∧ h.DictOf (mixKind P w) a vs
  | .dT kvs => kvs.length ≤ sizeLine ∧ (a == sysModules) = false ∧ ∃ xs : List (List Key × Addr × Value),
      Paired (fun (p : List Key × V) (q : List Key × Addr × Value) => p.1 = q.1 ∧ H q.2.1 = some (.tup (p.1.map kV)) ∧ RelV p.2 q.2.2) kvs xs ∧
      ∃ o es ep, h.get? a = some o ∧ o.ExactDict ∧ o.data = .dict es ep ∧ es.toList = xs.map (entryOfKey (tupleKind (mixKind P w))) ∧ (xs.map (·.1)).Nodup
  | .set S n => h.SetOf (intKind P w) a S n
  | .ins C dx fs => H dx = some (.own a) ∧ fs.length ≤ 1000 ∧ dx ≠ a ∧ h.get? a = some (PySem.W.instObj C dx) ∧
      ∃ mA, h.Ns1 dx mA ∧ (∀ f, RelO (fs.lookup f) (mA f)) ∧ PySem.Within mA (fs.map (·.1))
  | .own _ => ∃ o, h.get? a = some o
  | .xd fs => ∃ mA, h.Ns1 a mA ∧ ∀ f, RelO (fs.lookup f) (mA f)
  | .rng lo hi => ∃ t u v, h.get? a = some { cls := .type "range", data := .fields #[.int lo t, .int hi u, .int 1 v] }
  | .frz o u => h.get? a = some o ∧ ObjOk H h a u
  | .tbl ps => h.get? a = some { cls := .none, data := .fields ps }
  | .met f x => h.get? a = some (PySem.W.methodObj (.ref f) (.ref x))
  | .ext φ => φ h ∧ (∃ o, h.get? a = some o) ∧ ∀ h1 h2 : Heap, φ h1 → (∀ o, h1.get? a = some o → h2.get? a = some o) → φ h2
def HOk (H : Hp) (h : Heap) : Prop := ∀ a o, H a = some o → ObjOk P w H h a o
end

section
variable {P : Program} {w : World} {H H' : Hp} {h h' : Heap} {a : Addr} {o : HO}
theorem ObjOk.lt (x : ObjOk P w H h a o) : a < h.objs.size := by
  cases o with
  | lst xs => obtain ⟨_, _, _, _, e⟩ := x; exact Heap.lt_size e
  | tup xs => obtain ⟨_, _, _, p⟩ := x; exact p.lt
  | dK kvs => obtain ⟨_, _, _, _, o, _, _, e, _⟩ := x; exact Heap.lt_size e
  | dT kvs => obtain ⟨_, _, _, _, o, _, _, e, _⟩ := x; exact Heap.lt_size e
  | set S n => obtain ⟨o, _, _, _, e, _⟩ := x; exact Heap.lt_size e
  | ins C dx fs => obtain ⟨_, _, _, e, _⟩ := x; exact Heap.lt_size e
  | own y => obtain ⟨_, e⟩ := x; exact Heap.lt_size e
  | xd fs => obtain ⟨_, ⟨_, _, _, e, _⟩, _⟩ := x; exact Heap.lt_size e
  | rng lo hi => obtain ⟨_, _, _, e⟩ := x; exact Heap.lt_size e
  | frz ob u => obtain ⟨e, _⟩ := x; exact Heap.lt_size e
  | tbl ps => exact Heap.lt_size (show h.get? a = some _ from x)
  | met f y => exact Heap.lt_size (show h.get? a = some _ from x)
  | ext φ => obtain ⟨_, ⟨_, e⟩, _⟩ := x; exact Heap.lt_size e
theorem Paired.mapP {α β : Type} {F G : α → β → Prop} : ∀ {l₁ : List α} {l₂ : List β}, Paired F l₁ l₂ → (∀ a b, F a b → G a b) → Paired G l₁ l₂
  | _, _, .nil, _ => .nil
  | _, _, .cons r t, f => .cons (f _ _ r) (Paired.mapP t f)
theorem Paired.imp' {α β : Type} {F G : α → β → Prop} (f : ∀ a b, F a b → G a b) {l₁ : List α} {l₂ : List β} (r : Paired F l₁ l₂) : Paired G l₁ l₂ := Paired.mapP r f
theorem ObjOk.stay (x : ObjOk P w H h a o) (k : ∀ b u, (b = a ∨ H b = some (.own a)) → h.get? b = some u → h'.get? b = some u)
    (ho : ∀ b, H b = some (.own a) → H' b = some (.own a)) (ht : ∀ b xs, H b = some (.tup xs) → H' b = some (.tup xs)) : ObjOk P w H' h' a o := by
  induction o with
  | lst xs => obtain ⟨z, its, n, r, e⟩ := x; exact ⟨z, its, n, r, k _ _ (.inl rfl) e⟩
  | tup xs => obtain ⟨z, its, r, ob, e, c⟩ := x; exact ⟨z, its, r, ob, k _ _ (.inl rfl) e, c⟩
  | dK kvs => obtain ⟨z, y, vs, r, ob, es, ep, e, c⟩ := x; exact ⟨z, y, vs, r, ob, es, ep, k _ _ (.inl rfl) e, c⟩
  | dT kvs =>
    obtain ⟨z, y, xs, r, ob, es, ep, e, c⟩ := x
    exact ⟨z, y, xs, Paired.mapP r fun p q z => ⟨z.1, ht _ _ z.2.1, z.2.2⟩, ob, es, ep, k _ _ (.inl rfl) e, c⟩
  | set S n => obtain ⟨ob, es, ep, t, e, c⟩ := x; exact ⟨ob, es, ep, t, k _ _ (.inl rfl) e, c⟩
  | ins C dx fs =>
    obtain ⟨d, z, ne, e, mA, ⟨od, es, ep, e2, c⟩, r⟩ := x
    exact ⟨ho _ d, z, ne, k _ _ (.inl rfl) e, mA, ⟨od, es, ep, k _ _ (.inr d) e2, c⟩, r⟩
  | own y => obtain ⟨ob, e⟩ := x; exact ⟨ob, k _ _ (.inl rfl) e⟩
  | xd fs => obtain ⟨mA, ⟨od, es, ep, e, c⟩, r⟩ := x; exact ⟨mA, ⟨od, es, ep, k _ _ (.inl rfl) e, c⟩, r⟩
  | rng lo hi => obtain ⟨t, u, v, e⟩ := x; exact ⟨t, u, v, k _ _ (.inl rfl) e⟩
  | frz ob u ih => obtain ⟨e, q⟩ := x; exact ⟨k _ _ (.inl rfl) e, ih q⟩
  | tbl ps =>
    have e : h.get? a = some { cls := .none, data := .fields ps } := x
    show h'.get? a = some { cls := .none, data := .fields ps }
    exact k a _ (.inl rfl) e
  | met f y =>
    have e : h.get? a = some (PySem.W.methodObj (.ref f) (.ref y)) := x
    show h'.get? a = some (PySem.W.methodObj (.ref f) (.ref y))
    exact k a _ (.inl rfl) e
  | ext φ => obtain ⟨p, ⟨o, e⟩, st⟩ := x; exact ⟨st _ _ p fun o q => k _ _ (.inl rfl) q, ⟨o, k _ _ (.inl rfl) e⟩, st⟩
theorem HOk.lt (x : HOk P w H h) (e : H a = some o) : a < h.objs.size := (x a o e).lt
theorem HOk.fresh (x : HOk P w H h) (e : h.objs.size ≤ a) : H a = none := by
  cases q : H a with
  | none => rfl
  | some u => exact absurd (Nat.lt_of_lt_of_le (x.lt q) e) (Nat.lt_irrefl _)
theorem HOk.kept (x : HOk P w H h) (k : ∀ b u, h.get? b = some u → h'.get? b = some u) : HOk P w H h' := fun a o e =>
  (x a o e).stay (fun b u _ q => k b u q) (fun _ q => q) fun _ _ q => q
theorem HOk.laid (x : HOk P w H h) (k : ∀ b u, h.get? b = some u → h'.get? b = some u) (hp : h.objs.size ≤ a) (new : ObjOk P w (upd H a o) h' a o) : HOk P w (upd H a o) h' := fun b u e => by
  have hn := x.fresh hp
  by_cases hb : b = a
  · subst hb; rw [upd_same] at e; cases e; exact new
  · rw [upd_ne hb] at e
    exact (x b u e).stay (fun c v _ q => k c v q) (fun c q => by rw [upd_ne (ne_of_none q hn)]; exact q) fun c xs q => by rw [upd_ne (ne_of_none q hn)]; exact q
end

def Rd (H : Hp) (a : Addr) (u : HO) : Prop := H a = some u ∨ ∃ o, H a = some (.frz o u)
theorem Rd.ok {P : Program} {w : World} {H : Hp} {h : Heap} {a : Addr} {u : HO} (r : Rd H a u) (x : HOk P w H h) : ObjOk P w H h a u := by
  rcases r with r | ⟨o, r⟩
  · exact x a u r
  · obtain ⟨_, q⟩ := x a _ r
    exact q
def Mut : Option HO → Prop
  | some (.lst _) => True
  | some (.dK _) => True
  | some (.dT _) => True
  | some (.set _ _) => True
  | some (.ins _ _ _) => True
  | some (.ext _) => True
  | _ => False
section
variable {P : Program} {w : World} {H : Hp} {h h' : Heap} {x e : Addr} {o' : HO}
theorem HOk.write (ok : HOk P w H h) (mu : Mut (H x)) (he : e = x ∨ H e = some (.own x)) (k : ∀ b u, b ≠ e → h.get? b = some u → h'.get? b = some u) (heo : ∃ u, h'.get? e = some u)
    (new : ObjOk P w (upd H x o') h' x o') : HOk P w (upd H x o') h' := fun b u q => by
  have nown : ∀ c y, H c = some (.own y) → c ≠ x := fun c y r z => by subst z; rw [r] at mu; exact mu
  have ntup : ∀ c xs, H c = some (.tup xs) → c ≠ x := fun c xs r z => by subst z; rw [r] at mu; exact mu
  by_cases hb : b = x
  · subst hb; rw [upd_same] at q; cases q; exact new
  · rw [upd_ne hb] at q
    by_cases hbe : b = e
    · have q' : H b = some (.own x) := by
        rcases he with z | z
        · exact absurd (hbe.trans z) hb
        · rw [hbe]; exact z
      rw [q] at q'; cases q'
      obtain ⟨v, hv⟩ := heo
      exact ⟨v, by rw [hbe]; exact hv⟩
    · refine (ok b u q).stay (fun c v hc r => k c v ?_ r) (fun c r => by rw [upd_ne (nown c b r)]; exact r) fun c xs r => by rw [upd_ne (ntup c xs r)]; exact r
      rcases hc with rfl | hc
      · exact hbe
      · rintro rfl
        rcases he with z | z
        · exact nown c b hc z
        · rw [hc] at z; cases z; exact hb rfl
end

structure Un (fs ex : List Addr) (H H' : Hp) (h h' : Heap) : Prop where
  keep : ∀ b o, h.get? b = some o → H b = none → b ∉ fs → b ∉ ex → h'.get? b = some o
  slot : ∀ b o, h.get? b = some o → H b = none → b ∈ fs → b ∉ ex → ∃ sl, h'.get? b = some { o with slots := sl }
  free : ∀ b o, h.get? b = some o → H b = none → b ∉ ex → H' b = none
  there : ∀ b o, h.get? b = some o → b ∉ ex → ∃ o', h'.get? b = some o'
  tups : ∀ b xs, H b = some (.tup xs) → H' b = some (.tup xs)
  frzs : ∀ b o u, H b = some (.frz o u) → H' b = some (.frz o u)
  tbls : ∀ b ps, H b = some (.tbl ps) → ∃ more, H' b = some (.tbl (ps ++ more))
section
variable {fs fs' ex ex' : List Addr} {H H1 H2 : Hp} {h h1 h2 h' : Heap} {a x e : Addr} {o : HO}
theorem Un.any (u : Un fs ex H H1 h h1) {b : Addr} {ob : Obj} (q : h.get? b = some ob) (n : H b = none) (hx : b ∉ ex) : ∃ sl, h1.get? b = some { ob with slots := sl } := by
  by_cases hb : b ∈ fs
  · exact u.slot b ob q n hb hx
  · exact ⟨ob.slots, u.keep b ob q n hb hx⟩
theorem Un.kept (k : ∀ b u, h.get? b = some u → h'.get? b = some u) : Un fs ex H H h h' :=
  ⟨fun b ob q _ _ _ => k b ob q, fun b ob q _ _ _ => ⟨ob.slots, k b ob q⟩, fun _ _ _ n _ => n, fun b ob q _ => ⟨ob, k b ob q⟩, fun _ _ q => q, fun _ _ _ q => q, fun _ ps q => ⟨#[], by rw [q]; simp⟩⟩
theorem Un.refl : Un fs ex H H h h := Un.kept fun _ _ q => q
theorem Un.laid (k : ∀ b u, h.get? b = some u → h'.get? b = some u) (hp : h.objs.size ≤ a) (hn : H a = none) : Un fs ex H (upd H a o) h h' where
  keep := fun b u q _ _ _ => k b u q
  slot := fun b u q _ _ _ => ⟨u.slots, k b u q⟩
  free := fun b u q n _ => by rw [upd_ne (Nat.ne_of_lt (Nat.lt_of_lt_of_le (Heap.lt_size q) hp))]; exact n
  there := fun b u q _ => ⟨u, k b u q⟩
  tups := fun b xs q => by rw [upd_ne (ne_of_none q hn)]; exact q
  frzs := fun b u xs q => by rw [upd_ne (ne_of_none q hn)]; exact q
  tbls := fun b ps q => ⟨#[], by rw [upd_ne (ne_of_none q hn), q]; simp⟩
theorem Un.write (mu : Mut (H x)) (he : e = x ∨ H e = some (.own x)) (k : ∀ b u, b ≠ e → h.get? b = some u → h'.get? b = some u) (heo : ∃ u, h'.get? e = some u) : Un fs ex H (upd H x o) h h' := by
  have hx : ∀ b, H b = none → b ≠ x := fun b n z => by subst z; rw [n] at mu; exact mu
  have hb : ∀ b, H b = none → b ≠ e := fun b n z => by
    subst z
    rcases he with r | r
    · exact hx b n r
    · rw [n] at r; cases r
  have hm : ∀ b u, H b = some u → ¬ Mut (some u) → b ≠ x := fun b u q nm z => by subst z; rw [q] at mu; exact nm mu
  refine ⟨fun b u q n _ _ => k b u (hb b n) q, fun b u q n _ _ => ⟨u.slots, k b u (hb b n) q⟩, fun b u q n _ => by rw [upd_ne (hx b n)]; exact n, fun b u q _ => ?_,
    fun b xs q => by rw [upd_ne (hm b _ q fun z => z)]; exact q, fun b u xs q => by rw [upd_ne (hm b _ q fun z => z)]; exact q, fun b ps q => ⟨#[], by rw [upd_ne (hm b _ q fun z => z), q]; simp⟩⟩
  by_cases hbe : b = e
  · subst hbe; exact heo
  · exact ⟨u, k b u hbe q⟩
end

def trk (h : Heap) (H : Hp) : List Addr := (List.range h.objs.size).filter fun a => (H a).isSome
def hidT (h : Heap) (H : Hp) : Heap := PySem.W.hideAll h (trk h H)
theorem hidT_size (h : Heap) (H : Hp) : (hidT h H).objs.size = h.objs.size := PySem.W.hideAll_size _ _
theorem hidT_get {h : Heap} {H : Hp} {b : Addr} {o : Obj} (e : h.get? b = some o) (n : H b = none) : (hidT h H).get? b = some o :=
  PySem.W.hideAll_get _ e fun hm => by
    have q : (H b).isSome = true := (List.mem_filter.mp hm).2
    rw [n] at q; simp at q
theorem of_hidT {h : Heap} {H : Hp} {b : Addr} {o : Obj} (e : (hidT h H).get? b = some o) : h.get? b = some o ∧ H b = none := by
  have e' : h.get? b = some o := PySem.W.of_hideAll (trk h H) e
  refine ⟨e', ?_⟩
  cases q : H b with
  | none => rfl
  | some x =>
    have hm : b ∈ trk h H := List.mem_filter.mpr ⟨List.mem_range.mpr (Heap.lt_size e'), by simp [q]⟩
    have z : (hidT h H).get? b = none := PySem.W.hideAll_none (trk h H) hm
    rw [z] at e; cases e

end L2

namespace L2
open PySem PySem.Spec PyProof.Rows

structure Mod (K : PySem.W.Frag) (mg : Str → Option Value) (base : Heap) : Prop where
  kin : K.In base
  glob : base.Ns mainGlobals mg
  blt : ∃ mb, base.Ns builtinsNs mb ∧ ∀ x : Str, x ≠ "__name__" → mb x = bootBuiltins x
  nolimit : base.NoLimit

structure Cx where
  prog : Program
  w : World
  K : PySem.W.Frag
  mg : Str → Option Value
  base : Heap
  A : Around
  N : List Str
  s₀ : Shared
  H₀ : Hp
  env : Env
  outer : List Env
  stack : List Env
  ex : List Addr
  fn : Str → Bool
  calm : Bool
  pn : List (Addr × Obj)
  xe : Value → Shared → Prop
def frs (l : List Env) : List Addr := l.filterMap (·.frame)
abbrev Cx.fs (X : Cx) : List Addr := frs X.outer

def Vis (sc : Scope) (x : Str) : Prop := sc.names.lookup x = some .local ∨ sc.names.lookup x = some .cell ∨ sc.names.lookup x = some .free
def Loc (sc : Scope) (x : Str) : Prop := sc.names.lookup x = some .local ∨ sc.names.lookup x = some .cell
def Look (env : Env) (h : Heap) (m : Str → Option Value) (x : Str) (u : Value) : Prop :=
  (env.kindOf x = some .local ∧ m x = some u) ∨ ((env.kindOf x = some .cell ∨ env.kindOf x = some .free) ∧ ∃ c, env.cells.lookup x = some c ∧ h.IsCell c (some u))

structure Cx.Ok (X : Cx) : Prop where
  mod : Mod X.K X.mg X.base
  kind : X.env.scope.kind = .function
  glob : X.env.globals = mainGlobals
  blt : X.env.builtins = builtinsNs
  above : X.s₀.heap.objs.size ≤ X.env.locals
  inj : ∀ x y c, X.env.cells.lookup x = some c → X.env.cells.lookup y = some c → x = y
  has : ∀ x, (X.env.kindOf x = some .cell ∨ X.env.kindOf x = some .free) → ∃ c, X.env.cells.lookup x = some c
  cab : ∀ x c, X.fn x = true → X.env.cells.lookup x = some c → X.s₀.heap.objs.size ≤ c
  hd : X.calm = true → X.A.handled = none
  frames : X.A.frames = some X.stack
  stk : X.stack = X.outer ∨ (X.stack = X.env :: X.outer ∧ X.env.frame = some X.env.locals)
  exf : ∀ b ∈ X.ex, b ≠ X.env.locals ∧ ∀ x c, X.env.cells.lookup x = some c → c ≠ b
  bs : ∀ b o, X.base.get? b = some o → X.s₀.heap.get? b = some o ∧ X.H₀ b = none
  bsz : X.base.objs.size ≤ X.s₀.heap.objs.size
  noex : ∀ b o, X.base.get? b = some o → b ∉ X.ex
  exfs : ∀ b ∈ X.ex, b ∉ X.fs
  funs : X.s₀.heap.FunFrames X.base X.outer
  frf : ∀ b ∈ X.fs, X.H₀ b = none

structure Inv (X : Cx) (pins : List (Addr × Obj)) (σ : List (Option V)) (H : Hp) (s : Shared) : Prop where
  ok : X.Ok
  os : s.os = X.s₀.os
  bare : AllBare s.gens
  base : Un X.fs X.ex X.H₀ H X.s₀.heap s.heap
  loc : ∃ m, s.heap.Ns X.env.locals m ∧ ∀ (i : Nat) (x : Str) (v : V), X.N[i]? = some x → σ[i]? = some (some v) → Vis X.env.scope x → ∃ u, RelV v u ∧ Look X.env s.heap m x u
  cell : ∀ x c, X.env.cells.lookup x = some c → ∃ v, s.heap.IsCell c v
  free : H X.env.locals = none
  freeC : ∀ x c, X.env.cells.lookup x = some c → H c = none
  pin : ∀ p ∈ X.pn ++ pins, s.heap.get? p.1 = some p.2 ∧ H p.1 = none ∧ p.1 ≠ X.env.locals ∧ p.1 ∉ X.fs ∧ ∀ v, p.2.data ≠ .cell v
  hok : HOk X.prog X.w H s.heap
  len : σ.length = X.N.length

section
variable {X : Cx} {pins : List (Addr × Obj)} {σ : List (Option V)} {H H' : Hp} {s : Shared} {h' : Heap}

theorem Cx.Ok.nofr (ok : X.Ok) {b : Addr} {o : Obj} (e : X.base.get? b = some o) : b ∉ X.fs := fun hb => by
  have := (ok.funs.mem hb).1
  rw [e] at this; cases this
theorem Inv.bs (I : Inv X pins σ H s) : ∀ b o, X.base.get? b = some o → s.heap.get? b = some o ∧ H b = none := fun b o e =>
  ⟨I.base.keep b o (I.ok.bs b o e).1 (I.ok.bs b o e).2 (I.ok.nofr e) (I.ok.noex b o e), I.base.free b o (I.ok.bs b o e).1 (I.ok.bs b o e).2 (I.ok.noex b o e)⟩
theorem Inv.bk (I : Inv X pins σ H s) : ∀ b o, X.base.get? b = some o → s.heap.get? b = some o := fun b o e => (I.bs b o e).1
theorem Inv.mod (I : Inv X pins σ H s) : Mod X.K X.mg X.base := I.ok.mod
theorem Inv.kIn (I : Inv X pins σ H s) : X.K.In s.heap := I.ok.mod.kin.keeps I.bk
theorem Inv.lt (I : Inv X pins σ H s) : X.env.locals < s.heap.objs.size := let ⟨_, hn, _⟩ := I.loc; hn.lt
theorem Inv.sz (I : Inv X pins σ H s) : X.s₀.heap.objs.size ≤ s.heap.objs.size := Nat.le_trans I.ok.above (Nat.le_of_lt I.lt)
theorem Inv.nofs (I : Inv X pins σ H s) {a : Addr} (h : s.heap.objs.size ≤ a) : a ∉ X.fs := fun hb => by
  obtain ⟨_, o, ho, _⟩ := I.ok.funs.mem hb
  exact absurd (Nat.lt_of_lt_of_le (Heap.lt_size ho) (Nat.le_trans I.sz h)) (Nat.lt_irrefl _)
theorem Inv.cne (I : Inv X pins σ H s) : ∀ x c, X.env.cells.lookup x = some c → c ≠ X.env.locals := fun x c e z => by
  obtain ⟨v, o, ho, hd⟩ := I.cell x c e
  obtain ⟨m, ⟨o', es, ep, ho', hd', _⟩, _⟩ := I.loc
  rw [z, ho'] at ho; cases ho; rw [hd'] at hd; cases hd
theorem Inv.funs (I : Inv X pins σ H s) : s.heap.FunFrames X.base X.outer := by
  have all : ∀ (l : List Env), (∀ b ∈ frs l, b ∈ X.fs) → X.s₀.heap.FunFrames X.base l → s.heap.FunFrames X.base l := by
    intro l
    induction l with
    | nil => intro _ _; trivial
    | cons env r ih =>
      intro hs hl
      obtain ⟨hk, ⟨L, o, hf, hn, ho, hd⟩, hr⟩ := hl
      have hL : L ∈ X.fs := hs L (by unfold frs; rw [List.filterMap_cons, hf]; exact List.mem_cons_self)
      obtain ⟨sl, e⟩ := I.base.slot L o ho (I.ok.frf L hL) hL fun z => I.ok.exfs L z hL
      exact ⟨hk, ⟨L, _, hf, hn, e, hd⟩, ih (fun b hb => hs b (by unfold frs; rw [List.filterMap_cons, hf]; exact List.mem_cons_of_mem _ hb)) hr⟩
  exact all X.outer (fun _ hb => hb) I.ok.funs

theorem Inv.stack (I : Inv X pins σ H s) : s.heap.FunFrames X.base X.stack := by
  rcases I.ok.stk with e | ⟨e, hf⟩
  · rw [e]; exact I.funs
  · rw [e]
    obtain ⟨m, hn, _⟩ := I.loc
    refine .cons (by rw [I.ok.kind]; decide) hf hn ?_ I.funs
    exact Heap.get?_none_of_le (Nat.le_trans I.ok.bsz I.ok.above)
theorem Inv.stkSub (I : Inv X pins σ H s) : ∀ b ∈ frs X.stack, b ∈ X.env.locals :: X.fs := fun b hb => by
  rcases I.ok.stk with e | ⟨e, hf⟩
  · rw [e] at hb; exact List.mem_cons_of_mem _ hb
  · rw [e] at hb
    unfold frs at hb
    rw [List.filterMap_cons, hf] at hb
    exact hb
theorem Inv.stkFree (I : Inv X pins σ H s) : ∀ b ∈ frs X.stack, H b = none := fun b hb => by
  rcases List.mem_cons.mp (I.stkSub b hb) with e | hb
  · rw [e]; exact I.free
  · obtain ⟨_, o, ho, _⟩ := I.ok.funs.mem hb
    exact I.base.free b o ho (I.ok.frf b hb) fun z => I.ok.exfs b z hb

theorem Inv.step {g' : Array GenState} {t' : Nat} {d' : Drawn} {ch : List Addr} (I : Inv X pins σ H s)
    (hch : ∀ b ∈ ch, (b ∈ X.ex ∨ X.s₀.heap.objs.size ≤ b) ∧ b ≠ X.env.locals ∧ (∀ x c, X.env.cells.lookup x = some c → c ≠ b) ∧ ∀ p ∈ X.pn ++ pins, p.1 ≠ b)
    (keep : ∀ b o, b ≠ X.env.locals → b ∉ X.fs → b ∉ ch → s.heap.get? b = some o → H b = none → h'.get? b = some o)
    (slot : ∀ b o, b ≠ X.env.locals → b ∈ X.fs → b ∉ ch → s.heap.get? b = some o → H b = none → ∃ sl, h'.get? b = some { o with slots := sl }) (free : ∀ b o, b ∉ ch → s.heap.get? b = some o → H b = none → H' b = none)
    (there : ∀ b o, b ∉ ch → s.heap.get? b = some o → ∃ o', h'.get? b = some o')
    (tups : ∀ b xs, H b = some (.tup xs) → H' b = some (.tup xs)) (frzs : ∀ b o u, H b = some (.frz o u) → H' b = some (.frz o u)) (tbls : ∀ b ps, H b = some (.tbl ps) → ∃ more, H' b = some (.tbl (ps ++ more)))
    (ns : ∀ m, s.heap.Ns X.env.locals m → h'.Ns X.env.locals m) (hok : HOk X.prog X.w H' h') (hg : AllBare g') :
    Inv X pins σ H' { s with heap := h', gens := g', drawn := d', toks := t' } := by
  have neL : ∀ b o, X.s₀.heap.get? b = some o → b ≠ X.env.locals := fun b o e => Nat.ne_of_lt (Nat.lt_of_lt_of_le (Heap.lt_size e) I.ok.above)
  have neC : ∀ b o, X.s₀.heap.get? b = some o → b ∉ X.ex → b ∉ ch := fun b o e hx hb => by
    rcases (hch b hb).1 with z | z
    · exact hx z
    · exact absurd (Nat.lt_of_lt_of_le (Heap.lt_size e) z) (Nat.lt_irrefl _)
  have cellK : ∀ x c, X.env.cells.lookup x = some c → ∀ v, s.heap.IsCell c v → h'.IsCell c v := fun x c e v ⟨o, ho, hd⟩ => by
    have nch : c ∉ ch := fun z => (hch c z).2.2.1 x c e rfl
    by_cases hc : c ∈ X.fs
    · obtain ⟨sl, q⟩ := slot c o (I.cne x c e) hc nch ho (I.freeC x c e)
      exact ⟨_, q, hd⟩
    · exact ⟨o, keep c o (I.cne x c e) hc nch ho (I.freeC x c e), hd⟩
  refine ⟨I.ok, I.os, hg, ⟨fun b o e n hb hx => ?_, fun b o e n hb hx => ?_, fun b o e n hx => ?_, fun b o e hx => ?_, fun b xs e => tups b xs (I.base.tups b xs e), fun b o xs e => frzs b o xs (I.base.frzs b o xs e), fun b ps e => ?_⟩, ?_, fun x c e => ?_, ?_, fun x c e => ?_, fun p hp => ?_, hok, I.len⟩
  · exact keep b o (neL b o e) hb (neC b o e hx) (I.base.keep b o e n hb hx) (I.base.free b o e n hx)
  · obtain ⟨sl, e1⟩ := I.base.slot b o e n hb hx
    obtain ⟨sl', e2⟩ := slot b _ (neL b o e) hb (neC b o e hx) e1 (I.base.free b o e n hx)
    exact ⟨sl', e2⟩
  · obtain ⟨o', e1⟩ := I.base.there b o e hx
    exact free b o' (neC b o e hx) e1 (I.base.free b o e n hx)
  · obtain ⟨o', e1⟩ := I.base.there b o e hx
    exact there b o' (neC b o e hx) e1
  · obtain ⟨m1, e1⟩ := I.base.tbls b ps e
    obtain ⟨m2, e2⟩ := tbls b _ e1
    exact ⟨m1 ++ m2, by rw [e2, Array.append_assoc]⟩
  · obtain ⟨m, hn, hl⟩ := I.loc
    refine ⟨m, ns m hn, fun i x v e1 e2 e3 => ?_⟩
    obtain ⟨u, r, l⟩ := hl i x v e1 e2 e3
    refine ⟨u, r, ?_⟩
    rcases l with l | ⟨k, c, e, z⟩
    · exact .inl l
    · exact .inr ⟨k, c, e, cellK x c e _ z⟩
  · obtain ⟨v, z⟩ := I.cell x c e
    exact ⟨v, cellK x c e v z⟩
  · obtain ⟨m, ⟨o, _, _, ho, _⟩, _⟩ := I.loc
    exact free _ o (fun z => (hch _ z).2.1 rfl) ho I.free
  · obtain ⟨v, o, ho, hd⟩ := I.cell x c e
    exact free c o (fun z => (hch c z).2.2.1 x c e rfl) ho (I.freeC x c e)
  · obtain ⟨e, n, ne, nf, d⟩ := I.pin p hp
    have nch : p.1 ∉ ch := fun z => (hch p.1 z).2.2.2 p hp rfl
    exact ⟨keep p.1 p.2 ne nf nch e n, free p.1 p.2 nch e n, ne, nf, d⟩
theorem Inv.un {t' : Nat} (I : Inv X pins σ H s) (u : Un X.fs [] H H' s.heap h') (hok : HOk X.prog X.w H' h') : Inv X pins σ H' { s with heap := h', toks := t' } := by
  obtain ⟨m, ⟨o, es, ep, ho, r⟩, _⟩ := id I.loc
  obtain ⟨sl, hL⟩ := u.any ho I.free (by simp)
  exact I.step (g' := s.gens) (d' := s.drawn) (ch := []) (fun _ z => nomatch z) (fun b o _ hb _ e n => u.keep b o e n hb (by simp)) (fun b o _ hb _ e n => u.slot b o e n hb (by simp)) (fun b o _ e n => u.free b o e n (by simp)) (fun b o _ e => u.there b o e (by simp)) u.tups u.frzs u.tbls (fun m' hm => by
    obtain ⟨o', es', ep', ho', r'⟩ := hm
    rw [ho] at ho'; cases ho'
    exact ⟨_, es', ep', hL, r'⟩) hok I.bare
theorem Inv.call {g' : Array GenState} {t' : Nat} {d' : Drawn} {ch : List Addr} (I : Inv X pins σ H s) (u : Un (frs X.stack) ch H H' s.heap h') (hok : HOk X.prog X.w H' h') (hg : AllBare g')
    (hch : ∀ b ∈ ch, (b ∈ X.ex ∨ X.s₀.heap.objs.size ≤ b) ∧ b ≠ X.env.locals ∧ (∀ x c, X.env.cells.lookup x = some c → c ≠ b) ∧ ∀ p ∈ X.pn ++ pins, p.1 ≠ b) :
    Inv X pins σ H' { s with heap := h', gens := g', drawn := d', toks := t' } := by
  obtain ⟨m, ⟨o, es, ep, ho, r⟩, _⟩ := id I.loc
  obtain ⟨sl, hL⟩ := u.any ho I.free fun z => (hch _ z).2.1 rfl
  exact I.step (ch := ch) hch (fun b o hL hb hc e n => u.keep b o e n (fun z => (List.mem_cons.mp (I.stkSub b z)).elim hL hb) hc) (fun b o _ _ hc e n => u.any e n hc) (fun b o hc e n => u.free b o e n hc) (fun b o hc e => u.there b o e hc) u.tups u.frzs u.tbls (fun m' hm => by
    obtain ⟨o', es', ep', ho', r'⟩ := hm
    rw [ho] at ho'; cases ho'
    exact ⟨_, es', ep', hL, r'⟩) hok hg
theorem Inv.turned {t' : Nat} {it : Addr} (I : Inv X pins σ H s) (k : ∀ b o, b ≠ it → s.heap.get? b = some o → h'.get? b = some o) (hn : H it = none) (hL : it ≠ X.env.locals)
    (h1 : it ∈ X.ex ∨ X.s₀.heap.objs.size ≤ it) (h2 : ∀ x c, X.env.cells.lookup x = some c → c ≠ it) (h3 : ∀ p ∈ X.pn ++ pins, p.1 ≠ it) : Inv X pins σ H { s with heap := h', toks := t' } := by
  have nit : ∀ b u, H b = some u → b ≠ it := fun b u e z => by rw [z, hn] at e; cases e
  refine I.step (g' := s.gens) (d' := s.drawn) (ch := [it]) (fun b hb => ?_) (fun b o _ _ hc e _ => k b o (fun z => hc (by simp [z])) e) (fun b o _ _ hc e _ => ⟨o.slots, k b o (fun z => hc (by simp [z])) e⟩) (fun _ _ _ _ n => n)
    (fun b o hc e => ⟨o, k b o (fun z => hc (by simp [z])) e⟩) (fun _ _ e => e) (fun _ _ _ e => e) (fun b ps e => ⟨#[], by rw [e]; simp⟩) (fun m hm => ?_) (fun b u e => ?_) I.bare
  · have e : b = it := by simpa using hb
    subst e
    exact ⟨h1, hL, h2, h3⟩
  · obtain ⟨o, es, ep, ho, r⟩ := hm
    exact ⟨o, es, ep, k _ o (Ne.symm hL) ho, r⟩
  · refine (I.hok b u e).stay (fun c v hc q => k c v ?_ q) (fun _ q => q) fun _ _ q => q
    rcases hc with z | z
    · rw [z]; exact nit b u e
    · exact nit c _ z
theorem Inv.tok (I : Inv X pins σ H s) (t : Nat) : Inv X pins σ H { s with toks := t } := I.un (h' := s.heap) (t' := t) Un.refl I.hok
theorem Inv.kept {t' : Nat} (I : Inv X pins σ H s) (k : ∀ b u, s.heap.get? b = some u → h'.get? b = some u) : Inv X pins σ H { s with heap := h', toks := t' } := I.un (Un.kept k) (I.hok.kept k)
theorem Inv.laid {a : Addr} {o : HO} {t' : Nat} (I : Inv X pins σ H s) (k : ∀ b u, s.heap.get? b = some u → h'.get? b = some u) (hp : s.heap.objs.size ≤ a) (new : ObjOk X.prog X.w (upd H a o) h' a o) :
    Inv X pins σ (upd H a o) { s with heap := h', toks := t' } := I.un (Un.laid k hp (I.hok.fresh hp)) (I.hok.laid k hp new)
theorem Inv.write {x e : Addr} {o : HO} {t' : Nat} (I : Inv X pins σ H s) (mu : Mut (H x)) (he : e = x ∨ H e = some (.own x)) (k : ∀ b u, b ≠ e → s.heap.get? b = some u → h'.get? b = some u) (heo : ∃ u, h'.get? e = some u)
    (new : ObjOk X.prog X.w (upd H x o) h' x o) : Inv X pins σ (upd H x o) { s with heap := h', toks := t' } := I.un (Un.write mu he k heo) (I.hok.write mu he k heo new)
theorem Inv.weak {σ' : List (Option V)} (I : Inv X pins σ H s) (hl : σ'.length = σ.length) (w : ∀ (i : Nat) v, σ'[i]? = some (some v) → σ[i]? = some (some v)) : Inv X pins σ' H s :=
  ⟨I.ok, I.os, I.bare, I.base, let ⟨m, hn, hl'⟩ := I.loc; ⟨m, hn, fun i x v e1 e2 e3 => hl' i x v e1 (w i v e2) e3⟩, I.cell, I.free, I.freeC, I.pin, I.hok, hl.trans I.len⟩
theorem Inv.pins_of {pins' : List (Addr × Obj)} (I : Inv X pins σ H s) (h : ∀ p ∈ pins', s.heap.get? p.1 = some p.2 ∧ H p.1 = none ∧ p.1 ≠ X.env.locals ∧ p.1 ∉ X.fs ∧ ∀ v, p.2.data ≠ .cell v) : Inv X pins' σ H s :=
  ⟨I.ok, I.os, I.bare, I.base, I.loc, I.cell, I.free, I.freeC, fun p hp => (List.mem_append.mp hp).elim (fun z => I.pin p (List.mem_append_left _ z)) (h p), I.hok, I.len⟩

theorem nodup_ix {N : List Str} (hN : N.Nodup) {i j : Nat} {x : Str} (a : N[i]? = some x) (b : N[j]? = some x) : i = j := by
  obtain ⟨h1, e1⟩ := List.getElem?_eq_some_iff.mp a
  obtain ⟨h2, e2⟩ := List.getElem?_eq_some_iff.mp b
  exact (List.getElem_inj hN).mp (e1.trans e2.symm)

theorem store_ok2 {M : Model} {A : Around} {E : Value → Shared → Prop} {i : Nat} {x : Str} {v : V} {u : Value} {Q : Unit → Shared → Prop} (I : Inv X pins σ H s) (hN : X.N.Nodup) (hi : X.N[i]? = some x) (hx : Loc X.env.scope x) (r : RelV v u)
    (h : ∀ s', Inv X pins (σ.set i (some v)) H s' → (∃ a, Heap.SameBut a s.heap s'.heap ∧ (a = X.env.locals ∨ X.env.cells.lookup x = some a)) → Q () s') (hf : X.fn x = true ∨ X.env.scope.names.lookup x = some .local := by first | exact .inl rfl | exact .inr rfl | assumption) : wpAny M A (storeName X.env x u) Q E s := by
  obtain ⟨m, hn, hl⟩ := id I.loc
  have hcls : (X.env.scope.kind == .class || (X.env.scope.kind == .module && X.env.locals != X.env.globals)) = false := by rw [I.ok.kind]; rfl
  have hiσ : i < σ.length := by rw [I.len]; exact (List.getElem?_eq_some_iff.mp hi).1
  have cne := I.cne
  have tracked : ∀ {a : Addr} {h' : Heap}, (∃ o, s.heap.get? a = some o ∧ H a = none) → Heap.SameBut a s.heap h' → HOk X.prog X.w H h' := fun {a h'} ha hs b ob e => by
    obtain ⟨_, _, hfree⟩ := ha
    refine (I.hok b ob e).stay (fun c w' hc q => (hs.2 c ?_).trans q) (fun _ q => q) fun _ _ q => q
    rintro rfl
    rcases hc with rfl | hc
    · rw [hfree] at e; cases e
    · rw [hfree] at hc; cases hc
  rcases hx with hk | hk
  · refine wpAny_storeName_local hk hn (fun h' hn' hs => ?_) hcls
    obtain ⟨oL, _, _, hoL, _⟩ := id hn
    refine h _ ⟨I.ok, I.os, I.bare, ⟨fun b o e n hb hx => ?_, fun b o e n hb hx => ?_, I.base.free, fun b o e hx => ?_, I.base.tups, I.base.frzs, I.base.tbls⟩, ⟨_, hn', fun j y v' e1 e2 e3 => ?_⟩, fun y c e => ?_, I.free, I.freeC, fun p hp => ?_, tracked ⟨oL, hoL, I.free⟩ hs, by simpa using I.len⟩ ⟨_, hs, .inl rfl⟩
    · exact (hs.2 b (Nat.ne_of_lt (Nat.lt_of_lt_of_le (Heap.lt_size e) I.ok.above))).trans (I.base.keep b o e n hb hx)
    · obtain ⟨sl, e1⟩ := I.base.slot b o e n hb hx
      exact ⟨sl, (hs.2 b (Nat.ne_of_lt (Nat.lt_of_lt_of_le (Heap.lt_size e) I.ok.above))).trans e1⟩
    · obtain ⟨o', e1⟩ := I.base.there b o e hx
      exact ⟨o', (hs.2 b (Nat.ne_of_lt (Nat.lt_of_lt_of_le (Heap.lt_size e) I.ok.above))).trans e1⟩
    · by_cases hj : j = i
      · subst hj
        rw [hi] at e1; cases e1
        rw [List.getElem?_set_self hiσ] at e2
        cases e2
        exact ⟨u, r, .inl ⟨hk, by simp⟩⟩
      · rw [List.getElem?_set_ne (Ne.symm hj)] at e2
        obtain ⟨u', r', q⟩ := hl j y v' e1 e2 e3
        refine ⟨u', r', ?_⟩
        rcases q with ⟨k, e⟩ | ⟨k, c, e, z⟩
        · refine .inl ⟨k, ?_⟩
          have : y ≠ x := fun e => hj (nodup_ix hN e1 (e ▸ hi))
          simp [this, e]
        · exact .inr ⟨k, c, e, z.sameBut hs (cne y c e)⟩
    · obtain ⟨w', z⟩ := I.cell y c e
      exact ⟨w', z.sameBut hs (cne y c e)⟩
    · obtain ⟨e, n, ne, nf, d⟩ := I.pin p hp
      exact ⟨(hs.2 p.1 ne).trans e, n, ne, nf, d⟩
  · have hfn : X.fn x = true := by
      rcases hf with z | z
      · exact z
      · rw [z] at hk; cases hk
    obtain ⟨c, hc⟩ := I.ok.has x (.inl hk)
    obtain ⟨w', z⟩ := I.cell x c hc
    refine wpAny_storeName_cell I.ok.kind hk hc z (fun h' hc' hs => ?_)
    obtain ⟨oc, hoc, hocd⟩ := id z
    refine h { s with heap := h' } ⟨I.ok, I.os, I.bare, ⟨fun b o e n hb hx => ?_, fun b o e n hb hx => ?_, I.base.free, fun b o e hx => ?_, I.base.tups, I.base.frzs, I.base.tbls⟩, ⟨m, hn.sameBut hs (Ne.symm (cne x c hc)), fun j y v' e1 e2 e3 => ?_⟩, fun y c' e => ?_, I.free, I.freeC, fun p hp => ?_, tracked ⟨oc, hoc, I.freeC x c hc⟩ hs, by simpa using I.len⟩ ⟨c, hs, .inr hc⟩
    · exact (hs.2 b (Nat.ne_of_lt (Nat.lt_of_lt_of_le (Heap.lt_size e) (I.ok.cab x c hfn hc)))).trans (I.base.keep b o e n hb hx)
    · obtain ⟨sl, e1⟩ := I.base.slot b o e n hb hx
      exact ⟨sl, (hs.2 b (Nat.ne_of_lt (Nat.lt_of_lt_of_le (Heap.lt_size e) (I.ok.cab x c hfn hc)))).trans e1⟩
    · obtain ⟨o', e1⟩ := I.base.there b o e hx
      exact ⟨o', (hs.2 b (Nat.ne_of_lt (Nat.lt_of_lt_of_le (Heap.lt_size e) (I.ok.cab x c hfn hc)))).trans e1⟩
    · by_cases hj : j = i
      · subst hj
        rw [hi] at e1; cases e1
        rw [List.getElem?_set_self hiσ] at e2
        cases e2
        exact ⟨u, r, .inr ⟨.inl hk, c, hc, hc'⟩⟩
      · rw [List.getElem?_set_ne (Ne.symm hj)] at e2
        obtain ⟨u', r', q⟩ := hl j y v' e1 e2 e3
        refine ⟨u', r', ?_⟩
        rcases q with q | ⟨k, c', e, z'⟩
        · exact .inl q
        · refine .inr ⟨k, c', e, z'.sameBut hs ?_⟩
          rintro rfl
          exact hj (nodup_ix hN e1 (I.ok.inj _ _ _ e hc ▸ hi))
    · by_cases hcc : c' = c
      · subst hcc; exact ⟨_, hc'⟩
      · obtain ⟨w2, z2⟩ := I.cell y c' e
        exact ⟨w2, z2.sameBut hs hcc⟩
    · obtain ⟨e, n, ne, nf, d⟩ := I.pin p hp
      refine ⟨(hs.2 p.1 ?_).trans e, n, ne, nf, d⟩
      intro q
      rw [q, hoc] at e
      have q' : oc = p.2 := Option.some.inj e
      exact d w' (by rw [← q']; exact hocd)
theorem store_ok {M : Model} {A : Around} {E : Value → Shared → Prop} {i : Nat} {x : Str} {v : V} {u : Value} {Q : Unit → Shared → Prop} (I : Inv X pins σ H s) (hN : X.N.Nodup) (hi : X.N[i]? = some x) (hx : Loc X.env.scope x) (r : RelV v u)
    (h : ∀ s', Inv X pins (σ.set i (some v)) H s' → Q () s') (hf : X.fn x = true ∨ X.env.scope.names.lookup x = some .local := by first | exact .inl rfl | exact .inr rfl | assumption) : wpAny M A (storeName X.env x u) Q E s :=
  store_ok2 I hN hi hx r (fun s' I' _ => h s' I') hf
theorem Inv.call' {s' : Shared} {ch : List Addr} (I : Inv X pins σ H s) (ho : s'.os = s.os) (u : Un (frs X.stack) ch H H' s.heap s'.heap) (hok : HOk X.prog X.w H' s'.heap) (hg : AllBare s'.gens)
    (hch : ∀ b ∈ ch, (b ∈ X.ex ∨ X.s₀.heap.objs.size ≤ b) ∧ b ≠ X.env.locals ∧ (∀ x c, X.env.cells.lookup x = some c → c ≠ b) ∧ ∀ p ∈ X.pn ++ pins, p.1 ≠ b) : Inv X pins σ H' s' := by
  obtain ⟨h', g', d', t', o'⟩ := s'
  have e : o' = s.os := ho
  subst e
  exact I.call (g' := g') (t' := t') (d' := d') u hok hg hch
end

abbrev XK := Value → Option Addr → Hp → Prop
abbrev St := List (Option V)
abbrev VK := V → Hp → Prop
abbrev TE := St → Hp → VK → Prop
abbrev TT := St → Hp → (Bool → Hp → Prop) → Prop
abbrev TA := St → Hp → (List V → Hp → Prop) → Prop
structure Ends where
  nx : St → Hp → Prop
  rt : VK
  bk : St → Hp → Prop := fun _ _ => False
  ct : St → Hp → Prop := fun _ _ => False
abbrev TS := Ends → St → Hp → Prop

def EP (X : Cx) (pins : List (Addr × Obj)) (σ : St) (Q : VK) (u : Value) (s' : Shared) : Prop := ∃ v H', Inv X pins σ H' s' ∧ RelV v u ∧ Q v H'
def TP (X : Cx) (pins : List (Addr × Obj)) (σ : St) (Q : Bool → Hp → Prop) (b : Bool) (s' : Shared) : Prop := ∃ H', Inv X pins σ H' s' ∧ Q b H'
def AP (X : Cx) (pins : List (Addr × Obj)) (σ : St) (Q : List V → Hp → Prop) (us : List Value) (s' : Shared) : Prop := ∃ vs H', Inv X pins σ H' s' ∧ Vals vs us ∧ Q vs H'
def SP (X : Cx) (pins : List (Addr × Obj)) (D : Ends) (f : Flow) (s' : Shared) : Prop :=
  match f with
  | .next => ∃ σ' H', Inv X pins σ' H' s' ∧ D.nx σ' H'
  | .brk => ∃ σ' H', Inv X pins σ' H' s' ∧ D.bk σ' H'
  | .cont => ∃ σ' H', Inv X pins σ' H' s' ∧ D.ct σ' H'
  | .ret u => ∃ v σ' H', Inv X pins σ' H' s' ∧ RelV v u ∧ D.rt v H'

def PE (X : Cx) (e : Expr) (t : TE) : Prop :=
  ∀ (pins : List (Addr × Obj)) (s : Shared) (σ : St) (H : Hp) (Q : VK), Inv X pins σ H s → t σ H Q → wpAny (model X.prog X.w) X.A (eval e X.env) (EP X pins σ Q) X.xe s
def PT (X : Cx) (e : Expr) (t : TT) : Prop :=
  ∀ (pins : List (Addr × Obj)) (s : Shared) (σ : St) (H : Hp) (Q : Bool → Hp → Prop), Inv X pins σ H s → t σ H Q → wpAny (model X.prog X.w) X.A (isTrue e X.env (eval e X.env)) (TP X pins σ Q) X.xe s
def PW (X : Cx) (e : Expr) (t : TT) : Prop :=
  ∀ (whole : Sem Value) (pins : List (Addr × Obj)) (s : Shared) (σ : St) (H : Hp) (Q : Bool → Hp → Prop), Inv X pins σ H s → t σ H Q → wpAny (model X.prog X.w) X.A (isTrue e X.env whole) (TP X pins σ Q) X.xe s
theorem PW.pt {X : Cx} {e : Expr} {t : TT} (h : PW X e t) : PT X e t := h _
def PA (X : Cx) (es : List Expr) (t : TA) : Prop :=
  ∀ (pos : Pos) (pins : List (Addr × Obj)) (s : Shared) (σ : St) (H : Hp) (Q : List V → Hp → Prop), Inv X pins σ H s → t σ H Q → wpAny (model X.prog X.w) X.A (spliced (backTo pos (starEach es X.env))) (AP X pins σ Q) X.xe s
def PS (X : Cx) (st : Stmt) (t : TS) : Prop :=
  ∀ (pins : List (Addr × Obj)) (s : Shared) (σ : St) (H : Hp) (D : Ends), Inv X pins σ H s → t D σ H → wpAny (model X.prog X.w) X.A (exec st X.env) (SP X pins D) X.xe s
def PSs (X : Cx) (st : List Stmt) (t : TS) : Prop :=
  ∀ (pins : List (Addr × Obj)) (s : Shared) (σ : St) (H : Hp) (D : Ends), Inv X pins σ H s → t D σ H → wpAny (model X.prog X.w) X.A (execs st X.env) (SP X pins D) X.xe s
theorem thn {α : Type} {t : Sem α} {Q Q' : α → Shared → Prop} {M : Model} {A : Around} {E : Value → Shared → Prop} {s : Shared} (h : wpAny M A t Q E s) (hQ : ∀ a s, Q a s → Q' a s) : wpAny M A t Q' E s := wpAny_mono h hQ fun _ _ x => x
end L2

namespace L2
open PySem PySem.Spec PyProof.Rows
section
variable {X : Cx}

def tVar (i : Nat) : TE := fun σ H Q => ∃ v, σ[i]? = some (some v) ∧ Q v H
def tC (v : V) : TE := fun _ H Q => Q v H
theorem pe_var {i : Nat} {x : Str} {pos : Pos} (hN : X.N[i]? = some x) (hv : Vis X.env.scope x) (hd : (x == ("__debug__" : Str)) = false := by decide) (hcd : (x == ("__classdict__" : Str)) = false := by decide) : PE X (.Name x pos) (tVar i) := by
  intro pins s σ H Q I h
  obtain ⟨v, e, h⟩ := h
  obtain ⟨m, hn, hl⟩ := I.loc
  obtain ⟨u, r, l⟩ := hl i x v hN e hv
  have fin : EP X pins σ Q u s := ⟨v, H, I, r, h⟩
  rcases l with ⟨hk, hm⟩ | ⟨hk, c, hc, hcell⟩
  · exact wpAny_Name (wpAny_loadName_local I.ok.kind hk hn hm fin) hd
  · rcases hk with hk | hk
    · exact wpAny_Name (wpAny_loadName_cell I.ok.kind hk hc hcell fin) hd
    · exact wpAny_Name (wpAny_loadName_free I.ok.kind hk hc hcell fin hcd) hd
theorem pe_int {i j pos} : PE X (.Constant (.int i) j pos) (tC (.int i)) := fun _ _ _ H _ I h => wpAny_Constant_int ⟨.int i, H, I.tok _, ⟨_, rfl⟩, h⟩
theorem pe_bl {b j pos} : PE X (.Constant (.bool b) j pos) (tC (.bl b)) := fun _ _ _ H _ I h => Constant_bool ⟨.bl b, H, I, rfl, h⟩
theorem pe_non {j pos} : PE X (.Constant .none j pos) (tC .non) := fun _ _ _ H _ I h => Constant_none ⟨.non, H, I, rfl, h⟩
theorem pe_str {x j pos} : PE X (.Constant (.str x) j pos) (tC (.str x)) := fun _ _ _ H _ I h => Calls.Constant_str ⟨.str x, H, I.tok _, ⟨_, rfl⟩, h⟩

def Gl (X : Cx) (x : Str) : Prop := X.env.kindOf x = some .globalImplicit
theorem ld_glob {E : Value → Shared → Prop} {pins : List (Addr × Obj)} {s : Shared} {σ : St} {H : Hp} {x : Str} {u : Value} {pos : Pos} {Q : Value → Shared → Prop} (I : Inv X pins σ H s) (hg : Gl X x) (hm : X.mg x = some u) (h : Q u s)
    (hd : (x == ("__debug__" : Str)) = false := by decide) : wpAny (model X.prog X.w) X.A (eval (.Name x pos) X.env) Q E s :=
  Calls.Name_function_global I.ok.kind hg (Calls.loadGlobal_global (by rw [I.ok.glob]; exact I.mod.glob.keeps I.bk) hm h) hd
theorem ld_blt {E : Value → Shared → Prop} {pins : List (Addr × Obj)} {s : Shared} {σ : St} {H : Hp} {x : Str} {u : Value} {pos : Pos} {Q : Value → Shared → Prop} (I : Inv X pins σ H s) (hg : Gl X x) (hm : X.mg x = none) (hv : bootBuiltins x = some u) (h : Q u s)
    (hn : x ≠ "__name__" := by decide) (hd : (x == ("__debug__" : Str)) = false := by decide) : wpAny (model X.prog X.w) X.A (eval (.Name x pos) X.env) Q E s := by
  obtain ⟨mb, h1, h2⟩ := I.mod.blt
  exact Calls.Name_function_global I.ok.kind hg (Calls.loadGlobal_builtin (by rw [I.ok.glob]; exact I.mod.glob.keeps I.bk) hm (by rw [I.ok.blt]; exact h1.keeps I.bk) ((h2 x hn).trans hv) h) hd
variable {a b : Expr} {ta tb : TE} {pos : Pos}
def tB (t : TE) : TT := fun σ H Q => t σ H fun x H1 => ∃ c, x = .bl c ∧ Q c H1
theorem pt_val {e : Expr} {t : TE} (h : PE X e t) (he : ∀ whole, isTrue e X.env whole = (do let v ← whole; standAt e.pos; holding [v] (truthy v)) := by intro _; rfl) : PT X e (tB t) := by
  intro pins s σ H Q I hw
  refine isTrue_plain (thn (h pins s σ H _ I hw) fun v s1 ⟨x, H1, I1, r1, q1⟩ => ?_) (he _)
  obtain ⟨d, rfl, q⟩ := q1
  cases r1
  exact wpAny_truthy_bool ⟨H1, I1, q⟩

variable {tA tB' : TT} {rest : List Expr}
def tAnd (t u : TT) : TT := fun σ H Q => t σ H fun c H1 => if c = true then u σ H1 Q else Q false H1
def tOr (t u : TT) : TT := fun σ H Q => t σ H fun c H1 => if c = true then Q true H1 else u σ H1 Q
def tNot (t : TT) : TT := fun σ H Q => t σ H fun c H1 => Q (!c) H1
theorem pw_and1 (ha : PT X a tA) : PW X (.BoolOp .And [a] pos) tA := by
  intro wh pins s σ H Q I h
  refine isTrue_and (thn (ha pins s σ H Q I h) fun c s1 e => ?_)
  cases c with
  | true => exact isTrue_and_nil e
  | false => exact e
theorem pw_or1 (ha : PT X a tA) : PW X (.BoolOp .Or [a] pos) tA := by
  intro wh pins s σ H Q I h
  refine isTrue_or (thn (ha pins s σ H Q I h) fun c s1 e => ?_)
  cases c with
  | false => exact isTrue_or_nil e
  | true => exact e
theorem pw_and (ha : PT X a tA) (hb : PW X (.BoolOp .And (b :: rest) pos) tB') : PW X (.BoolOp .And (a :: b :: rest) pos) (tAnd tA tB') := by
  intro wh pins s σ H Q I h
  refine isTrue_and (thn (ha pins s σ H _ I h) fun c s1 ⟨H1, I1, q1⟩ => ?_)
  cases c with
  | true => exact hb wh pins s1 σ H1 Q I1 q1
  | false => exact ⟨H1, I1, q1⟩
theorem pw_or (ha : PT X a tA) (hb : PW X (.BoolOp .Or (b :: rest) pos) tB') : PW X (.BoolOp .Or (a :: b :: rest) pos) (tOr tA tB') := by
  intro wh pins s σ H Q I h
  refine isTrue_or (thn (ha pins s σ H _ I h) fun c s1 ⟨H1, I1, q1⟩ => ?_)
  cases c with
  | true => exact ⟨H1, I1, q1⟩
  | false => exact hb wh pins s1 σ H1 Q I1 q1
theorem pt_not (ha : PT X a tA) : PT X (.UnaryOp .Not a pos) (tNot tA) := by
  intro pins s σ H Q I h
  exact isTrue_not (ha pins s σ H (fun c H1 => Q (!c) H1) I h)
def tAndV (ta tb : TE) : TE := fun σ H Q => ta σ H fun x H1 => ∃ c, x = .bl c ∧ if c = true then tb σ H1 Q else Q (.bl false) H1
def tOrV (ta tb : TE) : TE := fun σ H Q => ta σ H fun x H1 => ∃ c, x = .bl c ∧ if c = true then Q (.bl true) H1 else tb σ H1 Q
theorem pe_one {op} {t : TE} (h : PE X a t) : PE X (.BoolOp op [a] pos) t := fun pins s σ H Q I hw => BoolOp_one (h pins s σ H Q I hw)
theorem pe_and (ha : PE X a ta) (hb : PE X (.BoolOp .And (b :: rest) pos) tb) : PE X (.BoolOp .And (a :: b :: rest) pos) (tAndV ta tb) := by
  intro pins s σ H Q I h
  refine BoolOp_and (thn (ha pins s σ H _ I h) fun v s1 ⟨x, H1, I1, r1, q1⟩ => ?_)
  obtain ⟨c, rfl, q1⟩ := q1
  cases r1
  refine wpAny_truthy_bool ?_
  cases c with
  | true => exact hb pins s1 σ H1 Q I1 q1
  | false => exact ⟨.bl false, H1, I1, rfl, q1⟩
theorem pe_or (ha : PE X a ta) (hb : PE X (.BoolOp .Or (b :: rest) pos) tb) : PE X (.BoolOp .Or (a :: b :: rest) pos) (tOrV ta tb) := by
  intro pins s σ H Q I h
  refine BoolOp_or (thn (ha pins s σ H _ I h) fun v s1 ⟨x, H1, I1, r1, q1⟩ => ?_)
  obtain ⟨c, rfl, q1⟩ := q1
  cases r1
  refine wpAny_truthy_bool ?_
  cases c with
  | false => exact hb pins s1 σ H1 Q I1 q1
  | true => exact ⟨.bl true, H1, I1, rfl, q1⟩
def tIf (t : TT) (ta tb : TE) : TE := fun σ H Q => t σ H fun c H1 => if c = true then ta σ H1 Q else tb σ H1 Q
theorem pe_ifExp {c : Expr} (hc : PT X c tA) (ha : PE X a ta) (hb : PE X b tb) : PE X (.IfExp c a b pos) (tIf tA ta tb) := by
  intro pins s σ H Q I h
  refine wpAny_IfExp (thn (hc pins s σ H _ I h) fun d s1 ⟨H1, I1, q1⟩ => ?_)
  cases d with
  | true => exact ha pins s1 σ H1 Q I1 q1
  | false => exact hb pins s1 σ H1 Q I1 q1
end
end L2

namespace L2
open PySem PySem.Spec PyProof.Rows

def SqL (K : PySem.W.Frag) (H : Hp) (a : Addr) (xs : List V) : Prop :=
  Rd H a (.lst xs) ∨
    ∃ (o : Obj) (its : Array Value) (n : Nat), K.lookup a = some o ∧ o.cls = .type "list" ∧ o.dict = none ∧ o.data = .seq its n ∧ its.size ≤ sizeLine ∧ Vals xs its.toList
def SqT (K : PySem.W.Frag) (H : Hp) (a : Addr) (xs : List V) : Prop :=
  Rd H a (.tup xs) ∨
    ∃ (o : Obj) (its : Array Value) (n : Nat), K.lookup a = some o ∧ o.cls = .type "tuple" ∧ o.data = .seq its n ∧ its.size ≤ sizeLine ∧ Vals xs its.toList
def absV : Value → Option V
  | .none => some .non
  | .bool b => some (.bl b)
  | .int i _ => some (.int i)
  | .str x _ => some (.str x)
  | .bytes b _ => some (.byt b)
  | .float b _ => some (.flt b)
  | .ref a => some (.ref a)
  | .type n => some (.ty n)
  | _ => none
theorem RelV.abs {x : V} {u : Value} (r : RelV x u) : absV u = some x := by
  cases x with
  | non => cases r; rfl
  | bl _ => cases r; rfl
  | int _ => obtain ⟨t, rfl⟩ := r; rfl
  | str _ => obtain ⟨t, rfl⟩ := r; rfl
  | byt _ => obtain ⟨t, rfl⟩ := r; rfl
  | flt _ => obtain ⟨t, rfl⟩ := r; rfl
  | ref _ => cases r; rfl
  | ty _ => cases r; rfl
theorem RelV.inj {x y : V} {u : Value} (r : RelV x u) (q : RelV y u) : x = y := Option.some.inj (r.abs.symm.trans q.abs)
theorem Vals.inj : ∀ {xs ys : List V} {us : List Value}, Vals xs us → Vals ys us → xs = ys
  | _, _, _, .nil, .nil => rfl
  | _, _, _, .cons r t, .cons r' t' => by rw [r.inj r', Vals.inj t t']
section
variable {X : Cx} {pins : List (Addr × Obj)} {σ : St} {H : Hp} {s : Shared} {a : Addr} {xs ys : List V}
theorem SqL.of {K : PySem.W.Frag} (h : H a = some (.lst xs)) : SqL K H a xs := .inl (.inl h)
theorem SqT.of {K : PySem.W.Frag} (h : H a = some (.tup xs)) : SqT K H a xs := .inl (.inl h)
theorem Inv.list (I : Inv X pins σ H s) (h : SqL X.K H a xs) : ∃ its : List Value, Vals xs its ∧ PlainL s.heap a its.toArray ∧ xs.length ≤ sizeLine := by
  rcases h with h | ⟨o, its, n, hk, hc, hd, hs, hz, r⟩
  · obtain ⟨z, its, n, r, e⟩ := h.ok I.hok
    exact ⟨its, r, ⟨_, n, e, rfl, rfl, rfl⟩, z⟩
  · refine ⟨its.toList, r, ⟨o, n, I.kIn a o hk, hc, hd, by simpa using hs⟩, ?_⟩
    have e := r.length
    simp only [Array.length_toList] at e
    (first | lia | omega)
theorem Inv.tuple (I : Inv X pins σ H s) (h : SqT X.K H a xs) : ∃ its : List Value, Vals xs its ∧ IsTup s.heap a its.toArray ∧ xs.length ≤ sizeLine := by
  rcases h with h | ⟨o, its, n, hk, hc, hs, hz, r⟩
  · obtain ⟨z, its, r, p⟩ := h.ok I.hok
    exact ⟨its, r, p, z⟩
  · refine ⟨its.toList, r, ⟨o, I.kIn a o hk, hc, n, by simpa using hs⟩, ?_⟩
    have e := r.length
    simp only [Array.length_toList] at e
    (first | lia | omega)
theorem Inv.list_inj (I : Inv X pins σ H s) (h : SqL X.K H a xs) (h' : SqL X.K H a ys) : xs = ys := by
  obtain ⟨its, r, ⟨o, n, e, _, _, d⟩, _⟩ := I.list h
  obtain ⟨its', r', ⟨o', n', e', _, _, d'⟩, _⟩ := I.list h'
  rw [e] at e'; cases e'
  rw [d] at d'
  injection d' with d1 _
  have : its = its' := by simpa using congrArg Array.toList d1
  subst this
  exact r.inj r'
theorem Inv.tuple_inj (I : Inv X pins σ H s) (h : SqT X.K H a xs) (h' : SqT X.K H a ys) : xs = ys := by
  obtain ⟨its, r, ⟨o, e, _, n, d⟩, _⟩ := I.tuple h
  obtain ⟨its', r', ⟨o', e', _, n', d'⟩, _⟩ := I.tuple h'
  rw [e] at e'; cases e'
  rw [d] at d'
  injection d' with d1 _
  have : its = its' := by simpa using congrArg Array.toList d1
  subst this
  exact r.inj r'
end

abbrev Cx.wish (X : Cx) (E : Value → Shared → Prop) : Cx := { X with xe := E }
abbrev Cx.nox (X : Cx) : Cx := X.wish fun _ _ => False
theorem Cx.Ok.wish {X : Cx} (ok : X.Ok) (E : Value → Shared → Prop) : (X.wish E).Ok :=
  ⟨ok.mod, ok.kind, ok.glob, ok.blt, ok.above, ok.inj, ok.has, ok.cab, ok.hd, ok.frames, ok.stk, ok.exf, ok.bs, ok.bsz, ok.noex, ok.exfs, ok.funs, ok.frf⟩
theorem Cx.Ok.unwish {X : Cx} {E : Value → Shared → Prop} (ok : (X.wish E).Ok) : X.Ok :=
  ⟨ok.mod, ok.kind, ok.glob, ok.blt, ok.above, ok.inj, ok.has, ok.cab, ok.hd, ok.frames, ok.stk, ok.exf, ok.bs, ok.bsz, ok.noex, ok.exfs, ok.funs, ok.frf⟩
section
variable {X : Cx} {pins : List (Addr × Obj)} {σ : St} {H : Hp} {s : Shared} {E : Value → Shared → Prop}
theorem Inv.wish (I : Inv X pins σ H s) (E : Value → Shared → Prop) : Inv (X.wish E) pins σ H s := ⟨I.ok.wish E, I.os, I.bare, I.base, I.loc, I.cell, I.free, I.freeC, I.pin, I.hok, I.len⟩
theorem Inv.unwish (I : Inv (X.wish E) pins σ H s) : Inv X pins σ H s := ⟨I.ok.unwish, I.os, I.bare, I.base, I.loc, I.cell, I.free, I.freeC, I.pin, I.hok, I.len⟩
theorem SP.unwish {D : Ends} {f : Flow} {s' : Shared} (h : SP (X.wish E) pins D f s') : SP X pins D f s' := by
  cases f with
  | next => obtain ⟨σ', H', I, q⟩ := h; exact ⟨σ', H', I.unwish, q⟩
  | brk => obtain ⟨σ', H', I, q⟩ := h; exact ⟨σ', H', I.unwish, q⟩
  | cont => obtain ⟨σ', H', I, q⟩ := h; exact ⟨σ', H', I.unwish, q⟩
  | ret u => obtain ⟨v, σ', H', I, r, q⟩ := h; exact ⟨v, σ', H', I.unwish, r, q⟩
theorem PSs.nox {st : List Stmt} {t : TS} (h : PSs X.nox st t) : PSs X st t := fun pins s σ H D I hw =>
  wpAny_mono (h pins s σ H D (I.wish _) hw) (fun _ _ q => q.unwish) fun _ _ z => False.elim z
end

section
variable {X : Cx} {st : Stmt} {rest : List Stmt} {t u : TS} {e : Expr} {te : TE} {pos : Pos}
def tNext : TS := fun D σ H => D.nx σ H
def Ends.on (D : Ends) (u : TS) : Ends := { D with nx := u D }
def tSeq (t u : TS) : TS := fun D σ H => t (D.on u) σ H
theorem pss_nil : PSs X [] tNext := fun _ _ σ H _ I h => wpAny_execs_nil ⟨σ, H, I, h⟩
theorem pss_cons (h1 : PS X st t) (h2 : PSs X rest u) : PSs X (st :: rest) (tSeq t u) := by
  intro pins s σ H D I h
  refine wpAny_execs_cons (thn (h1 pins s σ H { D with nx := u D } I h) fun f s1 q => ?_)
  cases f with
  | next =>
    obtain ⟨σ', H', I', q⟩ := q
    exact h2 pins s1 σ' H' D I' q
  | ret v => exact q
  | brk => exact q
  | cont => exact q
theorem pss_one (h1 : PS X st t) : PSs X [st] t := by
  intro pins s σ H D I h
  refine wpAny_execs_cons (thn (h1 pins s σ H D I h) fun f s1 q => ?_)
  cases f with
  | next => exact wpAny_execs_nil q
  | ret v => exact q
  | brk => exact q
  | cont => exact q
theorem Inv.quiet {pins : List (Addr × Obj)} {σ : St} {H : Hp} {s : Shared} (I : Inv X pins σ H s) : interactive X.env = false := by simp [interactive, I.ok.kind]
def tDrop (te : TE) : TS := fun D σ H => te σ H fun _ H1 => D.nx σ H1
theorem ps_expr (he : PE X e te) (hs : swapsWith e none pos.line X.env = pure false := by rfl) : PS X (.Expr e pos) (tDrop te) := by
  intro pins s σ H D I h
  exact wpAny_Expr_any (thn (he pins s σ H _ I h) fun v s1 ⟨x, H1, I1, r1, q1⟩ => ⟨σ, H1, I1, q1⟩) I.quiet hs
def tRet (te : TE) : TS := fun D σ H => te σ H D.rt
theorem ps_ret (he : PE X e te) : PS X (.Return (some e) pos) (tRet te) := by
  intro pins s σ H D I h
  exact wpAny_Return_some (thn (he pins s σ H _ I h) fun v s1 ⟨x, H1, I1, r1, q1⟩ => ⟨x, σ, H1, I1, r1, q1⟩)
def tIfS (c : TT) (t u : TS) : TS := fun D σ H => c σ H fun b H1 => if b = true then t D σ H1 else u D σ H1
theorem ps_if {c : Expr} {a b : List Stmt} {tc : TT} (hc : PT X c tc) (ha : PSs X a t) (hb : PSs X b u) : PS X (.If c a b pos) (tIfS tc t u) := by
  intro pins s σ H D I h
  refine wpAny_If (thn (hc pins s σ H _ I h) fun d s1 ⟨H1, I1, q1⟩ => ?_)
  cases d with
  | true => exact ha pins s1 σ H1 D I1 q1
  | false => exact hb pins s1 σ H1 D I1 q1
def tNever : TS := fun _ _ _ => False
theorem pss_never {sts : List Stmt} : PSs X sts tNever := fun _ _ _ _ _ _ h => h.elim
end

abbrev TG := V → St → Hp → (St → Hp → Prop) → Prop
abbrev TGs := List V → St → Hp → (St → Hp → Prop) → Prop
def PG (X : Cx) (target : Expr) (t : TG) : Prop :=
  ∀ (pins : List (Addr × Obj)) (s : Shared) (σ : St) (H : Hp) (v : V) (u : Value) (Q : St → Hp → Prop), Inv X pins σ H s → RelV v u → t v σ H Q →
    wpAny (model X.prog X.w) X.A (assign target X.env u) (fun _ s' => ∃ σ' H', Inv X pins σ' H' s' ∧ Q σ' H') X.xe s
def PGs (X : Cx) (ts : List Expr) (t : TGs) : Prop :=
  ∀ (pins : List (Addr × Obj)) (s : Shared) (σ : St) (H : Hp) (vs : List V) (us : List Value) (Q : St → Hp → Prop), Inv X pins σ H s → Vals vs us → t vs σ H Q →
    wpAny (model X.prog X.w) X.A (assignInOrder ((assignEach ts X.env).map (·.2)) us) (fun _ s' => ∃ σ' H', Inv X pins σ' H' s' ∧ Q σ' H') X.xe s
abbrev TSet := V → V → V → Hp → (Hp → Prop) → Prop
def PSet (X : Cx) (t : TSet) : Prop :=
  ∀ (pins : List (Addr × Obj)) (s : Shared) (σ : St) (H : Hp) (o i v : V) (ov iv u : Value) (Q : Hp → Prop), Inv X pins σ H s → RelV o ov → RelV i iv → RelV v u → t o i v H Q →
    wpAny (model X.prog X.w) X.A (setItem ov iv u) (fun _ s' => ∃ H', Inv X pins σ H' s' ∧ Q H') X.xe s
abbrev TIp := V → V → Hp → VK → Prop
def PIp (X : Cx) (op : Operator) (t : TIp) : Prop :=
  ∀ (pins : List (Addr × Obj)) (s : Shared) (σ : St) (H : Hp) (x y : V) (v u : Value) (Q : VK), Inv X pins σ H s → RelV x v → RelV y u → t x y H Q →
    wpAny (model X.prog X.w) X.A (inplaceOp op v u) (EP X pins σ Q) X.xe s
section
variable {X : Cx} {pos : Pos}
def gName (i : Nat) : TG := fun v σ H Q => Q (σ.set i (some v)) H
theorem pg_name {i : Nat} {x : Str} (hN : X.N.Nodup) (hi : X.N[i]? = some x) (hx : Loc X.env.scope x) (hf : X.fn x = true ∨ X.env.scope.names.lookup x = some .local := by first | exact .inl rfl | exact .inr rfl | assumption) : PG X (.Name x pos) (gName i) := by
  intro pins s σ H v u Q I r h
  exact wpAny_assign_Name (store_ok I hN hi hx r (fun s' I' => ⟨_, H, I', h⟩) hf)
def gNil : TGs := fun vs σ H Q => vs = [] ∧ Q σ H
def gCons (t : TG) (u : TGs) : TGs := fun vs σ H Q => ∃ v r, vs = v :: r ∧ t v σ H fun σ' H' => u r σ' H' Q
theorem pgs_nil : PGs X [] gNil := by
  intro pins s σ H vs us Q I r h
  obtain ⟨e, h⟩ := h
  subst e
  cases r
  exact assignInOrder_nil ⟨σ, H, I, h⟩
theorem pgs_cons {e : Expr} {es : List Expr} {t : TG} {u : TGs} (h1 : PG X e t) (h2 : PGs X es u)
    (hs : (assignEach (e :: es) X.env).map (·.2) = assign e X.env :: (assignEach es X.env).map (·.2) := by rfl) : PGs X (e :: es) (gCons t u) := by
  intro pins s σ H vs us Q I r h
  obtain ⟨v, vr, e1, h⟩ := h
  subst e1
  cases r with
  | cons r rr =>
    rw [hs]
    refine assignInOrder_cons (thn (h1 pins s σ H _ _ _ I r h) fun _ s1 ⟨σ1, H1, I1, q1⟩ => ?_)
    exact h2 pins s1 σ1 H1 _ _ Q I1 rr q1
def gTup (K : PySem.W.Frag) (n : Nat) (t : TGs) : TG := fun v σ H Q => ∃ a xs, v = .ref a ∧ SqT K H a xs ∧ xs.length = n ∧ t xs σ H Q
theorem pg_tup {es : List Expr} {k : Nat} {t : TGs} {n : Nat} (hc : X.calm = true) (h : PGs X es t)
    (hn : (assignEach es X.env).length = n := by rfl) (hst : (assignEach es X.env).findIdx? (·.1) = none := by rfl) : PG X (.Tuple es k pos) (gTup X.K n t) := by
  intro pins s σ H v u Q I r hw
  obtain ⟨a, xs, e1, hq, hl, hw⟩ := hw
  subst e1
  cases r
  obtain ⟨its, rv, ht, hz⟩ := I.tuple hq
  refine assign_Tuple_tuple (I.ok.hd hc) ht (by simp [hn, ← hl, rv.length]) hst fun h' hx => ?_
  have I1 : Inv X pins σ H { s with heap := h' } := I.kept (t' := s.toks) fun b o e => hx b o (Nat.ne_of_lt (Heap.lt_size e)) e
  exact h pins _ σ H xs _ Q I1 (by simpa using rv) hw
def gSub (to ti : TE) (t : TSet) : TG := fun v σ H Q => to σ H fun o H1 => ti σ H1 fun i H2 => t o i v H2 fun H3 => Q σ H3
theorem pg_sub {o i : Expr} {to ti : TE} {t : TSet} (ho : PE X o to) (hi : PE X i ti) (hs : PSet X t)
    (ha : ∀ v, assign (.Subscript o i pos) X.env v = (do
      let ov ← holding [v] (eval o X.env)
      let iv ← holding [v, ov] (eval i X.env)
      standAt pos
      holding [v, ov, iv] (setItem ov iv v)
      release [v, ov, iv] []) := by intro _; rfl) : PG X (.Subscript o i pos) (gSub to ti t) := by
  intro pins s σ H v u Q I r h
  rw [ha]
  refine wpAny_bind (wpAny_holding (thn (ho pins s σ H _ I h) fun ov s1 ⟨x, H1, I1, r1, q1⟩ => ?_))
  refine wpAny_bind (wpAny_holding (thn (hi pins s1 σ H1 _ I1 q1) fun iv s2 ⟨y, H2, I2, r2, q2⟩ => ?_))
  refine wpAny_bind (wpAny_standAt (wpAny_bind (wpAny_holding (thn (hs pins s2 σ H2 x y v ov iv u _ I2 r1 r2 r q2) fun _ s3 ⟨H3, I3, q3⟩ => ?_))))
  exact wpAny_release ⟨σ, H3, I3, q3⟩
def tAsg (te : TE) (g : TG) : TS := fun D σ H => te σ H fun x H1 => g x σ H1 D.nx
theorem ps_asg {tg e : Expr} {te : TE} {g : TG} (he : PE X e te) (hg : PG X tg g) (hs : swapsWithSole [tg] e pos.line X.env = pure false := by rfl) (hw : swappedStores [tg] e X.env = pure none := by rfl)
    (h1 : (assignEach [tg] X.env).map (·.2) = [assign tg X.env] := by rfl) : PS X (.Assign [tg] e pos) (tAsg te g) := by
  intro pins s σ H D I h
  refine wpAny_Assign_stores (thn (he pins s σ H _ I h) fun v s1 ⟨x, H1, I1, r1, q1⟩ => ?_) hs hw
  rw [h1]
  exact thn (hg pins s1 σ H1 x v _ I1 r1 q1) fun _ s2 q => q
theorem ps_set {i : Nat} {x : Str} {e : Expr} {te : TE} {pos' : Pos} (hN : X.N.Nodup) (hi : X.N[i]? = some x) (hx : Loc X.env.scope x) (he : PE X e te) (hs : swapsWith e (some (.Name x pos')) pos.line X.env = pure false := by rfl) (hf : X.fn x = true ∨ X.env.scope.names.lookup x = some .local := by first | exact .inl rfl | exact .inr rfl | assumption) :
    PS X (.Assign [.Name x pos'] e pos) (tAsg te (gName i)) := by
  intro pins s σ H D I h
  refine wpAny_Assign_Name (thn (he pins s σ H _ I h) fun v s1 ⟨y, H1, I1, r1, q1⟩ => ?_) hs
  exact store_ok I1 hN hi hx r1 (fun s2 I2 => ⟨_, H1, I2, q1⟩) hf
def tAug (i : Nat) (te : TE) (ti : TIp) : TS := fun D σ H => ∃ x, σ[i]? = some (some x) ∧ te σ H fun y H1 => ti x y H1 fun z H2 => D.nx (σ.set i (some z)) H2
theorem ps_aug {i : Nat} {x : Str} {e : Expr} {te : TE} {op : Operator} {ti : TIp} {pos' : Pos} (hN : X.N.Nodup) (hi : X.N[i]? = some x) (hx : Loc X.env.scope x) (he : PE X e te) (ho : PIp X op ti) (hf : X.fn x = true ∨ X.env.scope.names.lookup x = some .local := by first | exact .inl rfl | exact .inr rfl | assumption) :
    PS X (.AugAssign (.Name x pos') op e pos) (tAug i te ti) := by
  intro pins s σ H D I h
  obtain ⟨v, e1, h⟩ := h
  obtain ⟨m, hn, hl⟩ := I.loc
  have vis : Vis X.env.scope x := by rcases hx with k | k; exact .inl k; exact .inr (.inl k)
  obtain ⟨u, r, l⟩ := hl i x v hi e1 vis
  refine wpAny_AugAssign_Name ?_
  have go : wpAny (model X.prog X.w) X.A (eval e X.env) (fun w s₂ => wpAny (model X.prog X.w) X.A (inplaceOp op u w) (fun r s₃ => wpAny (model X.prog X.w) X.A (storeName X.env x r) (fun _ => SP X pins D .next) X.xe s₃) X.xe s₂) X.xe s := by
    refine thn (he pins s σ H _ I h) fun w s1 ⟨y, H1, I1, r1, q1⟩ => ?_
    refine thn (ho pins s1 σ H1 v y u w _ I1 r r1 q1) fun z s2 ⟨zv, H2, I2, r2, q2⟩ => ?_
    exact store_ok I2 hN hi hx r2 (fun s3 I3 => ⟨_, H2, I3, q2⟩) hf
  rcases l with ⟨hk, hm⟩ | ⟨hk, c, hc, hcell⟩
  · exact wpAny_loadName_local I.ok.kind hk hn hm go
  · rcases hk with hk | hk
    · exact wpAny_loadName_cell I.ok.kind hk hc hcell go
    · rcases hx with k | k
      · have : X.env.scope.names.lookup x = some .free := hk
        rw [k] at this; cases this
      · have : X.env.scope.names.lookup x = some .free := hk
        rw [k] at this; cases this
def tAugS (to ti te : TE) (tget : V → V → Hp → VK → Prop) (tip : TIp) (tset : TSet) : TS := fun D σ H => to σ H fun o H1 => ti σ H1 fun i H2 => tget o i H2 fun x H3 => te σ H3 fun y H4 => tip x y H4 fun z H5 => tset o i z H5 fun H6 => D.nx σ H6
def PGet (X : Cx) (t : V → V → Hp → VK → Prop) : Prop :=
  ∀ (pins : List (Addr × Obj)) (s : Shared) (σ : St) (H : Hp) (o i : V) (ov iv : Value) (Q : VK), Inv X pins σ H s → RelV o ov → RelV i iv → t o i H Q →
    wpAny (model X.prog X.w) X.A (getItem ov iv) (EP X pins σ Q) X.xe s
theorem ps_augS {o i e : Expr} {to ti te : TE} {tget : V → V → Hp → VK → Prop} {tip : TIp} {tset : TSet} {op : Operator} {tpos : Pos} (ho : PE X o to) (hi : PE X i ti) (hg : PGet X tget) (he : PE X e te) (hp : PIp X op tip) (hs : PSet X tset)
    (ha : ∀ ov iv new, augStore i ov iv new = (do holding [new, ov, iv] (setItem ov iv new); release [new, ov, iv] []; pure .next) := by intros; rfl) : PS X (.AugAssign (.Subscript o i tpos) op e pos) (tAugS to ti te tget tip tset) := by
  intro pins s σ H D I h
  refine wpAny_AugAssign_SubscriptAny (thn (ho pins s σ H _ I h) fun ov s1 ⟨x1, H1, I1, r1, q1⟩ => ?_) ha
  refine thn (hi pins s1 σ H1 _ I1 q1) fun iv s2 ⟨x2, H2, I2, r2, q2⟩ => ?_
  refine thn (hg pins s2 σ H2 x1 x2 ov iv _ I2 r1 r2 q2) fun old s3 ⟨x3, H3, I3, r3, q3⟩ => ?_
  refine thn (he pins s3 σ H3 _ I3 q3) fun v s4 ⟨x4, H4, I4, r4, q4⟩ => ?_
  refine thn (hp pins s4 σ H4 x3 x4 old v _ I4 r3 r4 q4) fun new s5 ⟨x5, H5, I5, r5, q5⟩ => ?_
  exact thn (hs pins s5 σ H5 x1 x2 x5 ov iv new _ I5 r1 r2 r5 q5) fun _ s6 ⟨H6, I6, q6⟩ => ⟨σ, H6, I6, q6⟩
end

section
variable {X : Cx} {pos : Pos}
def tWhile (c : TT) (tb : TS) : TS := fun D σ H => ∃ W : Nat → St → Hp → Prop, (∃ m, W m σ H) ∧ ∀ m σ H, W m σ H →
  c σ H fun b H1 => if b = true then ∃ N : St → Hp → Prop, (∀ σ' H', N σ' H' → ∃ m', m' < m ∧ W m' σ' H') ∧ tb { D with nx := N, ct := N, bk := D.nx } σ H1 else D.nx σ H1
theorem ps_while {c : Expr} {body : List Stmt} {tc : TT} {tb : TS} (hp : PassesOwn (model X.prog X.w) X.A X.env X.xe) (hc : PT X c tc) (hb : PSs X body tb) : PS X (.While c body [] pos) (tWhile tc tb) := by
  intro pins s σ H D I h
  obtain ⟨W, ⟨m0, w0⟩, turn⟩ := h
  refine wpAny_While (codeAny_whileLoop (fun n s' => ∃ σ' H', Inv X pins σ' H' s' ∧ W n σ' H') ?_ m0 ⟨σ, H, I, w0⟩)
  rintro n s1 ⟨σ1, H1, I1, w1⟩
  refine wpAny_passesOwn hp (thn (hc pins s1 σ1 H1 _ I1 (turn n σ1 H1 w1)) fun b s2 ⟨H2, I2, q2⟩ => ?_)
  cases b with
  | true =>
    obtain ⟨N, hN, q2⟩ := q2
    rw [if_pos rfl]
    refine wpAny_passesOwn hp (thn (hb pins s2 σ1 H2 _ I2 q2) fun f s3 q3 => ?_)
    cases f with
    | next =>
      obtain ⟨σ3, H3, I3, n3⟩ := q3
      obtain ⟨m', hm, w3⟩ := hN σ3 H3 n3
      exact ⟨m', hm, σ3, H3, I3, w3⟩
    | cont =>
      obtain ⟨σ3, H3, I3, n3⟩ := q3
      obtain ⟨m', hm, w3⟩ := hN σ3 H3 n3
      exact ⟨m', hm, σ3, H3, I3, w3⟩
    | brk => exact q3
    | ret v => exact q3
  | false =>
    rw [if_neg Bool.false_ne_true]
    exact wpAny_execs_nil ⟨σ1, H2, I2, q2⟩
end

structure It where
  go : Nat → Hp → Prop
  yld : Nat → Hp → V → Hp → Prop
  stop : Nat → Hp → Prop
def FpOk (X : Cx) (pins : List (Addr × Obj)) (H : Hp) (b : Addr) : Prop :=
  H b = none ∧ b ≠ X.env.locals ∧ b ∉ X.fs ∧ (b ∈ X.ex ∨ X.s₀.heap.objs.size ≤ b) ∧ (∀ x c, X.env.cells.lookup x = some c → c ≠ b) ∧ ∀ p ∈ X.pn ++ pins, p.1 ≠ b
theorem Inv.fpOk {X : Cx} {pins : List (Addr × Obj)} {σ : St} {H H' : Hp} {s : Shared} {b : Addr} (I : Inv X pins σ H s) (hb : s.heap.objs.size ≤ b) (hn : H' b = none) : FpOk X pins H' b := by
  refine ⟨hn, Nat.ne_of_gt (Nat.lt_of_lt_of_le I.lt hb), I.nofs hb, .inr (Nat.le_trans I.sz hb), fun x c e z => ?_, fun p hp z => ?_⟩
  · obtain ⟨v, q⟩ := I.cell x c e
    exact absurd (Nat.lt_of_lt_of_le q.lt (by rw [z]; exact hb)) (Nat.lt_irrefl _)
  · exact absurd (Nat.lt_of_lt_of_le (Heap.lt_size (I.pin p hp).1) (by rw [z]; exact hb)) (Nat.lt_irrefl _)
structure Turn (P : Program) (w : World) (K : PySem.W.Frag) (tg : Expr) (J : It) (fp : List Addr) (it : Addr) (tn : Nat → Heap → Prop) : Prop where
  mem : it ∈ fp
  obj : ∀ i h, tn i h → ∀ b ∈ fp, ∃ o, h.get? b = some o ∧ ∀ v, o.data ≠ .cell v
  keep : ∀ i h h', tn i h → (∀ b ∈ fp, ∀ o, h.get? b = some o → h'.get? b = some o) → tn i h'
  item : ∀ (X : Cx), X.prog = P → X.w = w → X.K = K → X.calm = true → ∀ (i : Nat) (pins : List (Addr × Obj)) (s : Shared) (σ : St) (H : Hp) (E : Value → Shared → Prop), Inv X pins σ H s → (∀ b ∈ fp, FpOk X pins H b) → tn i s.heap → J.go i H →
    wpAny (model P w) X.A (pyNext (.ref it)) (fun r s1 => ∃ u, r = some u ∧
      wpAny (model P w) X.A (letOwnedTupleGo tg (.ref it) u) (fun _ s2 => ∃ x H', Inv X pins σ H' s2 ∧ RelV x u ∧ J.yld i H x H' ∧ tn (i + 1) s2.heap ∧ ∀ b ∈ fp, H' b = none) E s1) E s
  done : ∀ (X : Cx), X.prog = P → X.w = w → X.K = K → X.calm = true → ∀ (i : Nat) (pins : List (Addr × Obj)) (s : Shared) (σ : St) (H : Hp) (E : Value → Shared → Prop), Inv X pins σ H s → (∀ b ∈ fp, FpOk X pins H b) → tn i s.heap → J.stop i H →
    wpAny (model P w) X.A (pyNext (.ref it)) (fun r s1 => r = none ∧ Inv X pins σ H s1) E s
  self : ∀ (A : Around) (i : Nat) (s : Shared) (Q : Value → Shared → Prop) (E : Value → Shared → Prop), tn i s.heap → Q (.ref it) s → wpAny (model P w) A (pyIter (.ref it)) Q E s
abbrev TI := St → Hp → (It → Hp → Prop) → Prop
def PIE (X : Cx) (pins : List (Addr × Obj)) (σ : St) (tg : Expr) (R : It → Hp → Prop) (itv : Value) (s2 : Shared) : Prop :=
  ∃ (it : Addr) (fp : List Addr) (tn : Nat → Heap → Prop) (J : It) (H' : Hp), itv = .ref it ∧ Inv X pins σ H' s2 ∧ Turn X.prog X.w X.K tg J fp it tn ∧ tn 0 s2.heap ∧ (∀ b ∈ fp, FpOk X pins H' b) ∧ R J H'
def PI (X : Cx) (tg iter : Expr) (wi : TI) : Prop :=
  ∀ (pins : List (Addr × Obj)) (s : Shared) (σ : St) (H : Hp) (R : It → Hp → Prop), Inv X pins σ H s → wi σ H R →
    wpAny (model X.prog X.w) X.A (eval iter X.env) (fun v s1 => wpAny (model X.prog X.w) X.A (pyIter v) (PIE X pins σ tg R) X.xe s1) X.xe s

theorem go_of {M : Model} {A : Around} {E : Value → Shared → Prop} {s : Shared} {tg : Expr} {it : Addr} {u : Value} {o : Obj} {n : String} {vs : Array Value} {Q : Unit → Shared → Prop} (ho : s.heap.get? it = some o) (hc : o.cls = .type n) (hd : o.data = .fields vs)
    (hn : ["enumerate", "zip", "dict_itemiterator", "dict_reverseitemiterator", "odict_iterator", "itertools.zip_longest", "itertools.pairwise"].contains n = false) (hQ : Q () s) : wpAny M A (letOwnedTupleGo tg (.ref it) u) Q E s := by
  unfold letOwnedTupleGo
  cases tg <;> first
    | exact wpAny_pure hQ
    | (cases u <;> first
        | exact wpAny_pure hQ
        | (refine wpAny_bind (wpAny_load ho ?_)
           rw [hc, hd]
           show wpAny M A (if (["enumerate", "zip", "dict_itemiterator", "dict_reverseitemiterator", "odict_iterator", "itertools.zip_longest", "itertools.pairwise"].contains n && vs[0]? == some (rawInt _)) = true then _ else _) Q E s
           rw [if_neg (by intro h; rw [hn, Bool.false_and] at h; cases h)]
           exact wpAny_pure hQ))

def Itl (K : PySem.W.Frag) (a : Addr) : It :=
  ⟨fun i H => ∃ xs x, SqL K H a xs ∧ xs[i]? = some x, fun i H x H' => H' = H ∧ ∀ xs, SqL K H a xs → xs[i]? = some x, fun i H => ∃ xs, SqL K H a xs ∧ xs.length ≤ i⟩
def Itt (K : PySem.W.Frag) (a : Addr) : It :=
  ⟨fun i H => ∃ xs x, SqT K H a xs ∧ xs[i]? = some x, fun i H x H' => H' = H ∧ ∀ xs, SqT K H a xs → xs[i]? = some x, fun i H => ∃ xs, SqT K H a xs ∧ xs.length ≤ i⟩
def Itr (lo : Int) (n : Nat) : It := ⟨fun i _ => i < n, fun i H x H' => H' = H ∧ x = .int (lo + i), fun i _ => n ≤ i⟩
theorem turn_list {P : Program} {w : World} {K : PySem.W.Frag} {tg : Expr} (a it : Addr) : Turn P w K tg (Itl K a) [it] it (fun i h => h.IsListIter it a i) where
  mem := by simp
  obj := fun i h st b hb => by
    have e : b = it := by simpa using hb
    subst e
    obtain ⟨o, e, c, d⟩ := st
    exact ⟨o, e, fun v z => by rw [d] at z; cases z⟩
  keep := fun i h h' st k => st.at fun o e => k it (by simp) o e
  item := by
    intro X hP hw hK hc i pins s σ H E I hf st hg
    subst hP hw hK
    obtain ⟨xs, x, hq, hx⟩ := hg
    obtain ⟨its, rv, p, hz⟩ := I.list hq
    obtain ⟨u, hu, ru⟩ := rv.get hx
    obtain ⟨f0, f1, f2, f3, f4, f5⟩ := hf it (by simp)
    refine wpAny_pyNext_list_item st p.isList (x := u) (by simpa using hu) fun h' st' sb => ?_
    have I1 : Inv X pins σ H { s with heap := h' } := I.turned (t' := s.toks) (fun b o hb e => (sb.2 b hb).trans e) f0 f1 f3 f4 f5
    obtain ⟨o, e, c, d⟩ := id st'
    exact ⟨u, rfl, go_of (s := { s with heap := h' }) e c d (by decide) ⟨x, H, I1, ru, ⟨rfl, fun ys hy => by rw [I.list_inj hy hq]; exact hx⟩, st', fun b hb => (hf b hb).1⟩⟩
  done := by
    intro X hP hw hK hc i pins s σ H E I hf st hg
    subst hP hw hK
    obtain ⟨xs, hq, hx⟩ := hg
    obtain ⟨its, rv, p, hz⟩ := I.list hq
    obtain ⟨f0, f1, f2, f3, f4, f5⟩ := hf it (by simp)
    have hl := rv.length
    exact wpAny_pyNext_list_end (I.ok.hd hc) st p.isList (by simp; (first | lia | omega)) fun h' eb => ⟨rfl, I.turned (t' := s.toks) (fun b o hb e => eb b o hb e) f0 f1 f3 f4 f5⟩
  self := fun _ _ _ _ _ st h => wpAny_pyIter_listiter st h
theorem turn_tuple {P : Program} {w : World} {K : PySem.W.Frag} {tg : Expr} (a it : Addr) : Turn P w K tg (Itt K a) [it] it (fun i h => h.IsTupleIter it a i) where
  mem := by simp
  obj := fun i h st b hb => by
    have e : b = it := by simpa using hb
    subst e
    obtain ⟨o, e, c, d⟩ := st
    exact ⟨o, e, fun v z => by rw [d] at z; cases z⟩
  keep := fun i h h' st k => st.at fun o e => k it (by simp) o e
  item := by
    intro X hP hw hK hc i pins s σ H E I hf st hg
    subst hP hw hK
    obtain ⟨xs, x, hq, hx⟩ := hg
    obtain ⟨its, rv, p, hz⟩ := I.tuple hq
    obtain ⟨u, hu, ru⟩ := rv.get hx
    obtain ⟨f0, f1, f2, f3, f4, f5⟩ := hf it (by simp)
    refine wpAny_pyNext_tuple_item st (show s.heap.IsTuple a its.toArray from p) (x := u) (by simpa using hu) fun h' st' sb => ?_
    have I1 : Inv X pins σ H { s with heap := h' } := I.turned (t' := s.toks) (fun b o hb e => (sb.2 b hb).trans e) f0 f1 f3 f4 f5
    obtain ⟨o, e, c, d⟩ := id st'
    exact ⟨u, rfl, go_of (s := { s with heap := h' }) e c d (by decide) ⟨x, H, I1, ru, ⟨rfl, fun ys hy => by rw [I.tuple_inj hy hq]; exact hx⟩, st', fun b hb => (hf b hb).1⟩⟩
  done := by
    intro X hP hw hK hc i pins s σ H E I hf st hg
    subst hP hw hK
    obtain ⟨xs, hq, hx⟩ := hg
    obtain ⟨its, rv, p, hz⟩ := I.tuple hq
    obtain ⟨f0, f1, f2, f3, f4, f5⟩ := hf it (by simp)
    have hl := rv.length
    exact wpAny_pyNext_tuple_end (I.ok.hd hc) st (show s.heap.IsTuple a its.toArray from p) (by simp; (first | lia | omega)) fun h' eb => ⟨rfl, I.turned (t' := s.toks) (fun b o hb e => eb b o hb e) f0 f1 f3 f4 f5⟩
  self := fun _ _ _ _ _ st h => wpAny_pyIter_tupleiter st h
theorem turn_range {P : Program} {w : World} {K : PySem.W.Frag} {tg : Expr} (it : Addr) (lo : Int) (n : Nat) : Turn P w K tg (Itr lo n) [it] it (fun i h => IsRangeIter h it (lo + (i : Nat) * 1) ((n : Int) - (i : Nat)) 1) where
  mem := by simp
  obj := fun i h st b hb => by
    have e : b = it := by simpa using hb
    subst e
    exact ⟨_, st, fun v z => by
      have z' : Data.fields _ = Data.cell v := z
      cases z'⟩
  keep := fun i h h' st k => k it (by simp) _ st
  item := by
    intro X hP hw hK hc i pins s σ H E I hf st hg
    subst hP hw hK
    obtain ⟨f0, f1, f2, f3, f4, f5⟩ := hf it (by simp)
    have W := Walks.range (prog := X.prog) (w := X.w) (I.ok.hd hc) it lo 1 n
    refine W.item i s _ _ hg st fun v h' tk hv st' kk => ?_
    obtain ⟨t, rfl⟩ := hv
    have I1 : Inv X pins σ H { s with heap := h', toks := tk } := I.turned (fun b o hb e => kk b o (by simpa using hb) e) f0 f1 f3 f4 f5
    refine ⟨_, rfl, go_of (s := { s with heap := h', toks := tk }) (n := "range_iterator") st' rfl rfl (by decide) ⟨.int (lo + i), H, I1, ⟨t, ?_⟩, ⟨rfl, rfl⟩, st', fun b hb => (hf b hb).1⟩⟩
    rw [Int.mul_one]
  done := by
    intro X hP hw hK hc i pins s σ H E I hf st hg
    subst hP hw hK
    obtain ⟨f0, f1, f2, f3, f4, f5⟩ := hf it (by simp)
    exact wpAny_pyNext_range_end (I.ok.hd hc) st (by have : n ≤ i := hg; (first | lia | omega)) fun h' eb => ⟨rfl, I.turned (t' := s.toks) (fun b o hb e => eb b o hb e) f0 f1 f3 f4 f5⟩
  self := fun _ _ _ _ _ st h => wpAny_pyIter_rangeiter st h
end L2

namespace L2
open PySem PySem.Spec PyProof.Rows
section
variable {X : Cx} {tg : Expr}
def iList (K : PySem.W.Frag) (tl : TE) : TI := fun σ H R => tl σ H fun x H1 => ∃ a, x = .ref a ∧ (∃ xs, SqL K H1 a xs) ∧ R (Itl K a) H1
def iTup (K : PySem.W.Frag) (tl : TE) : TI := fun σ H R => tl σ H fun x H1 => ∃ a, x = .ref a ∧ (∃ xs, SqT K H1 a xs) ∧ R (Itt K a) H1
theorem pi_list {l : Expr} {tl : TE} (hl : PE X l tl) : PI X tg l (iList X.K tl) := by
  intro pins s σ H R I h
  refine thn (hl pins s σ H _ I h) fun v s1 ⟨x, H1, I1, r1, q1⟩ => ?_
  obtain ⟨a, e, ⟨xs, hq⟩, q⟩ := q1
  subst e
  cases r1
  obtain ⟨its, rv, p, hz⟩ := I1.list hq
  refine wpAny_pyIter_list p.isList ?_
  refine ⟨s1.heap.objs.size, [s1.heap.objs.size], _, _, H1, rfl, I1.kept (t' := s1.toks) fun b o e => Heap.get?_push_of_some _ e, turn_list a _, ⟨_, Heap.get?_push_size _ rfl, rfl, rfl⟩, fun b hb => ?_, q⟩
  have e : b = s1.heap.objs.size := by simpa using hb
  subst e
  exact I1.fpOk (Nat.le_refl _) (I1.hok.fresh (Nat.le_refl _))
theorem pi_tup {l : Expr} {tl : TE} (hl : PE X l tl) : PI X tg l (iTup X.K tl) := by
  intro pins s σ H R I h
  refine thn (hl pins s σ H _ I h) fun v s1 ⟨x, H1, I1, r1, q1⟩ => ?_
  obtain ⟨a, e, ⟨xs, hq⟩, q⟩ := q1
  subst e
  cases r1
  obtain ⟨its, rv, p, hz⟩ := I1.tuple hq
  refine wpAny_pyIter_tuple (show s1.heap.IsTuple a its.toArray from p) ?_
  refine ⟨s1.heap.objs.size, [s1.heap.objs.size], _, _, H1, rfl, I1.kept (t' := s1.toks) fun b o e => Heap.get?_push_of_some _ e, turn_tuple a _, ⟨_, Heap.get?_push_size _ rfl, rfl, rfl⟩, fun b hb => ?_, q⟩
  have e : b = s1.heap.objs.size := by simpa using hb
  subst e
  exact I1.fpOk (Nat.le_refl _) (I1.hok.fresh (Nat.le_refl _))
theorem range_it {pins : List (Addr × Obj)} {σ : St} {H : Hp} {s : Shared} {R : It → Hp → Prop} {E : Value → Shared → Prop} {lo hi : Int} {t u v : Tok} {tk : Nat} (I : Inv X pins σ H s) (h1 : -(2 ^ 62) ≤ lo) (h2 : lo < 2 ^ 62) (h3 : -(2 ^ 62) ≤ hi) (h4 : hi < 2 ^ 62)
    (q : R (Itr lo (hi - lo).toNat) H) : wpAny (model X.prog X.w) X.A (pyIter (.ref s.heap.objs.size)) (PIE X pins σ tg R) E { s with heap := s.heap.push { cls := .type "range", data := .fields #[.int lo t, .int hi u, .int 1 v] }, toks := tk } := by
  refine wpAny_pyIter_range (IsRange.new ..) (small_one h1 h2 h3 h4) ?_
  have I1 : Inv X pins σ H { s with heap := s.heap.push { cls := .type "range", data := .fields #[.int lo t, .int hi u, .int 1 v] }, toks := tk } := I.kept fun b o e => Heap.get?_push_of_some _ e
  refine ⟨(s.heap.push { cls := .type "range", data := .fields #[.int lo t, .int hi u, .int 1 v] }).objs.size, [(s.heap.push { cls := .type "range", data := .fields #[.int lo t, .int hi u, .int 1 v] }).objs.size], _, _, H, rfl,
    I1.kept (t' := tk) fun b o e => Heap.get?_push_of_some _ e, turn_range _ lo (hi - lo).toNat, ?_, fun b hb => ?_, q⟩
  · have e1 : lo + ((0 : Nat) : Int) * 1 = lo := by simp
    have e2 : (((hi - lo).toNat : Nat) : Int) - ((0 : Nat) : Int) = Builtin.Range.rangeSize lo hi 1 := by rw [rangeSize_one]; split <;> (first | lia | omega)
    show IsRangeIter _ _ (lo + ((0 : Nat) : Int) * 1) ((((hi - lo).toNat : Nat) : Int) - ((0 : Nat) : Int)) 1
    rw [e1, e2]
    exact Heap.get?_push_size _ rfl
  · have e : b = (s.heap.push { cls := .type "range", data := .fields #[.int lo t, .int hi u, .int 1 v] }).objs.size := by simpa using hb
    subst e
    exact I1.fpOk (Nat.le_refl _) (I1.hok.fresh (Nat.le_refl _))
def iRng1 (ta : TA) : TI := fun σ H R => ta σ H fun vs H1 => ∃ j : Int, vs = [.int j] ∧ -(2 ^ 62) ≤ j ∧ j < 2 ^ 62 ∧ R (Itr 0 j.toNat) H1
def iRng2 (ta : TA) : TI := fun σ H R => ta σ H fun vs H1 => ∃ i j : Int, vs = [.int i, .int j] ∧ (-(2 ^ 62) ≤ i ∧ i < 2 ^ 62 ∧ -(2 ^ 62) ≤ j ∧ j < 2 ^ 62) ∧ R (Itr i (j - i).toNat) H1
theorem pi_range1 {a : Expr} {ta : TA} {p pos : Pos} (hg : Gl X "range") (hm : X.mg "range" = none) (ha : PA X [a] ta) (hs : starEach [a] X.env = [(false, eval a X.env)] := by rfl) : PI X tg (.Call (.Name "range" p) [a] [] pos) (iRng1 ta) := by
  intro pins s σ H R I h
  refine Call_ (ld_blt I hg hm boot_range (PyProof.Rows.callWith_type1 (thn (ha pos pins s σ H _ I h) fun us s1 ⟨vs, H1, I1, r1, q1⟩ => ?_) hs rfl))
  obtain ⟨j, e, q1, q2, q⟩ := q1
  subst e
  cases r1 with
  | cons r rr =>
    cases rr
    obtain ⟨t, rfl⟩ := r
    exact call_range_1 (range_it I1 (by (first | lia | omega)) (by (first | lia | omega)) q1 q2 (by simpa using q))
theorem pi_range2 {a b : Expr} {ta : TA} {p pos : Pos} (hg : Gl X "range") (hm : X.mg "range" = none) (ha : PA X [a, b] ta) (hs : starEach [a, b] X.env = [(false, eval a X.env), (false, eval b X.env)] := by rfl) (hs2 : starEach [b] X.env = [(false, eval b X.env)] := by rfl) :
    PI X tg (.Call (.Name "range" p) [a, b] [] pos) (iRng2 ta) := by
  intro pins s σ H R I h
  refine Call_ (ld_blt I hg hm boot_range (PyProof.Rows.callWith_type1 (thn (ha pos pins s σ H _ I h) fun us s1 ⟨vs, H1, I1, r1, q1⟩ => ?_) (by rw [hs, hs2]) (by rw [hs2]; rfl)))
  obtain ⟨i, j, e, ⟨q1, q2, q3, q4⟩, q⟩ := q1
  subst e
  cases r1 with
  | cons r rr =>
    cases rr with
    | cons r' rr =>
      cases rr
      obtain ⟨t, rfl⟩ := r
      obtain ⟨t', rfl⟩ := r'
      exact call_range_2 (range_it I1 q1 q2 q3 q4 q)

def tFor (wi : TI) (g : TG) (tb : TS) : TS := fun D σ H => wi σ H fun J H1 => ∃ W : Nat → Nat → St → Hp → Prop, (∃ m, W 0 m σ H1) ∧ ∀ i m σ H, W i m σ H →
  (J.stop i H ∧ D.nx σ H) ∨ (J.go i H ∧ ∃ N : St → Hp → Prop, (∀ σ' H', N σ' H' → ∃ m', m' < m ∧ W (i + 1) m' σ' H') ∧ ∀ x H', J.yld i H x H' → g x σ H' fun σ2 H2 => tb { D with nx := N, ct := N, bk := D.nx } σ2 H2)
def pinsAt (fp : List Addr) (h : Heap) : List (Addr × Obj) := fp.filterMap fun b => (h.get? b).map fun o => (b, o)
theorem mem_pinsAt {fp : List Addr} {h : Heap} {b : Addr} {o : Obj} (hb : b ∈ fp) (e : h.get? b = some o) : (b, o) ∈ pinsAt fp h := List.mem_filterMap.mpr ⟨b, hb, by rw [e]; rfl⟩
theorem of_pinsAt {fp : List Addr} {h : Heap} {p : Addr × Obj} (hp : p ∈ pinsAt fp h) : p.1 ∈ fp ∧ h.get? p.1 = some p.2 := by
  obtain ⟨b, hb, e⟩ := List.mem_filterMap.mp hp
  cases q : h.get? b with
  | none => rw [q] at e; cases e
  | some o =>
    rw [q] at e
    have e' : (b, o) = p := Option.some.inj e
    subst e'
    exact ⟨hb, q⟩
theorem Inv.pinned {pins : List (Addr × Obj)} {σ : St} {H : Hp} {s : Shared} {fp : List Addr} (I : Inv X pins σ H s) (hf : ∀ b ∈ fp, FpOk X pins H b) (ho : ∀ b ∈ fp, ∃ o, s.heap.get? b = some o ∧ ∀ v, o.data ≠ .cell v) : Inv X (pins ++ pinsAt fp s.heap) σ H s :=
  I.pins_of fun p hp => (List.mem_append.mp hp).elim (fun z => I.pin p (List.mem_append_right _ z)) fun z => by
    obtain ⟨hb, e⟩ := of_pinsAt z
    obtain ⟨f0, f1, f2, _⟩ := hf p.1 hb
    obtain ⟨o, e', d⟩ := ho p.1 hb
    rw [e] at e'; cases e'
    exact ⟨e, f0, f1, f2, d⟩
theorem Inv.unpinned {pins pl : List (Addr × Obj)} {σ : St} {H : Hp} {s : Shared} (I : Inv X (pins ++ pl) σ H s) : Inv X pins σ H s := I.pins_of fun p hp => I.pin p (List.mem_append_right _ (List.mem_append_left _ hp))
theorem ps_for {iter : Expr} {body : List Stmt} {wi : TI} {g : TG} {tb : TS} {pos : Pos} (hp : PassesOwn (model X.prog X.w) X.A X.env X.xe) (hc : X.calm = true) (hi : PI X tg iter wi) (hg : PG X tg g) (hb : PSs X body tb)
    (hs : ∀ x, foldedSetIterable iter X.env x = pure x := by intro _; rfl) : PS X (.For tg iter body [] pos) (tFor wi g tb) := by
  intro pins s σ H D I h
  refine wpAny_For (thn (hi pins s σ H _ I h) fun v s1 h1 => thn h1 fun itv s2 h2 => ?_) hs
  obtain ⟨it, fp, tn, J, H2, e, I2, T, st2, f2, W, ⟨m0, w0⟩, turn⟩ := h2
  subst e
  -- what stays true of the iterator's objects through the loop
  have stat : ∀ {H' : Hp}, (∀ b ∈ fp, H' b = none) → ∀ b ∈ fp, FpOk X pins H' b := fun hn b hb => ⟨hn b hb, (f2 b hb).2⟩
  refine codeAny_forLoop_any (fun n s' => ∃ i σ' H', Inv X pins σ' H' s' ∧ tn i s'.heap ∧ (∀ b ∈ fp, H' b = none) ∧ W i n σ' H') ?_ m0 ⟨0, σ, H2, I2, st2, fun b hb => (f2 b hb).1, w0⟩
  rintro n s3 ⟨i, σ3, H3, I3, st3, fr3, w3⟩
  rcases turn i n σ3 H3 w3 with ⟨stop, qn⟩ | ⟨go, N, hN, step⟩
  · refine wpAny_passesOwn hp (thn (T.done X rfl rfl rfl hc i pins s3 σ3 H3 X.xe I3 (stat fr3) st3 stop) fun r s4 ⟨hr, I4⟩ => ?_)
    subst hr
    exact wpAny_execs_nil ⟨σ3, H3, I4, qn⟩
  · refine wpAny_passesOwn hp (thn (T.item X rfl rfl rfl hc i pins s3 σ3 H3 X.xe I3 (stat fr3) st3 go) fun r s4 ⟨u, hr, h4⟩ => ?_)
    subst hr
    refine wpAny_passesOwn hp (thn h4 fun _ s5 ⟨x, H5, I5, r5, y5, st5, fr5⟩ => ?_)
    have I5' := I5.pinned (stat fr5) (T.obj _ _ st5)
    refine wpAny_passesOwn hp (thn (hg _ s5 σ3 H5 x u _ I5' r5 (step x H5 y5)) fun _ s6 ⟨σ6, H6, I6, q6⟩ => ?_)
    refine wpAny_passesOwn hp (thn (hb _ s6 σ6 H6 _ I6 q6) fun f s7 q7 => ?_)
    have again : ∀ {σ7 : St} {H7 : Hp}, Inv X (pins ++ pinsAt fp s5.heap) σ7 H7 s7 → N σ7 H7 → ∃ m, m < n ∧ ∃ i σ' H', Inv X pins σ' H' s7 ∧ tn i s7.heap ∧ (∀ b ∈ fp, H' b = none) ∧ W i m σ' H' := fun {σ7 H7} I7 n7 => by
      obtain ⟨m', hm, w7⟩ := hN σ7 H7 n7
      refine ⟨m', hm, i + 1, σ7, H7, I7.unpinned, T.keep _ _ _ st5 fun b hb o e => (I7.pin (b, o) (List.mem_append_right _ (List.mem_append_right _ (mem_pinsAt hb e)))).1, fun b hb => ?_, w7⟩
      obtain ⟨o, e, d⟩ := T.obj _ _ st5 b hb
      exact (I7.pin (b, o) (List.mem_append_right _ (List.mem_append_right _ (mem_pinsAt hb e)))).2.1
    cases f with
    | next => obtain ⟨σ7, H7, I7, n7⟩ := q7; exact again I7 n7
    | cont => obtain ⟨σ7, H7, I7, n7⟩ := q7; exact again I7 n7
    | brk => obtain ⟨σ7, H7, I7, q7⟩ := q7; exact ⟨σ7, H7, I7.unpinned, q7⟩
    | ret v => obtain ⟨x7, σ7, H7, I7, r7, q7⟩ := q7; exact ⟨x7, σ7, H7, I7.unpinned, r7, q7⟩
end

theorem for_list {K : PySem.W.Frag} {a : Addr} {xs : List V} {g : TG} {tb : TS} {D : Ends} {σ : St} {H : Hp} (Pv : Nat → St → Hp → Prop) (h0 : Pv 0 σ H) (hl : ∀ i σ H, i ≤ xs.length → Pv i σ H → SqL K H a xs)
    (hs : ∀ i x σ H, xs[i]? = some x → Pv i σ H → g x σ H fun σ2 H2 => tb { D with nx := Pv (i + 1), ct := Pv (i + 1), bk := D.nx } σ2 H2) (hd : ∀ σ H, Pv xs.length σ H → D.nx σ H) :
    ∃ W : Nat → Nat → St → Hp → Prop, (∃ m, W 0 m σ H) ∧ ∀ i m σ H, W i m σ H →
      ((Itl K a).stop i H ∧ D.nx σ H) ∨ ((Itl K a).go i H ∧ ∃ N : St → Hp → Prop, (∀ σ' H', N σ' H' → ∃ m', m' < m ∧ W (i + 1) m' σ' H') ∧ ∀ x H', (Itl K a).yld i H x H' → g x σ H' fun σ2 H2 => tb { D with nx := N, ct := N, bk := D.nx } σ2 H2) := by
  refine ⟨fun i m σ H => m = xs.length - i ∧ i ≤ xs.length ∧ Pv i σ H, ⟨xs.length, by simp, Nat.zero_le _, h0⟩, ?_⟩
  rintro i m σ H ⟨rfl, hi, p⟩
  have q := hl i σ H hi p
  by_cases hlt : i < xs.length
  · refine .inr ⟨⟨xs, xs[i], q, by simp [hlt]⟩, Pv (i + 1), fun σ' H' p' => ⟨xs.length - (i + 1), by (first | lia | omega), rfl, hlt, p'⟩, fun x H' y => ?_⟩
    obtain ⟨e, y⟩ := y
    subst e
    exact hs i x σ _ (y xs q) p
  · have e : i = xs.length := by (first | lia | omega)
    subst e
    exact .inl ⟨⟨xs, q, Nat.le_refl _⟩, hd σ H p⟩
theorem for_range {lo : Int} {n : Nat} {g : TG} {tb : TS} {D : Ends} {σ : St} {H : Hp} (Pv : Nat → St → Hp → Prop) (h0 : Pv 0 σ H)
    (hs : ∀ i σ H, i < n → Pv i σ H → g (.int (lo + i)) σ H fun σ2 H2 => tb { D with nx := Pv (i + 1), ct := Pv (i + 1), bk := D.nx } σ2 H2) (hd : ∀ σ H, Pv n σ H → D.nx σ H) :
    ∃ W : Nat → Nat → St → Hp → Prop, (∃ m, W 0 m σ H) ∧ ∀ i m σ H, W i m σ H →
      ((Itr lo n).stop i H ∧ D.nx σ H) ∨ ((Itr lo n).go i H ∧ ∃ N : St → Hp → Prop, (∀ σ' H', N σ' H' → ∃ m', m' < m ∧ W (i + 1) m' σ' H') ∧ ∀ x H', (Itr lo n).yld i H x H' → g x σ H' fun σ2 H2 => tb { D with nx := N, ct := N, bk := D.nx } σ2 H2) := by
  refine ⟨fun i m σ H => m = n - i ∧ i ≤ n ∧ Pv i σ H, ⟨n, by simp, Nat.zero_le _, h0⟩, ?_⟩
  rintro i m σ H ⟨rfl, hi, p⟩
  by_cases hlt : i < n
  · refine .inr ⟨hlt, Pv (i + 1), fun σ' H' p' => ⟨n - (i + 1), by (first | lia | omega), rfl, hlt, p'⟩, fun x H' y => ?_⟩
    obtain ⟨e, y⟩ := y
    subst e y
    exact hs i σ _ hlt p
  · have e : i = n := by (first | lia | omega)
    subst e
    exact .inl ⟨Nat.le_refl _, hd σ H p⟩
end L2

namespace L2
open PySem PySem.Spec PyProof.Rows

abbrev R2 := V → V → Hp → VK → Prop
def OpR (X : Cx) (f : Value → Value → Sem Value) (r : R2) : Prop :=
  ∀ (pins : List (Addr × Obj)) (s : Shared) (σ : St) (H : Hp) (x y : V) (v u : Value) (Q : VK), Inv X pins σ H s → RelV x v → RelV y u → r x y H Q →
    wpAny (model X.prog X.w) X.A (f v u) (EP X pins σ Q) X.xe s
def UnR (X : Cx) (f : Value → Sem Value) (r : V → Hp → VK → Prop) : Prop :=
  ∀ (pins : List (Addr × Obj)) (s : Shared) (σ : St) (H : Hp) (x : V) (v : Value) (Q : VK), Inv X pins σ H s → RelV x v → r x H Q →
    wpAny (model X.prog X.w) X.A (f v) (EP X pins σ Q) X.xe s
def CallR (X : Cx) (f : Value) (r : List V → Hp → VK → Prop) : Prop :=
  ∀ (pins : List (Addr × Obj)) (s : Shared) (σ : St) (H : Hp) (xs : List V) (us : List Value) (Q : VK), Inv X pins σ H s → Vals xs us → r xs H Q →
    wpAny (model X.prog X.w) X.A (call f us) (EP X pins σ Q) X.xe s
def tOp (r : R2) (ta tb : TE) : TE := fun σ H Q => ta σ H fun x H1 => tb σ H1 fun y H2 => r x y H2 Q
def tUn (r : V → Hp → VK → Prop) (ta : TE) : TE := fun σ H Q => ta σ H fun x H1 => r x H1 Q
def rI (C : Int → Int → Prop) (g : Int → Int → V) : R2 := fun x y H Q => ∃ i j, x = .int i ∧ y = .int j ∧ C i j ∧ Q (g i j) H
def rI0 (g : Int → Int → V) : R2 := fun x y H Q => ∃ i j, x = .int i ∧ y = .int j ∧ Q (g i j) H
def rU (g : Int → V) : V → Hp → VK → Prop := fun x H Q => ∃ i, x = .int i ∧ Q (g i) H

section
variable {X : Cx} {a b c : Expr} {ta tb tc : TE} {pos : Pos}

theorem binT (ha : PE X a ta) (hb : PE X b tb) {pins : List (Addr × Obj)} {s : Shared} {σ : St} {H : Hp} {R : V → V → Hp → Prop} (I : Inv X pins σ H s)
    (h : ta σ H fun x H1 => tb σ H1 fun y H2 => R x y H2) {Q : Value → Shared → Prop} {f : Value → Value → Sem Value}
    (hf : ∀ v u s2 x y H2, Inv X pins σ H2 s2 → RelV x v → RelV y u → R x y H2 → wpAny (model X.prog X.w) X.A (f v u) Q X.xe s2) :
    wpAny (model X.prog X.w) X.A (eval a X.env) (fun v s₁ => wpAny (model X.prog X.w) X.A (eval b X.env) (fun u s₂ => wpAny (model X.prog X.w) X.A (f v u) Q X.xe s₂) X.xe s₁) X.xe s := by
  refine thn (ha pins s σ H _ I h) fun v s1 ⟨x, H1, I1, r1, q1⟩ => ?_
  refine thn (hb pins s1 σ H1 _ I1 q1) fun u s2 ⟨y, H2, I2, r2, q2⟩ => ?_
  exact hf v u s2 x y H2 I2 r1 r2 q2

theorem pe_op {op : Operator} {r : R2} (ho : OpR X (binaryOp op) r) (ha : PE X a ta) (hb : PE X b tb) : PE X (.BinOp a op b pos) (tOp r ta tb) := by
  intro pins s σ H Q I h
  exact wpAny_BinOp (binT ha hb I h fun v u s2 x y H2 I2 rx ry q => ho pins s2 σ H2 x y v u Q I2 rx ry q)
theorem pe_un {op : UnaryOp} {r : V → Hp → VK → Prop} (ho : UnR X (unaryOp op) r) (ha : PE X a ta) : PE X (.UnaryOp op a pos) (tUn r ta) := by
  intro pins s σ H Q I h
  exact UnaryOp_ (thn (ha pins s σ H _ I h) fun v s1 ⟨x, H1, I1, r1, q1⟩ => ho pins s1 σ H1 x v Q I1 r1 q1)
theorem opI {f : Value → Value → Sem Value} {C : Int → Int → Prop} {g : Int → Int → Int}
    (rule : ∀ (i j : Int) (t u : Tok) (s : Shared) (Q : Value → Shared → Prop) (E : Value → Shared → Prop), C i j → Q (.int (g i j) s.toks) { s with toks := s.toks + 1 } → wpAny (model X.prog X.w) X.A (f (.int i t) (.int j u)) Q E s) :
    OpR X f (rI C fun i j => .int (g i j)) := by
  intro pins s σ H x y v u Q I rx ry h
  obtain ⟨i, j, rfl, rfl, hc, q⟩ := h
  obtain ⟨t, rfl⟩ := rx
  obtain ⟨t', rfl⟩ := ry
  exact rule i j t t' s _ _ hc ⟨.int (g i j), H, I.tok _, ⟨_, rfl⟩, q⟩
theorem opI0 {f : Value → Value → Sem Value} {g : Int → Int → Int}
    (rule : ∀ (i j : Int) (t u : Tok) (s : Shared) (Q : Value → Shared → Prop) (E : Value → Shared → Prop), Q (.int (g i j) s.toks) { s with toks := s.toks + 1 } → wpAny (model X.prog X.w) X.A (f (.int i t) (.int j u)) Q E s) :
    OpR X f (rI0 fun i j => .int (g i j)) := by
  intro pins s σ H x y v u Q I rx ry h
  obtain ⟨i, j, rfl, rfl, q⟩ := h
  obtain ⟨t, rfl⟩ := rx
  obtain ⟨t', rfl⟩ := ry
  exact rule i j t t' s _ _ ⟨.int (g i j), H, I.tok _, ⟨_, rfl⟩, q⟩
theorem opB0 {f : Value → Value → Sem Value} {g : Int → Int → Bool}
    (rule : ∀ (i j : Int) (t u : Tok) (s : Shared) (Q : Value → Shared → Prop) (E : Value → Shared → Prop), Q (.bool (g i j)) s → wpAny (model X.prog X.w) X.A (f (.int i t) (.int j u)) Q E s) :
    OpR X f (rI0 fun i j => .bl (g i j)) := by
  intro pins s σ H x y v u Q I rx ry h
  obtain ⟨i, j, rfl, rfl, q⟩ := h
  obtain ⟨t, rfl⟩ := rx
  obtain ⟨t', rfl⟩ := ry
  exact rule i j t t' s _ _ ⟨.bl (g i j), H, I, rfl, q⟩

def CDiv (i j : Int) : Prop := 0 < j ∧ j < 1073741824
def CPow (i j : Int) : Prop := 0 ≤ j ∧ j ≤ 1000000 ∧ i.natAbs < 2 ^ 64
def CMul (i j : Int) : Prop := (-(2 ^ 64) < i ∧ i < 2 ^ 64) ∨ (-(2 ^ 64) < j ∧ j < 2 ^ 64)
theorem CMul.ok {i j : Int} (h : CMul i j) : IntMulOk i j := by
  rcases h with ⟨h1, h2⟩ | ⟨h1, h2⟩
  · exact .of_left (intBits_le_64 h1 h2)
  · exact .of_right (intBits_le_64 h1 h2)
theorem two_pow_nn (k : Nat) : (0 : Int) ≤ 2 ^ k := by
  rw [two_pow_cast]
  exact Int.natCast_nonneg _

theorem op_add : OpR X (binaryOp .Add) (rI0 fun i j => .int (i + j)) := opI0 fun _ _ _ _ _ _ _ q => add_int q
theorem op_sub : OpR X (binaryOp .Sub) (rI0 fun i j => .int (i - j)) := opI0 fun _ _ _ _ _ _ _ q => sub_int q
theorem op_mul : OpR X (binaryOp .Mult) (rI CMul fun i j => .int (i * j)) := opI fun _ _ _ _ _ _ _ hc q => mul_int q hc.ok
theorem op_fdiv : OpR X (binaryOp .FloorDiv) (rI CDiv fun i j => .int (i / j)) := opI fun i j _ _ _ _ _ hc q => by
  have h1 : (0 : Int) < j := hc.1
  have h2 : j < 1073741824 := hc.2
  exact floordiv_int (by (first | lia | omega)) (by rw [Int.fdiv_eq_ediv_of_nonneg i (by (first | lia | omega))]; exact q) (.inl (PyProof.noPylong_small (by (first | lia | omega))))
theorem op_mod : OpR X (binaryOp .Mod) (rI (fun _ j => 0 < j) fun i j => .int (i % j)) := opI fun i j _ _ _ _ _ hc q => by
  have h1 : (0 : Int) < j := hc
  exact mod_int' (by (first | lia | omega)) (by rw [Int.fmod_eq_emod_of_nonneg i (by (first | lia | omega))]; exact q)
theorem op_pow : OpR X (binaryOp .Pow) (rI CPow fun i j => .int (i ^ j.toNat)) := opI fun _ _ _ _ _ _ _ hc q => pow_int_small hc.1 hc.2.1 hc.2.2 q
theorem op_shl : OpR X (binaryOp .LShift) (rI CPow fun i j => .int (i * 2 ^ j.toNat)) := opI fun _ _ _ _ _ _ _ hc q => lshift_int_small hc.1 hc.2.1 hc.2.2 q
theorem op_shr : OpR X (binaryOp .RShift) (rI (fun _ j => 0 ≤ j) fun i j => .int (i / 2 ^ j.toNat)) := opI fun i j _ _ _ _ _ hc q =>
  rshift_int hc (by rw [Int.fdiv_eq_ediv_of_nonneg i (two_pow_nn _)]; exact q)
theorem op_and : OpR X (binaryOp .BitAnd) (rI0 fun i j => .int (Builtin.bitAnd i j)) := opI0 fun _ _ _ _ _ _ _ q => and_int q
theorem op_xor : OpR X (binaryOp .BitXor) (rI0 fun i j => .int (Builtin.bitXor i j)) := opI0 fun _ _ _ _ _ _ _ q => xor_int q

theorem iop_add : OpR X (inplaceOp .Add) (rI0 fun i j => .int (i + j)) := opI0 fun _ _ _ _ _ _ _ q => iadd_int q
theorem iop_or : OpR X (inplaceOp .BitOr) (rI0 fun i j => .int (Builtin.bitOr i j)) := opI0 fun _ _ _ _ _ _ _ q => ior_int q
theorem unI {f : Value → Sem Value} {g : Int → Int}
    (rule : ∀ (i : Int) (t : Tok) (s : Shared) (Q : Value → Shared → Prop) (E : Value → Shared → Prop), Q (.int (g i) s.toks) { s with toks := s.toks + 1 } → wpAny (model X.prog X.w) X.A (f (.int i t)) Q E s) :
    UnR X f (rU fun i => .int (g i)) := by
  intro pins s σ H x v Q I rx h
  obtain ⟨i, rfl, q⟩ := h
  obtain ⟨t, rfl⟩ := rx
  exact rule i t s _ _ ⟨.int (g i), H, I.tok _, ⟨_, rfl⟩, q⟩
theorem un_neg : UnR X (unaryOp .USub) (rU fun i => .int (-i)) := unI fun _ _ _ _ _ q => neg_int q
end

def scal : V → V → Bool
  | .non, .non => true | .non, .int _ => true | .int _, .non => true | .non, .bl _ => true | .bl _, .non => true | .non, .str _ => true | .str _, .non => true
  | .int _, .int _ => true | .bl _, .bl _ => true | .str _, .str _ => true | .byt _, .byt _ => true
  | .int _, .str _ => true | .str _, .int _ => true | .bl _, .str _ => true | .str _, .bl _ => true
  | _, _ => false
def rEq : R2 := fun x y H Q => scal x y = true ∧ Q (.bl (decide (x = y))) H
def rNe : R2 := fun x y H Q => scal x y = true ∧ Q (.bl (!decide (x = y))) H

theorem dec_int {i j : Int} : decide (V.int i = V.int j) = (i == j) := by
  rw [Bool.eq_iff_iff]
  simp
theorem dec_bl {i j : Bool} : decide (V.bl i = V.bl j) = (i == j) := by
  rw [Bool.eq_iff_iff]
  simp
theorem dec_str {i j : Str} : decide (V.str i = V.str j) = (i == j) := by
  rw [Bool.eq_iff_iff]
  simp
theorem dec_byt {i j : Array UInt8} : decide (V.byt i = V.byt j) = (i.toList == j.toList) := by
  rw [Bool.eq_iff_iff]
  cases i
  cases j
  simp

section
variable {X : Cx} {a b c : Expr} {ta tb tc : TE} {pos : Pos}
theorem fin_bl {pins : List (Addr × Obj)} {σ : St} {H : Hp} {s : Shared} {Q : VK} {k k' : Bool} (I : Inv X pins σ H s) (q : Q (.bl k) H) (e : k = k') : EP X pins σ Q (.bool k') s := by
  subst e
  exact ⟨.bl k, H, I, rfl, q⟩
theorem op_eq : OpR X (compareOp .Eq) rEq := by
  intro pins s σ H x y v u Q I rx ry h
  obtain ⟨hs, q⟩ := h
  cases x with
  | non =>
    cases rx
    cases y with
    | non => cases ry; exact PySem.EqNone.eq_none_none (fin_bl I q (by simp))
    | bl j => cases ry; exact PySem.EqNone.eq_none_bool (fin_bl I q (by simp))
    | int j => obtain ⟨t', rfl⟩ := ry; exact PySem.EqNone.eq_none_int (fin_bl I q (by simp))
    | str j => obtain ⟨t', rfl⟩ := ry; exact PySem.EqNone.eq_none_str (fin_bl I q (by simp))
    | _ => exact absurd (show false = true from hs) Bool.false_ne_true
  | bl i =>
    cases rx
    cases y with
    | non => cases ry; exact PySem.EqNone.eq_bool_none (fin_bl I q (by simp))
    | bl j => cases ry; exact eq_bool (fin_bl I q dec_bl)
    | str j => obtain ⟨t', rfl⟩ := ry; exact PySem.EqMixed.eq_bool_str (fin_bl I q (by simp))
    | _ => exact absurd (show false = true from hs) Bool.false_ne_true
  | int i =>
    obtain ⟨t, rfl⟩ := rx
    cases y with
    | non => cases ry; exact PySem.EqNone.eq_int_none (fin_bl I q (by simp))
    | int j => obtain ⟨t', rfl⟩ := ry; exact eq_int (fin_bl I q dec_int)
    | str j => obtain ⟨t', rfl⟩ := ry; exact PySem.EqMixed.eq_int_str (fin_bl I q (by simp))
    | _ => exact absurd (show false = true from hs) Bool.false_ne_true
  | str i =>
    obtain ⟨t, rfl⟩ := rx
    cases y with
    | non => cases ry; exact PySem.EqNone.eq_str_none (fin_bl I q (by simp))
    | bl j => cases ry; exact PySem.EqMixed.eq_str_bool (fin_bl I q (by simp))
    | int j => obtain ⟨t', rfl⟩ := ry; exact PySem.EqMixed.eq_str_int (fin_bl I q (by simp))
    | str j => obtain ⟨t', rfl⟩ := ry; exact eq_str (fin_bl I q dec_str)
    | _ => exact absurd (show false = true from hs) Bool.false_ne_true
  | byt i =>
    obtain ⟨t, rfl⟩ := rx
    cases y with
    | byt j => obtain ⟨t', rfl⟩ := ry; exact PySem.W.eq_bytes (fin_bl I q dec_byt)
    | _ => exact absurd (show false = true from hs) Bool.false_ne_true
  | _ => cases y <;> exact absurd (show false = true from hs) Bool.false_ne_true
theorem op_ne : OpR X (compareOp .NotEq) rNe := by
  intro pins s σ H x y v u Q I rx ry h
  obtain ⟨hs, q⟩ := h
  cases x with
  | non =>
    cases rx
    cases y with
    | non => cases ry; exact PySem.EqNone.ne_none_none (fin_bl I q (by simp))
    | bl j => cases ry; exact PySem.EqNone.ne_none_bool (fin_bl I q (by simp))
    | int j => obtain ⟨t', rfl⟩ := ry; exact PySem.EqNone.ne_none_int (fin_bl I q (by simp))
    | str j => obtain ⟨t', rfl⟩ := ry; exact PySem.EqNone.ne_none_str (fin_bl I q (by simp))
    | _ => exact absurd (show false = true from hs) Bool.false_ne_true
  | bl i =>
    cases rx
    cases y with
    | non => cases ry; exact PySem.EqNone.ne_bool_none (fin_bl I q (by simp))
    | bl j => cases ry; exact ne_bool (fin_bl I q (congrArg not dec_bl))
    | str j => obtain ⟨t', rfl⟩ := ry; exact PySem.EqMixed.ne_bool_str (fin_bl I q (by simp))
    | _ => exact absurd (show false = true from hs) Bool.false_ne_true
  | int i =>
    obtain ⟨t, rfl⟩ := rx
    cases y with
    | non => cases ry; exact PySem.EqNone.ne_int_none (fin_bl I q (by simp))
    | int j => obtain ⟨t', rfl⟩ := ry; exact ne_int (fin_bl I q (congrArg not dec_int))
    | str j => obtain ⟨t', rfl⟩ := ry; exact PySem.EqMixed.ne_int_str (fin_bl I q (by simp))
    | _ => exact absurd (show false = true from hs) Bool.false_ne_true
  | str i =>
    obtain ⟨t, rfl⟩ := rx
    cases y with
    | non => cases ry; exact PySem.EqNone.ne_str_none (fin_bl I q (by simp))
    | bl j => cases ry; exact PySem.EqMixed.ne_str_bool (fin_bl I q (by simp))
    | int j => obtain ⟨t', rfl⟩ := ry; exact PySem.EqMixed.ne_str_int (fin_bl I q (by simp))
    | str j => obtain ⟨t', rfl⟩ := ry; exact ne_str (fin_bl I q (congrArg not dec_str))
    | _ => exact absurd (show false = true from hs) Bool.false_ne_true
  | byt i =>
    obtain ⟨t, rfl⟩ := rx
    cases y with
    | byt j => obtain ⟨t', rfl⟩ := ry; exact PySem.W.ne_bytes (fin_bl I q (congrArg not dec_byt))
    | _ => exact absurd (show false = true from hs) Bool.false_ne_true
  | _ => cases y <;> exact absurd (show false = true from hs) Bool.false_ne_true

theorem op_lt : OpR X (compareOp .Lt) (rI0 fun i j => .bl (decide (i < j))) := opB0 fun _ _ _ _ _ _ _ q => lt_int q
theorem op_le : OpR X (compareOp .LtE) (rI0 fun i j => .bl (decide (i ≤ j))) := opB0 fun _ _ _ _ _ _ _ q => le_int q
theorem op_gt : OpR X (compareOp .Gt) (rI0 fun i j => .bl (decide (j < i))) := opB0 fun _ _ _ _ _ _ _ q => gt_int q
theorem op_ge : OpR X (compareOp .GtE) (rI0 fun i j => .bl (decide (j ≤ i))) := opB0 fun _ _ _ _ _ _ _ q => ge_int q
theorem op_isN : OpR X (compareOp .Is) (fun x y H Q => y = .non ∧ Q (.bl (decide (x = .non))) H) := by
  intro pins s σ H x y v u Q I rx ry h
  obtain ⟨rfl, q⟩ := h
  cases ry
  refine is_none_gen (fin_bl I q ?_)
  cases x <;> first
    | (cases rx; rfl)
    | (obtain ⟨t, rfl⟩ := rx; rfl)
theorem op_notN : OpR X (compareOp .IsNot) (fun x y H Q => y = .non ∧ Q (.bl (!decide (x = .non))) H) := by
  intro pins s σ H x y v u Q I rx ry h
  obtain ⟨rfl, q⟩ := h
  cases ry
  refine isnot_none_gen (fin_bl I q ?_)
  cases x <;> first
    | (cases rx; rfl)
    | (obtain ⟨t, rfl⟩ := rx; rfl)

theorem nomark (b : Expr) {op : CmpOp} (h : op ≠ .In := by decide) (h2 : op ≠ .NotIn := by decide) : behindInMarks op b = false := by
  have e1 : (op == CmpOp.In) = false := by cases op <;> first | rfl | exact absurd rfl h
  have e2 : (op == CmpOp.NotIn) = false := by cases op <;> first | rfl | exact absurd rfl h2
  cases b <;> simp [behindInMarks, e1, e2]
theorem pe_cmpR {op : CmpOp} {r : R2} (ho : OpR X (compareOp op) r) (ha : PE X a ta) (hb : PE X b tb) (hm : behindInMarks op b = false) : PE X (.Compare a [op] [b] pos) (tOp r ta tb) := by
  intro pins s σ H Q I h
  exact wpAny_Compare1 (binT ha hb I h fun v u s2 x y H2 I2 rx ry q => ho pins s2 σ H2 x y v u Q I2 rx ry q) hm
def tTest (t : TE) : TT := fun σ H Q => t σ H fun x H' => ∃ k, x = .bl k ∧ Q k H'
theorem pt_cmpR {op : CmpOp} {r : R2} (ho : OpR X (compareOp op) r) (ha : PE X a ta) (hb : PE X b tb) (hm : behindInMarks op b = false) : PT X (.Compare a [op] [b] pos) (tTest (tOp r ta tb)) := by
  intro pins s σ H Q I h
  refine wpAny_isTrue_Compare1 (thn (ha pins s σ H _ I h) fun v s1 ⟨x, H1, I1, r1, q1⟩ => thn (hb pins s1 σ H1 _ I1 q1) fun u s2 ⟨y, H2, I2, r2, q2⟩ =>
    thn (ho pins s2 σ H2 x y v u _ I2 r1 r2 q2) fun c s3 ⟨z, H3, I3, r3, k, e, q3⟩ => ?_) hm
  subst e
  cases r3
  exact wpAny_truthy_bool ⟨H3, I3, q3⟩
theorem line63 : (sizeLine : Nat) < 2 ^ 63 := by rw [sizeLine_eq]; decide
theorem vals1 {x : V} {us : List Value} (r : Vals [x] us) : ∃ u, us = [u] ∧ RelV x u := by
  cases r with
  | cons r1 r2 => cases r2; exact ⟨_, rfl, r1⟩
theorem vals2 {x y : V} {us : List Value} (r : Vals [x, y] us) : ∃ u w', us = [u, w'] ∧ RelV x u ∧ RelV y w' := by
  cases r with
  | cons r1 r2 =>
    cases r2 with
    | cons r3 r4 => cases r4; exact ⟨_, _, rfl, r1, r3⟩
theorem call_abs : CallR X (.builtin "abs") (fun xs H Q => ∃ i, xs = [.int i] ∧ Q (.int (if i < 0 then -i else i)) H) := by
  intro pins s σ H xs us Q I r h
  obtain ⟨i, rfl, q⟩ := h
  obtain ⟨u, rfl, t, rfl⟩ := vals1 r
  exact call_abs_int fun u tk => ⟨.int (if i < 0 then -i else i), H, I.tok _, ⟨_, rfl⟩, q⟩
theorem call_max2 (hc : X.calm = true) : CallR X (.builtin "max") (fun xs H Q => ∃ i j, xs = [.int i, .int j] ∧ Q (.int (if j > i then j else i)) H) := by
  intro pins s σ H xs us Q I r h
  obtain ⟨i, j, rfl, q⟩ := h
  obtain ⟨u, w', rfl, ⟨t, rfl⟩, ⟨t', rfl⟩⟩ := vals2 r
  refine max_two_ints (I.ok.hd hc) fun h' tk k => ⟨_, H, I.kept k, ?_, q⟩
  by_cases hj : j > i
  · rw [if_pos hj, if_pos hj]; exact ⟨_, rfl⟩
  · rw [if_neg hj, if_neg hj]; exact ⟨_, rfl⟩
theorem call_min2 (hc : X.calm = true) : CallR X (.builtin "min") (fun xs H Q => ∃ i j, xs = [.int i, .int j] ∧ Q (.int (if j < i then j else i)) H) := by
  intro pins s σ H xs us Q I r h
  obtain ⟨i, j, rfl, q⟩ := h
  obtain ⟨u, w', rfl, ⟨t, rfl⟩, ⟨t', rfl⟩⟩ := vals2 r
  refine min_two_ints (I.ok.hd hc) fun h' tk k => ⟨_, H, I.kept k, ?_, q⟩
  by_cases hj : j < i
  · rw [if_pos hj, if_pos hj]; exact ⟨_, rfl⟩
  · rw [if_neg hj, if_neg hj]; exact ⟨_, rfl⟩
theorem call_int1 : CallR X (.type "int") (fun xs H Q => (∃ i, xs = [.int i] ∧ Q (.int i) H) ∨ ∃ k, xs = [.bl k] ∧ Q (.int (if k then 1 else 0)) H) := by
  intro pins s σ H xs us Q I r h
  rcases h with ⟨i, rfl, q⟩ | ⟨k, rfl, q⟩
  · obtain ⟨u, rfl, t, rfl⟩ := vals1 r
    exact call_int_int ⟨.int i, H, I, ⟨_, rfl⟩, q⟩
  · obtain ⟨u, rfl, r1⟩ := vals1 r
    cases r1
    exact call_int_bool ⟨.int (if k then 1 else 0), H, I.tok _, ⟨_, rfl⟩, q⟩
end
end L2

namespace L2
open PySem PySem.Spec PyProof.Rows

section
variable {prog : Program} {w : World} {A : Around} {E : Value → Shared → Prop} {s : Shared} {K : PySem.W.Frag} {x dx C f : Addr} {mA : Str → Option Value} {name : Str} {v : Value}

end

section
variable {P : Program} {w : World} {H H' : Hp} {h h' : Heap} {a C dx : Addr} {fs fs' : List (Str × V)}
end

section
variable {X : Cx} {pins : List (Addr × Obj)} {σ : St} {H : Hp} {s : Shared} {a C dx : Addr} {fs : List (Str × V)} {f : Str} {v : V} {A : Around} {E : Value → Shared → Prop}

end

section
variable {X : Cx} {o e value : Expr} {f : Str} {pos pos' tpos : Pos} {ta tv : TE}
end

section
variable {X : Cx} {pins : List (Addr × Obj)} {σ : St} {H : Hp} {s : Shared} {A : Around} {E : Value → Shared → Prop} {Q : Value → Shared → Prop} {c : Value} {b : Bool}
end
end L2

namespace L2
open PySem PySem.Spec PyProof.Rows

structure Room (k : Nat) (A : Around) : Prop where
  hd : A.handled = none
  dp : A.depth + 3 * k + 5 < recursionLimit
  un : A.units + 16 * k + 200 < cLine
theorem Room.mono {j k : Nat} {A : Around} (r : Room k A) (h : j ≤ k) : Room j A := ⟨r.hd, by have := r.dp; (first | lia | omega), by have := r.un; (first | lia | omega)⟩
theorem Room.deeper {k : Nat} {A : Around} (r : Room (k + 1) A) (env : Env) : Room k (A.deeper env) :=
  ⟨r.hd, by have := r.dp; show A.depth + 1 + 3 * k + 5 < _; (first | lia | omega), by have := r.un; show A.units + 3 + 16 * k + 200 < _; (first | lia | omega)⟩
theorem Room.depth {k : Nat} {A : Around} (r : Room k A) : A.depth < recursionLimit := by have := r.dp; (first | lia | omega)
theorem Room.units {k : Nat} {A : Around} (r : Room k A) : A.units + 64 < cLine := by have := r.un; (first | lia | omega)
def tNil : TA := fun _ H Q => Q [] H
def tCons (ta : TE) (tr : TA) : TA := fun σ H Q => ta σ H fun x H1 => tr σ H1 fun xs H2 => Q (x :: xs) H2
section
variable {X : Cx} {e : Expr} {es : List Expr} {te : TE} {t : TA} {pos : Pos}
theorem pa_nil : PA X [] tNil := fun _ _ _ _ H Q I h => Calls.spliced_nil ⟨[], H, I, .nil, h⟩
theorem pa_cons (ha : PE X e te) (hr : PA X es t) (hs : starEach (e :: es) X.env = (false, eval e X.env) :: starEach es X.env := by rfl) : PA X (e :: es) (tCons te t) := by
  intro pos pins s σ H Q I h
  rw [hs]
  show wpAny _ _ (spliced ((false, eval e X.env) :: backTo pos (starEach es X.env))) _ _ s
  refine Calls.spliced_cons (thn (ha pins s σ H _ I h) fun u s1 ⟨x, H1, I1, r1, q1⟩ => ?_)
  exact thn (hr pos pins s1 σ H1 _ I1 q1) fun us s2 ⟨xs, H2, I2, r2, q2⟩ => ⟨x :: xs, H2, I2, .cons r1 r2, q2⟩

def tTup (t : TA) : TE := fun σ H Q => t σ H fun xs H1 => xs.length ≤ sizeLine ∧ ∀ p, H1 p = none → Q (.ref p) (upd H1 p (.tup xs))
def tLst (t : TA) : TE := fun σ H Q => t σ H fun xs H1 => xs.length ≤ sizeLine ∧ ∀ p, H1 p = none → Q (.ref p) (upd H1 p (.lst xs))
theorem pe_tup {x1} (h : PA X es t) : PE X (.Tuple es x1 pos) (tTup t) := by
  intro pins s σ H Q I hq
  refine wpAny_Tuple_spliced (thn (h pos pins s σ H _ I hq) fun us s1 ⟨xs, H1, I1, r, z, q⟩ => ⟨by rw [← r.length]; exact z, ?_⟩)
  have hf : H1 s1.heap.objs.size = none := I1.hok.fresh (Nat.le_refl _)
  refine ⟨.ref s1.heap.objs.size, upd H1 s1.heap.objs.size (.tup xs), I1.laid (t' := s1.toks) (fun b u e => Heap.get?_push_of_some _ e) (Nat.le_refl _) ?_, rfl, q _ hf⟩
  exact ⟨z, us, r, ⟨_, Heap.get?_push_size _ rfl, rfl, _, rfl⟩⟩
theorem pe_lst (h : PA X es t) : PE X (.List es pos) (tLst t) := by
  intro pins s σ H Q I hq
  refine wpAny_List_spliced (thn (h pos pins s σ H _ I hq) fun us s1 ⟨xs, H1, I1, r, z, q⟩ => ⟨by rw [← r.length]; exact z, ?_⟩)
  have hf : H1 s1.heap.objs.size = none := I1.hok.fresh (Nat.le_refl _)
  refine ⟨.ref s1.heap.objs.size, upd H1 s1.heap.objs.size (.lst xs), I1.laid (t' := s1.toks) (fun b u e => Heap.get?_push_of_some _ e) (Nat.le_refl _) ?_, rfl, q _ hf⟩
  exact ⟨z, us, 0, r, Heap.get?_push_size _ rfl⟩
end

abbrev Sp := List V → Hp → VK → XK → Prop
abbrev CXT := List Env → Hp → Shared → XK → Value → Shared → Prop

structure Env0 (P : Program) (w : World) (K : PySem.W.Frag) (mg : Str → Option Value) (base : Heap) (A : Around) (outer : List Env) (s : Shared) (H : Hp) : Prop where
  frames : A.frames = some outer
  mod : Mod K mg base
  bs : ∀ b o, base.get? b = some o → s.heap.get? b = some o ∧ H b = none
  bsz : base.objs.size ≤ s.heap.objs.size
  funs : s.heap.FunFrames base outer
  frf : ∀ b ∈ frs outer, H b = none
  hok : HOk P w H s.heap
  bare : AllBare s.gens
def CE (outer : List Env) (P : Program) (w : World) (H : Hp) (s : Shared) (Q : VK) (u : Value) (s' : Shared) : Prop :=
  ∃ v H', s'.os = s.os ∧ AllBare s'.gens ∧ Un (frs outer) [] H H' s.heap s'.heap ∧ HOk P w H' s'.heap ∧ RelV v u ∧ Q v H'
def CR (CX : CXT) (outer : List Env) (P : Program) (w : World) (H : Hp) (s : Shared) (Q : VK) (E : XK) (r : Result) (s' : Shared) : Prop :=
  match r with
  | .ok (.ret u) => CE outer P w H s Q u s'
  | .ok _ => False
  | .error e => CX outer H s E e s'
structure FnOk (P : Program) (w : World) (K : PySem.W.Frag) (mg : Str → Option Value) (base : Heap) (CX : CXT) (k : Nat) (f : Addr) (fd : FuncData) (ps : List Str) (sp : Sp) : Prop where
  len : ∀ vs H Q E, sp vs H Q E → vs.length = ps.length
  run : ∀ (A : Around) (outer : List Env) (s : Shared) (H : Hp) (args : Args) (us : List Value) (vs : List V) (Q : VK) (E : XK), Room k A → Env0 P w K mg base A outer s H → BindsTo s fd args (ps.zip us) → Vals vs us → sp vs H Q E →
    codeAny (model P w) A (.call (.ref f) args) (CR CX outer P w H s Q E) s
section
variable {X : Cx} {pins : List (Addr × Obj)} {σ : St} {H : Hp} {s s' : Shared}
theorem Inv.env0 (I : Inv X pins σ H s) : Env0 X.prog X.w X.K X.mg X.base X.A X.stack s H :=
  ⟨I.ok.frames, I.ok.mod, I.bs, Nat.le_trans I.ok.bsz I.sz, I.stack, I.stkFree, I.hok, I.bare⟩
theorem Inv.after {Q : VK} {u : Value} (I : Inv X pins σ H s) (h : CE X.stack X.prog X.w H s Q u s') : EP X pins σ Q u s' := by
  obtain ⟨v, H', os, bare, un, hok, r, q⟩ := h
  obtain ⟨hh, g, d, t, os'⟩ := s'
  obtain rfl : os' = s.os := os
  exact ⟨v, H', I.call (h' := hh) (g' := g) (d' := d) (t' := t) (ch := []) un hok bare (fun b z => absurd z (by simp)), r, q⟩
end

def tCall (sp : Sp) (dvs : List V) (E : XK) (t : TA) : TE := fun σ H Q => t σ H fun vs H1 => sp (vs ++ dvs) H1 Q E
def Binds (K : PySem.W.Frag) (fd : FuncData) (ps : List Str) (ds : List Value) : Prop :=
  ∀ (s : Shared) (us : List Value), K.In s.heap → (us ++ ds).length = ps.length → BindsTo s fd ⟨us, []⟩ (ps.zip (us ++ ds))
theorem Binds.all {K : PySem.W.Frag} {fd : FuncData} {ps : List Str} (h : ∀ us : List Value, us.length = ps.length → bindArgs fd ⟨us, []⟩ = pure (ps.zip us)) : Binds K fd ps [] := fun s us _ hl => by
  rw [List.append_nil] at hl ⊢
  exact .of_eq (h us hl)

def Passes (CX : CXT) (X : Cx) (E : XK) : Prop := ∀ (pins : List (Addr × Obj)) (σ : St) (H : Hp) (s : Shared) (e : Value) (s' : Shared), Inv X pins σ H s → CX X.stack H s E e s' → X.xe e s'

section
variable {X : Cx} {CX : CXT} {k : Nat} {f C : Addr} {fd : FuncData} {ps : List Str} {sp : Sp} {dvs : List V} {ds : List Value} {E : XK} {x m : Str} {p pos apos : Pos} {e o : Expr} {es : List Expr} {ta : TE} {t : TA}

theorem run_fn {pins : List (Addr × Obj)} {σ : St} {H : Hp} {s : Shared} {Q : VK} {us : List Value} {vs : List V} (F : FnOk X.prog X.w X.K X.mg X.base CX k f fd ps sp) (hr : Room k X.A) (hb : Binds X.K fd ps ds) (hd : Vals dvs ds) (hx : Passes CX X E)
    (I : Inv X pins σ H s) (r : Vals vs us) (h : sp (vs ++ dvs) H Q E) : wpAny (model X.prog X.w) X.A (call (.ref f) us) (EP X pins σ Q) X.xe s := by
  have r2 : Vals (vs ++ dvs) (us ++ ds) := r.append hd
  have hl : (us ++ ds).length = ps.length := by rw [← r2.length]; exact F.len _ _ _ _ h
  refine wpAny_call (codeAny_mono (F.run X.A X.stack s H ⟨us, []⟩ (us ++ ds) (vs ++ dvs) Q E hr I.env0 (hb s us I.kIn hl) r2 h) fun r s' hq => ?_)
  cases r with
  | error e => exact hx pins σ H s e s' I hq
  | ok fl =>
    cases fl with
    | ret u => exact I.after hq
    | next => exact False.elim hq
    | brk => exact False.elim hq
    | cont => exact False.elim hq

theorem pe_call (F : FnOk X.prog X.w X.K X.mg X.base CX k f fd ps sp) (hr : Room k X.A) (hg : Gl X x) (hm : X.mg x = some (.ref f)) (hk : PySem.W.keepIn X.K (.ref f) = true) (hb : Binds X.K fd ps ds) (hd : Vals dvs ds) (hx : Passes CX X E)
    (ha : PA X (e :: es) t) (hdb : (x == ("__debug__" : Str)) = false := by decide) (he : starEach (e :: es) X.env = (false, eval e X.env) :: starEach es X.env := by rfl) (hpl : (backTo pos (starEach es X.env)).any (·.1) = false := by rfl) :
    PE X (.Call (.Name x p) (e :: es) [] pos) (tCall sp dvs E t) := by
  intro pins s σ H Q I h
  refine wpAny_Call_Name_kw (ld_glob I hg hm ?_ hdb)
  refine PySem.W.callWith_K (h₀ := X.base) I.ok.mod.kin hk (thn (ha pos pins s σ H _ I h) fun us s1 ⟨vs, H1, I1, r, q⟩ => ⟨I1.kIn, ?_⟩) he hpl
  exact run_fn F hr hb hd hx I1 r q
end

section
variable {X : Cx} {CX : CXT} {k : Nat} {f C : Addr} {fd : FuncData} {ps ks : List Str} {sp : Sp} {E : XK} {x m : Str} {p pos apos kpos : Pos} {e o : Expr} {es : List Expr} {kws : List Keyword} {te ta : TE} {t tk : TA} {nm : Option Str}
variable {g : List Value → List Value → List Value} {gV : List V → List V → List V}
end

structure FnScope (N P : List Str) (sc : Scope) : Prop where
  kind : sc.kind = .function
  co : sc.isCoroutine = false
  gen : sc.isGenerator = false
  nd : N.Nodup
  pre : N.take P.length = P
  par : ∀ x ∈ P, sc.names.lookup x = some .local ∨ sc.names.lookup x = some .cell
  nofree : ∀ y ∈ sc.names, y.2 ≠ .free

theorem bindL_out {kindOf : Str → Option NameKind} {x : Str} : ∀ {binds : List (Str × Value)} {m : Str → Option Value}, (∀ v, (x, v) ∉ binds) → bindL kindOf binds m x = m x
  | [], _, _ => rfl
  | (n, v) :: r, m, h => by
    unfold bindL
    rw [bindL_out fun w hw => h w (List.mem_cons_of_mem _ hw)]
    split
    · have : x ≠ n := by rintro rfl; exact h v List.mem_cons_self
      simp [this]
    · rfl
theorem bindC_out {kindOf : Str → Option NameKind} {x : Str} : ∀ {binds : List (Str × Value)} {m : Str → Option Value}, (∀ v, (x, v) ∉ binds) → bindC kindOf binds m x = m x
  | [], _, _ => rfl
  | (n, v) :: r, m, h => by
    unfold bindC
    rw [bindC_out fun w hw => h w (List.mem_cons_of_mem _ hw)]
    split
    · rfl
    · have : x ≠ n := by rintro rfl; exact h v List.mem_cons_self
      simp [this]
theorem bindL_get {kindOf : Str → Option NameKind} {x : Str} {v : Value} : ∀ {P : List Str} {vs : List Value} {i : Nat} {m : Str → Option Value}, P.Nodup → P[i]? = some x → vs[i]? = some v → kindOf x = some .local →
    bindL kindOf (P.zip vs) m x = some v
  | [], _, _, _, _, h, _, _ => by simp at h
  | _ :: _, [], _, _, _, _, h, _ => by simp at h
  | p :: P, w :: vs, 0, m, nd, h1, h2, hk => by
    simp at h1 h2; subst h1; subst h2
    show bindL kindOf ((p, w) :: P.zip vs) m p = _
    unfold bindL
    rw [bindL_out fun v hv => (List.nodup_cons.mp nd).1 (List.of_mem_zip hv).1, if_pos hk]
    simp
  | p :: P, w :: vs, i + 1, m, nd, h1, h2, hk => by
    show bindL kindOf ((p, w) :: P.zip vs) m x = _
    unfold bindL
    exact bindL_get (i := i) (List.nodup_cons.mp nd).2 (by simpa using h1) (by simpa using h2) hk
theorem bindC_get {kindOf : Str → Option NameKind} {x : Str} {v : Value} : ∀ {P : List Str} {vs : List Value} {i : Nat} {m : Str → Option Value}, P.Nodup → P[i]? = some x → vs[i]? = some v → kindOf x ≠ some .local →
    bindC kindOf (P.zip vs) m x = some v
  | [], _, _, _, _, h, _, _ => by simp at h
  | _ :: _, [], _, _, _, _, h, _ => by simp at h
  | p :: P, w :: vs, 0, m, nd, h1, h2, hk => by
    simp at h1 h2; subst h1; subst h2
    show bindC kindOf ((p, w) :: P.zip vs) m p = _
    unfold bindC
    rw [bindC_out fun v hv => (List.nodup_cons.mp nd).1 (List.of_mem_zip hv).1, if_neg hk]
    simp
  | p :: P, w :: vs, i + 1, m, nd, h1, h2, hk => by
    show bindC kindOf ((p, w) :: P.zip vs) m x = _
    unfold bindC
    exact bindC_get (i := i) (List.nodup_cons.mp nd).2 (by simpa using h1) (by simpa using h2) hk

def start (N : List Str) (vs : List V) : St := vs.map some ++ List.replicate (N.length - vs.length) none

def cxOf (CX : CXT) (P : Program) (w : World) (K : PySem.W.Frag) (mg : Str → Option Value) (base : Heap) (N : List Str) (qual : Str) (scope : Scope) (f : Addr) (cd : Value) (A : Around) (outer : List Env) (s : Shared) (H : Hp) (E : XK) : Cx where
  prog := P
  w := w
  K := K
  mg := mg
  base := base
  A := A.deeper (envOfC qual scope s.heap.objs.size f cd)
  N := N
  s₀ := s
  H₀ := H
  env := envOfC qual scope s.heap.objs.size f cd
  outer := outer
  stack := envOfC qual scope s.heap.objs.size f cd :: outer
  ex := []
  calm := true
  fn := fun _ => true
  pn := []
  xe := fun e s' => wpAny (model P w) (A.deeper (envOfC qual scope s.heap.objs.size f cd)) (leaving (envOfC qual scope s.heap.objs.size f cd) e) (fun _ s'' => CX outer H s E e s'') (fun e' s'' => CX outer H s E e' s'') s'

theorem cell_has {sc : Scope} {n : Nat} {x : Str} (h : sc.names.lookup x = some .cell) : ∃ c, (cellsFrom n sc.names []).lookup x = some c := by
  have q := PySem.W.cellsFrom_some sc.names n [] (.inl h)
  exact Option.isSome_iff_exists.mp q

theorem inv_start {CX : CXT} {P : Program} {w : World} {K : PySem.W.Frag} {mg : Str → Option Value} {base : Heap} {N ps : List Str} {qual : Str} {scope : Scope} {f : Addr} {cd : Value} {A : Around} {outer : List Env} {s s1 : Shared} {H : Hp} {E : XK} {us : List Value} {vs : List V}
    (S : FnScope N ps scope) (hd : A.handled = none) (e0 : Env0 P w K mg base A outer s H) (hl : vs.length = ps.length) (r : Vals vs us)
    (x : InCallC s s.heap.objs.size (bindL (envOfC qual scope s.heap.objs.size f cd).kindOf (ps.zip us) fun _ => none) (cellsFrom (s.heap.objs.size + 1) scope.names []) (bindC (envOfC qual scope s.heap.objs.size f cd).kindOf (ps.zip us) fun _ => none) s1) :
    Inv (cxOf CX P w K mg base N qual scope f cd A outer s H E) [] (start N vs) H s1 := by
  have hpl : ps.length ≤ N.length := by have := congrArg List.length S.pre; rw [List.length_take] at this; (first | lia | omega)
  obtain ⟨h1, tk, rfl, hk⟩ := x.done
  have noA : ∀ b : Addr, b ∉ (cxOf CX P w K mg base N qual scope f cd A outer s H E).ex := fun b z => absurd (show b ∈ ([] : List Addr) from z) (by simp)
  refine ⟨⟨e0.mod, S.kind, rfl, rfl, Nat.le_refl _, fun y z c h1 h2 => ?_, fun y hy => ?_, fun y c _ h => ?_, fun _ => hd, Around.frames_deeper e0.frames, .inr ⟨rfl, rfl⟩, fun b z => absurd z (noA b), e0.bs, e0.bsz, fun b _ _ => noA b, fun b z => absurd z (noA b), e0.funs, e0.frf⟩,
    rfl, e0.bare, Un.kept hk, ⟨_, x.toInCall.ns, fun i y v h1 h2 h3 => ?_⟩, fun y c h => ⟨_, x.cell y c h⟩, e0.hok.fresh (Nat.le_refl _), fun y c h => ?_, fun p hp => absurd (show p ∈ ([] : List (Addr × Obj)) from hp) (by simp), e0.hok.kept hk, ?_⟩
  · exact name_of_addr x.apart (PySem.mem_of_lookup h1) (PySem.mem_of_lookup h2)
  · have hy : scope.names.lookup y = some .cell ∨ scope.names.lookup y = some .free := hy
    rcases hy with hy | hy
    · exact cell_has hy
    · exact absurd rfl (S.nofree _ (PySem.mem_of_lookup hy))
  · exact Nat.le_of_lt (x.above y c (PySem.mem_of_lookup h))
  · have hi : i < vs.length := by
      unfold start at h2
      by_cases hi : i < vs.length
      · exact hi
      · rw [List.getElem?_append_right (by simpa using hi)] at h2
        rw [List.getElem?_replicate] at h2
        split at h2 <;> cases h2
    have ha : vs[i]? = some v := by
      unfold start at h2
      rw [List.getElem?_append_left (by simpa using hi), List.getElem?_map] at h2
      cases e : vs[i]? with
      | none => rw [e] at h2; cases h2
      | some a => rw [e] at h2; cases h2; rfl
    obtain ⟨u, hu, rv⟩ := r.get ha
    have hp : ps[i]? = some y := by
      rw [← S.pre, List.getElem?_take_of_lt (by (first | lia | omega))]; exact h1
    have ndP : ps.Nodup := by rw [← S.pre]; exact S.nd.sublist (List.take_sublist _ _)
    refine ⟨u, rv, ?_⟩
    rcases S.par y (List.mem_of_getElem? hp) with k | k
    · exact .inl ⟨k, bindL_get ndP hp hu k⟩
    · obtain ⟨c, e⟩ := cell_has (n := s.heap.objs.size + 1) k
      refine .inr ⟨.inl k, c, e, ?_⟩
      have q := x.cell y c e
      rw [bindC_get ndP hp hu (by show scope.names.lookup y ≠ _; rw [k]; decide)] at q
      exact q
  · exact e0.hok.fresh (Nat.le_of_lt (x.above y c (PySem.mem_of_lookup h)))
  · unfold start
    show _ = N.length
    rw [List.length_append, List.length_map, List.length_replicate]
    (first | lia | omega)

theorem fn_of {CX : CXT} {P : Program} {w : World} {K : PySem.W.Frag} {mg : Str → Option Value} {base : Heap} {k : Nat} {f : Addr} {name qual : Str} {params : Arguments} {body : List Stmt} {scope : Scope} {dV kV doc pm cdv ct oc : Value} {an od : Option Addr}
    {osl : Array (Option Value)} {N ps : List Str} {sp : Sp} (lk : K.lookup f = some ⟨oc, od, .func (PySem.W.fnOf name qual params body scope dV kV doc pm an cdv ct), osl⟩) (hcd : PySem.W.codeIn K cdv qual = true) (S : FnScope N ps scope)
    (len : ∀ vs H Q E, sp vs H Q E → vs.length = ps.length)
    (hbody : ∀ (A : Around) (outer : List Env) (s : Shared) (H : Hp) (vs : List V) (Q : VK) (E : XK), Room k (A.deeper (envOfC qual scope s.heap.objs.size f cdv)) → sp vs H Q E →
      ∃ t, PSs (cxOf CX P w K mg base N qual scope f cdv A outer s H E) body t ∧ t { nx := fun _ H' => Q .non H', rt := Q } (start N vs) H) :
    FnOk P w K mg base CX (k + 1) f (PySem.W.fnOf name qual params body scope dV kV doc pm an cdv ct) ps sp := by
  refine ⟨len, fun A outer s H args us vs Q E hr e0 hb r hsp => ?_⟩
  have hl := len _ _ _ _ hsp
  have KX : K.In s.heap := e0.mod.kin.keeps fun b o e => (e0.bs b o e).1
  have lim : s.heap.NoLimit := e0.mod.nolimit.keeps fun b o e => (e0.bs b o e).1
  have hkind : ∀ y ∈ ps.zip us, scope.names.lookup y.1 = some .local ∨ (scope.names.lookup y.1 = some .cell ∧ ((cellsFrom (s.heap.objs.size + 1) scope.names []).lookup y.1).isSome = true) := fun ⟨n, v⟩ hy => by
    rcases S.par n (List.of_mem_zip hy).1 with q | q
    · exact .inl q
    · exact .inr ⟨q, PySem.W.cellsFrom_some _ _ _ (.inl q)⟩
  refine codeAny_call_function hr.depth (KX _ _ lk) rfl S.co S.gen rfl (PySem.W.codeRec_of KX hcd) (hb _ _ _ _ ?_)
  refine wpAny_newFunctionEnv_cells S.kind hkind fun env he s1 x => ?_
  subst he
  refine ⟨lim.keeps x.toInCall.keep, codeAny_func ?_⟩
  obtain ⟨t, ht, hq⟩ := hbody A outer s H vs Q E (hr.deeper _) hsp
  have I : Inv (cxOf CX P w K mg base N qual scope f cdv A outer s H E) [] (start N vs) H s1 := inv_start S hr.hd e0 hl r x
  refine wpAny_mono (ht [] s1 (start N vs) H _ I hq) (fun fl s' hs => ?_) fun e s' hs => hs
  have fin : ∀ {σ' : St} {H' : Hp} {v : V} {u : Value}, Inv (cxOf CX P w K mg base N qual scope f cdv A outer s H E) [] σ' H' s' → RelV v u → Q v H' → CE outer P w H s Q u s' :=
    fun {σ' H' v u} J rv q => ⟨v, H', J.os, J.bare, J.base, J.hok, rv, q⟩
  cases fl with
  | ret u =>
    obtain ⟨v, σ', H', J, rv, q⟩ := hs
    exact fin J rv q
  | next =>
    obtain ⟨σ', H', J, q⟩ := hs
    exact fin (v := V.non) (u := Value.none) J rfl q
  | brk =>
    obtain ⟨_, _, _, q⟩ := hs
    exact False.elim q
  | cont =>
    obtain ⟨_, _, _, q⟩ := hs
    exact False.elim q
end L2

namespace L2
open PySem PySem.Spec PyProof.Rows
section
variable {X : Cx} {x : Str} {p pos : Pos} {e : Expr} {es : List Expr} {t : TA} {id T : String} {r : List V → Hp → VK → Prop}

def tCB (r : List V → Hp → VK → Prop) (t : TA) : TE := fun σ H Q => t σ H fun vs H1 => r vs H1 Q
theorem pe_callB (hc : CallR X (.builtin id) r) (hg : Gl X x) (hm : X.mg x = none) (hv : bootBuiltins x = some (.builtin id)) (ha : PA X (e :: es) t) (hn : x ≠ "__name__" := by decide) (hdb : (x == ("__debug__" : Str)) = false := by decide)
    (he : starEach (e :: es) X.env = (false, eval e X.env) :: starEach es X.env := by rfl) (hpl : (backTo pos (starEach es X.env)).any (·.1) = false := by rfl) : PE X (.Call (.Name x p) (e :: es) [] pos) (tCB r t) := by
  intro pins s σ H Q I h
  refine wpAny_Call_Name_kw (ld_blt I hg hm hv ?_ hn hdb)
  exact PyProof.Rows.callWith_builtin1 (thn (ha pos pins s σ H _ I h) fun us s1 ⟨vs, H1, I1, r1, q1⟩ => hc pins s1 σ H1 vs us Q I1 r1 q1) he hpl
theorem pe_callTy (hc : CallR X (.type T) r) (hg : Gl X x) (hm : X.mg x = none) (hv : bootBuiltins x = some (.type T)) (ha : PA X (e :: es) t) (hn : x ≠ "__name__" := by decide) (hdb : (x == ("__debug__" : Str)) = false := by decide)
    (he : starEach (e :: es) X.env = (false, eval e X.env) :: starEach es X.env := by rfl) (hpl : (backTo pos (starEach es X.env)).any (·.1) = false := by rfl) : PE X (.Call (.Name x p) (e :: es) [] pos) (tCB r t) := by
  intro pins s σ H Q I h
  refine wpAny_Call_Name_kw (ld_blt I hg hm hv ?_ hn hdb)
  exact PyProof.Rows.callWith_type1 (thn (ha pos pins s σ H _ I h) fun us s1 ⟨vs, H1, I1, r1, q1⟩ => hc pins s1 σ H1 vs us Q I1 r1 q1) he hpl
end
end L2

namespace HT
open PySem PyProof.Rows

section
open PySem.SeqAt
open PySem.AutoSeq1 (wpAny_loadPart')
open PySem.MeetsSeq PySem.MeetsSeq2 PySem.MeetsSeq3

end

section
variable {prog : Program} {w : World} {A : Around} {E : Value → Shared → Prop} {s : Shared}

def sIx (n d : Nat) : Option Int → Nat
  | none => d
  | some v => if v < 0 then (v + (n : Int)).toNat else min v.toNat n
theorem sIx_nat (n d k : Nat) : sIx n d (some (k : Int)) = min k n := by
  show (if (k : Int) < 0 then ((k : Int) + (n : Int)).toNat else min (k : Int).toNat n) = min k n
  rw [if_neg (by (first | lia | omega)), Int.toNat_natCast]
theorem sIx_le (n d : Nat) (hd : d ≤ n) (o : Option Int) : sIx n d o ≤ n := by
  cases o with
  | none => exact hd
  | some v =>
    show (if v < 0 then (v + (n : Int)).toNat else min v.toNat n) ≤ n
    by_cases hv : v < 0
    · rw [if_pos hv]; (first | lia | omega)
    · rw [if_neg hv]; exact Nat.min_le_right _ _
theorem clip_eq (v : Int) (n d : Nat) : (if v < 0 then max (v + (n : Int)) 0 else min v (n : Int)) = ((sIx n d (some v) : Nat) : Int) := by
  show (if v < 0 then max (v + (n : Int)) 0 else min v (n : Int)) = (((if v < 0 then (v + (n : Int)).toNat else min v.toNat n) : Nat) : Int)
  by_cases hv : v < 0
  · simp only [if_pos hv]; (first | lia | omega)
  · simp only [if_neg hv]; (first | lia | omega)
theorem adjust_gen (lo hi : Option Int) (n : Nat) : Builtin.Slice.sliceAdjust lo hi 1 (n : Int) = (((sIx n 0 lo : Nat) : Int), ((sIx n n hi : Nat) : Int)) := by
  have h1 : ¬ ((1 : Int) < 0) := by (first | lia | omega)
  unfold Builtin.Slice.sliceAdjust
  simp only [h1, if_false]
  refine Prod.ext ?_ ?_
  · cases lo with
    | none => rfl
    | some v => exact clip_eq v n 0
  · cases hi with
    | none => rfl
    | some v => exact clip_eq v n n
theorem places_gen (i j : Nat) : Builtin.Slice.slicePlaces (i : Int) (j : Int) 1 = j - i := by
  unfold Builtin.Slice.slicePlaces
  have h1 : (1 : Int) > 0 := by (first | lia | omega)
  simp only [h1, if_true, Int.ediv_one]
  split <;> (first | lia | omega)
theorem slicePart_ {v : Value} {o : Option Int} {Q : Option Int → Shared → Prop} (p : IsPart v o) (h : Q o s) : wpAny (model prog w) A (Builtin.Slice.slicePartIndex v) Q E s := by
  cases p with
  | none => exact slicePart_none h
  | int i t => exact slicePart_int h
theorem sliceApplied_gen {sl : Addr} {vl vu : Value} {lo hi : Option Int} {n : Nat} {Q : Int × Int × Nat → Shared → Prop} (hs : s.heap.IsSliceOf sl vl vu .none) (pl : IsPart vl lo) (pu : IsPart vu hi)
    (h : Q (((sIx n 0 lo : Nat) : Int), 1, sIx n n hi - sIx n 0 lo) s) : wpAny (model prog w) A (Builtin.Slice.sliceApplied (.ref sl) (pure (n : Int))) Q E s := by
  obtain ⟨os, hos, hcs, hds⟩ := id hs
  unfold Builtin.Slice.sliceApplied Builtin.Slice.sliceFields
  refine wpAny_bind (wpAny_bind (wpAny_field hos hds (x := vl) rfl (wpAny_bind (wpAny_field hos hds (x := vu) rfl (wpAny_bind (wpAny_field hos hds (x := .none) rfl (wpAny_pure ?_)))))))
  refine wpAny_bind (slicePart_none ?_)
  show wpAny _ _ (if ((1 : Int) == 0) = true then _ else _) _ _ s
  rw [if_neg (by decide)]
  refine wpAny_bind (slicePart_ pl (wpAny_bind (slicePart_ pu (wpAny_bind (wpAny_pure ?_)))))
  show wpAny _ _ (match Builtin.Slice.sliceAdjust lo hi 1 (n : Int) with | (lo, hi) => pure (lo, (1 : Int), Builtin.Slice.slicePlaces lo hi 1)) _ _ s
  rw [adjust_gen lo hi n]
  show wpAny _ _ (pure (((sIx n 0 lo : Nat) : Int), (1 : Int), Builtin.Slice.slicePlaces ((sIx n 0 lo : Nat) : Int) ((sIx n n hi : Nat) : Int) 1)) _ _ s
  rw [places_gen]
  exact wpAny_pure h
theorem pick_gen (xs : Array Value) (i k : Nat) : ((List.range k).filterMap fun (m : Nat) => xs[((i : Int) + (m : Int) * 1).toNat]?).toArray = ((xs.toList.drop i).take k).toArray := by
  have e : (fun (m : Nat) => xs[((i : Int) + (m : Int) * 1).toNat]?) = fun m => xs[i + m]? := by
    funext m
    have : ((i : Int) + (m : Int) * 1).toNat = i + m := by (first | lia | omega)
    rw [this]
  rw [e]
  have := pick_run xs i k
  rw [List.filterMap_map] at this
  have e2 : ((fun x => xs[x]?) ∘ fun x => i + x) = fun m => xs[i + m]? := rfl
  rw [e2] at this
  rw [this]

theorem getItem_tuple_cut {t sl : Addr} {items : Array Value} {vl vu : Value} {lo hi : Option Int} {Q : Value → Shared → Prop} (ht : IsTup s.heap t items) (hs : s.heap.IsSliceOf sl vl vu .none) (pl : IsPart vl lo) (pu : IsPart vu hi)
    (hw : ¬ (sIx items.size 0 lo = 0 ∧ sIx items.size items.size hi = items.size))
    (h : Q (.ref s.heap.objs.size) { s with heap := s.heap.push { cls := .type "tuple", data := .seq ((items.toList.drop (sIx items.size 0 lo)).take (sIx items.size items.size hi - sIx items.size 0 lo)).toArray } })
    (hsz : items.size ≤ sizeLine) : wpAny (model prog w) A (getItem (.ref t) (.ref sl)) Q E s := by
  have htake : sizeOk (.seq ((items.toList.drop (sIx items.size 0 lo)).take (sIx items.size items.size hi - sIx items.size 0 lo)).toArray) := by
    show ((items.toList.drop (sIx items.size 0 lo)).take (sIx items.size items.size hi - sIx items.size 0 lo)).toArray.size ≤ sizeLine
    rw [List.size_toArray, List.length_take, List.length_drop, Array.length_toList]
    (first | lia | omega)
  have hj : sIx items.size items.size hi ≤ items.size := sIx_le _ _ (Nat.le_refl _) hi
  obtain ⟨os, hos, hcs, hds⟩ := id hs
  have hTs : s.TypeIs (.ref sl) "slice" := ⟨os, hos, hcs⟩
  unfold getItem
  try with_reducible refine wpAny_holding ?_
  first | refine wpAny_bind (wpAny_pure ?_) | skip
  refine wpAny_bind (wpAny_sequenceKey ht.typeIs (by decide) ?_)
  refine wpAny_bind (wpAny_callSpecial?_slot (name := Str.ofString "__getitem__") ht.typeIs PyProof.Rows.slot_tuple_getitem
    (wpAny_call_entry PyProof.Rows.slot_tuple_getitem ht.typeIs entry_tuple_getitem ?_ (args_tuple_getitem _ _)))
  show wpAny _ _ (Builtin.Tuple.tupleItemsOf (.ref t) >>= _) _ _ s
  refine wpAny_bind (tupleItemsOf_ ht ?_)
  refine wpAny_bind (wpAny_typeOf hTs ?_)
  rw [if_pos (by decide)]
  refine wpAny_bind (sliceApplied_gen hs pl pu ?_)
  have hno : ¬ ((((sIx items.size 0 lo : Nat) : Int) == 0 && (1 : Int) == 1 && (sIx items.size items.size hi - sIx items.size 0 lo) == items.size) = true) := by
    intro q
    rw [Bool.and_eq_true, Bool.and_eq_true] at q
    have q1 : ((sIx items.size 0 lo : Nat) : Int) = 0 := eq_of_beq q.1.1
    have q2 : sIx items.size items.size hi - sIx items.size 0 lo = items.size := eq_of_beq q.2
    exact hw ⟨by (first | lia | omega), by (first | lia | omega)⟩
  show wpAny _ _ (if (((sIx items.size 0 lo : Nat) : Int) == 0 && (1 : Int) == 1 && (sIx items.size items.size hi - sIx items.size 0 lo) == items.size) = true then _ else _) _ _ s
  rw [if_neg hno, pick_gen]
  first
    | exact wpAny_bind (m := Builtin.Tuple.tupleExact _) (wpAny_newObj_type (wpAny_pure ⟨_, rfl, wpAny_pure h⟩) htake)
    | exact wpAny_bind (m := Builtin.Tuple.tupleExact _) (wpAny_newObj_type (wpAny_bind (wpAny_pure (wpAny_pure ⟨_, rfl, wpAny_pure h⟩))) htake)
    | exact wpAny_bind (wpAny_bind (m := Builtin.Tuple.tupleExact _) (wpAny_newObj_type (wpAny_pure (wpAny_pure ⟨_, rfl, wpAny_pure h⟩)) htake))
    | exact wpAny_bind (wpAny_bind (m := Builtin.Tuple.tupleExact _) (wpAny_newObj_type (wpAny_pure ⟨_, rfl, wpAny_pure h⟩) htake))
end
end HT

namespace L2
open PySem PySem.Spec PyProof.Rows

abbrev TO := St → Hp → (Option Int → Hp → Prop) → Prop
def PO (X : Cx) (e : Option Expr) (t : TO) : Prop :=
  ∀ (pins : List (Addr × Obj)) (s : Shared) (σ : St) (H : Hp) (Q : Option Int → Hp → Prop), Inv X pins σ H s → t σ H Q →
    wpAny (model X.prog X.w) X.A (evalPart e X.env) (fun u s' => ∃ o H', Inv X pins σ H' s' ∧ IsPart u o ∧ Q o H') X.xe s
def tNoPart : TO := fun _ H Q => Q none H
def tPart (t : TE) : TO := fun σ H Q => t σ H fun x H1 => ∃ i, x = .int i ∧ Q (some i) H1

section
variable {X : Cx} {e : Expr} {te : TE} {lo hi : Option Expr} {tl th : TO} {pos p2 : Pos}

theorem po_none : PO X none tNoPart := by
  intro pins s σ H Q I h
  rw [evalPart_none]
  exact wpAny_pure ⟨none, H, I, .none, h⟩
theorem po_some (h : PE X e te) : PO X (some e) (tPart te) := by
  intro pins s σ H Q I hw
  rw [evalPart_some]
  refine thn (h pins s σ H _ I hw) fun u s1 ⟨x, H1, I1, r1, q1⟩ => ?_
  obtain ⟨i, rfl, q⟩ := q1
  obtain ⟨t, rfl⟩ := r1
  exact ⟨some i, H1, I1, .int i t, q⟩

def SlR (X : Cx) (r : V → Option Int → Option Int → Hp → VK → Prop) : Prop :=
  ∀ (pins : List (Addr × Obj)) (s : Shared) (σ : St) (H : Hp) (x : V) (v vl vu : Value) (lo hi : Option Int) (sl : Addr) (Q : VK), Inv X pins σ H s → RelV x v → s.heap.IsSliceOf sl vl vu .none → IsPart vl lo → IsPart vu hi → r x lo hi H Q →
    ∃ T id, typeLookup (.type T) "__getitem__" = pure (some (.builtin id)) ∧ s.TypeIs v T ∧ wpAny (model X.prog X.w) X.A (getItem v (.ref sl)) (EP X pins σ Q) X.xe s
def tSl (r : V → Option Int → Option Int → Hp → VK → Prop) (te : TE) (tl th : TO) : TE := fun σ H Q => te σ H fun x H1 => tl σ H1 fun l H2 => th σ H2 fun u H3 => r x l u H3 Q
theorem pe_slice {r : V → Option Int → Option Int → Hp → VK → Prop} (hr : SlR X r) (he : PE X e te) (hl : PO X lo tl) (hu : PO X hi th) : PE X (.Subscript e (.Slice lo hi none p2) pos) (tSl r te tl th) := by
  intro pins s σ H Q I h
  refine Subscript_ (thn (he pins s σ H _ I h) fun v s1 ⟨x, H1, I1, r1, q1⟩ => ?_)
  refine wpAny_Slice (thn (hl pins s1 σ H1 _ I1 q1) fun vl s2 ⟨l, H2, I2, pl, q2⟩ => thn (hu pins s2 σ H2 _ I2 q2) fun vu s3 ⟨u, H3, I3, pu, q3⟩ => ?_)
  rw [evalPart_none]
  refine wpAny_pure ?_
  have I4 : Inv X pins σ H3 { s3 with heap := s3.heap.push { cls := .type "slice", data := .fields #[vl, vu, .none] } } := I3.kept (t' := s3.toks) fun b ob q => Heap.get?_push_of_some _ q
  obtain ⟨T, id, hT, ht, hg⟩ := hr pins { s3 with heap := s3.heap.push { cls := .type "slice", data := .fields #[vl, vu, .none] } } σ H3 x v vl vu l u s3.heap.objs.size Q I4 r1 (Heap.IsSliceOf.new ..) pl pu q3
  show wpAny (model X.prog X.w) X.A (subscriptTail e (.Slice lo hi none p2) v (.ref s3.heap.objs.size)) (EP X pins σ Q) X.xe { s3 with heap := s3.heap.push { cls := .type "slice", data := .fields #[vl, vu, .none] } }
  exact tail_any (ops := [.ref s3.heap.objs.size, v]) ht hT hg (by with_unfolding_all rfl)

def cutV (xs : List V) (lo hi : Option Int) : List V := (xs.drop (HT.sIx xs.length 0 lo)).take (HT.sIx xs.length xs.length hi - HT.sIx xs.length 0 lo)
theorem cutV_length (xs : List V) (lo hi : Option Int) : (cutV xs lo hi).length ≤ xs.length := by
  unfold cutV
  rw [List.length_take, List.length_drop]
  (first | lia | omega)
end
end L2

namespace L2
open PySem PySem.Spec PyProof.Rows

def ixN (n : Nat) (i : Int) : Option Nat := if 0 ≤ i then (if i < n then some i.toNat else none) else if -(n : Int) ≤ i then some (i + n).toNat else none
def atI {α : Type} (xs : List α) (i : Int) : Option α := (ixN xs.length i).bind fun j => xs[j]?
theorem ixN_seq {n : Nat} {i : Int} {j : Nat} (h : ixN n i = some j) : seqIndex? i n = some j ∧ j < n ∧ -(n : Int) ≤ i ∧ i < n := by
  unfold ixN at h
  by_cases h0 : 0 ≤ i
  · rw [if_pos h0] at h
    by_cases h1 : i < n
    · rw [if_pos h1] at h
      have e : i.toNat = j := Option.some.inj h
      exact ⟨by rw [seqIndex_of h0 h1, e], by (first | lia | omega), by (first | lia | omega), h1⟩
    · rw [if_neg h1] at h; cases h
  · rw [if_neg h0] at h
    by_cases h1 : -(n : Int) ≤ i
    · rw [if_pos h1] at h
      have e : (i + n).toNat = j := Option.some.inj h
      exact ⟨by rw [seqIndex_neg (by (first | lia | omega)) h1, e], by (first | lia | omega), h1, by (first | lia | omega)⟩
    · rw [if_neg h1] at h; cases h
theorem atI_get {α : Type} {xs : List α} {i : Int} {v : α} (h : atI xs i = some v) : ∃ j, seqIndex? i xs.length = some j ∧ xs[j]? = some v ∧ j < xs.length ∧ -(xs.length : Int) ≤ i ∧ i < xs.length := by
  unfold atI at h
  cases e : ixN xs.length i with
  | none => rw [e] at h; cases h
  | some j =>
    rw [e] at h
    obtain ⟨h1, h2, h3, h4⟩ := ixN_seq e
    exact ⟨j, h1, h, h2, h3, h4⟩
theorem atI_nat {α : Type} {xs : List α} {j : Nat} {v : α} (h : xs[j]? = some v) : atI xs (j : Int) = some v := by
  have hj : j < xs.length := (List.getElem?_eq_some_iff.mp h).1
  have e : ixN xs.length (j : Int) = some j := by
    unfold ixN
    rw [if_pos (by (first | lia | omega)), if_pos (by (first | lia | omega))]; simp
  unfold atI; rw [e]; exact h
def PlainIx (b : Expr) : Prop := ∀ o i, subscripted b false o i = operate [o, i] (getItem o i)
def IxR (X : Cx) (r : R2) : Prop :=
  ∀ (value slice : Expr) (pins : List (Addr × Obj)) (s : Shared) (σ : St) (H : Hp) (x y : V) (v u : Value) (Q : VK), Inv X pins σ H s → RelV x v → RelV y u → r x y H Q →
    subscripted slice false v u = operate [v, u] (getItem v u) → wpAny (model X.prog X.w) X.A (subscriptTail value slice v u) (EP X pins σ Q) X.xe s
def MtR (X : Cx) (id : String) (r : V → List V → Hp → VK → Prop) : Prop :=
  ∀ (pins : List (Addr × Obj)) (s : Shared) (σ : St) (H : Hp) (x : V) (xs : List V) (v : Value) (us : List Value) (Q : VK), Inv X pins σ H s → RelV x v → Vals xs us → r x xs H Q →
    wpAny (model X.prog X.w) X.A (call (.builtin id) (v :: us)) (EP X pins σ Q) X.xe s
section
variable {X : Cx} {a b : Expr} {ta tb : TE} {pos : Pos}
theorem pe_ix {r : R2} (hr : IxR X r) (ha : PE X a ta) (hb : PE X b tb) (hs : PlainIx b) : PE X (.Subscript a b pos) (tOp r ta tb) := by
  intro pins s σ H Q I h
  exact Subscript_ (binT ha hb I h fun v u s2 x y H2 I2 rx ry q => hr a b pins s2 σ H2 x y v u Q I2 rx ry q (hs _ _))

def rIxL (K : PySem.W.Frag) : R2 := fun x y H Q => ∃ p xs i v, x = .ref p ∧ y = .int i ∧ SqL K H p xs ∧ atI xs i = some v ∧ Q v H
def rIxT (K : PySem.W.Frag) : R2 := fun x y H Q => ∃ p xs i v, x = .ref p ∧ y = .int i ∧ SqT K H p xs ∧ atI xs i = some v ∧ Q v H
theorem ix_list : IxR X (rIxL X.K) := by
  intro value slice pins s σ H x y v u Q I rx ry h hs
  obtain ⟨p, xs, i, z, rfl, rfl, hq, he, q⟩ := h
  cases rx
  obtain ⟨t, rfl⟩ := ry
  obtain ⟨its, r, pl, hz⟩ := I.list hq
  obtain ⟨j, h1, h2, h3, h4, h5⟩ := atI_get he
  obtain ⟨w, ew, rw'⟩ := r.get h2
  have hl := r.length
  have hn := line63
  have fin : EP X pins σ Q w s := ⟨z, H, I, rw', q⟩
  by_cases h0 : 0 ≤ i
  · have hj : i.toNat = j := by
      rw [seqIndex_of h0 h5] at h1
      exact Option.some.inj h1
    exact item_listR pl.isList h0 (by (first | lia | omega)) (by rw [hj]; simpa using ew) fin hs
  · have hj : (i + (its.toArray.size : Int)).toNat = j := by
      rw [seqIndex_neg (by (first | lia | omega)) h4] at h1
      rw [List.size_toArray, ← hl]
      exact Option.some.inj h1
    exact subscriptTail_builtinR (x := w) pl.isList.typeIs slot_list_getitem.lookup
      (wpAny_getItem_list_neg (Q := fun r s' => r = w ∧ EP X pins σ Q r s') pl.isList (by (first | lia | omega)) (by rw [List.size_toArray] <;> (first | lia | omega)) (by (first | lia | omega)) (by rw [hj]; simpa using ew) ⟨rfl, fin⟩) hs
theorem ix_tup : IxR X (rIxT X.K) := by
  intro value slice pins s σ H x y v u Q I rx ry h hs
  obtain ⟨p, xs, i, z, rfl, rfl, hq, he, q⟩ := h
  cases rx
  obtain ⟨t, rfl⟩ := ry
  obtain ⟨its, r, pl, hz⟩ := I.tuple hq
  obtain ⟨j, h1, h2, h3, h4, h5⟩ := atI_get he
  obtain ⟨w, ew, rw'⟩ := r.get h2
  have hl := r.length
  have hn := line63
  have fin : EP X pins σ Q w s := ⟨z, H, I, rw', q⟩
  exact subscriptTail_builtinR (x := w) pl.typeIs slot_tuple_getitem.lookup
    (getItem_tuple (j := j) (Q := fun r s' => r = w ∧ EP X pins σ Q r s') pl (by (first | lia | omega)) (by (first | lia | omega)) (by rw [List.size_toArray, ← hl]; exact h1) (by simpa using ew) ⟨rfl, fin⟩) hs
theorem mapSeq_set (its : List Value) (n j : Nat) (u : Value) : Obj.mapSeq (·.setIfInBounds j u) { cls := .type "list", data := .seq its.toArray n } = { cls := .type "list", data := .seq (its.set j u).toArray n } := by
  simp [Obj.mapSeq]
theorem Inv.lst {pins : List (Addr × Obj)} {σ : St} {H : Hp} {s : Shared} {p : Addr} {xs : List V} (I : Inv X pins σ H s) (h : H p = some (.lst xs)) :
    ∃ (its : List Value) (n : Nat), Vals xs its ∧ s.heap.get? p = some { cls := .type "list", data := .seq its.toArray n } ∧ xs.length ≤ sizeLine := by
  obtain ⟨z, its, n, r, e⟩ := I.hok p _ h
  exact ⟨its, n, r, e, z⟩
theorem Inv.lstUpd {pins : List (Addr × Obj)} {σ : St} {H : Hp} {s : Shared} {p : Addr} {xs ys : List V} {its its' : List Value} {n n' : Nat} {f : Obj → Obj} (I : Inv X pins σ H s) (h : H p = some (.lst xs))
    (ho : s.heap.get? p = some { cls := .type "list", data := .seq its.toArray n }) (hf : f { cls := .type "list", data := .seq its.toArray n } = { cls := .type "list", data := .seq its'.toArray n' }) (r : Vals ys its') (hz : ys.length ≤ sizeLine) (t : Nat) :
    Inv X pins σ (upd H p (.lst ys)) { s with heap := s.heap.update p f, toks := t } := by
  have e : (s.heap.update p f).get? p = some { cls := .type "list", data := .seq its'.toArray n' } := by
    rw [Heap.get?_update_self f ho (by rw [hf] <;> rfl), hf]
  refine I.write (x := p) (e := p) (by rw [h]; trivial) (.inl rfl) (fun b u hb q => (Heap.get?_update_other _ _ (Ne.symm hb)).trans q) ⟨_, e⟩ ?_
  exact ⟨hz, its', n', r, e⟩
def rSetL : V → V → V → Hp → (Hp → Prop) → Prop := fun o i v H Q => ∃ p xs k j, o = .ref p ∧ i = .int k ∧ H p = some (.lst xs) ∧ ixN xs.length k = some j ∧ Q (upd H p (.lst (xs.set j v)))
theorem set_list : PSet X rSetL := by
  intro pins s σ H o i v ov iv u Q I ro ri rv h
  obtain ⟨p, xs, k, j, rfl, rfl, hp, hj, q⟩ := h
  cases ro
  obtain ⟨t, rfl⟩ := ri
  obtain ⟨its, n, r, ho, hz⟩ := I.lst hp
  obtain ⟨h1, h2, h3, h4⟩ := ixN_seq hj
  have hl := r.length
  have hn := line63
  have I' : Inv X pins σ (upd H p (.lst (xs.set j v))) { s with heap := s.heap.update p (Obj.mapSeq (·.setIfInBounds j u)) } :=
    I.lstUpd hp ho (mapSeq_set its n j u) (r.set rv j) (by rw [List.length_set]; exact hz) s.toks
  by_cases h0 : 0 ≤ k
  · have hk : k.toNat = j := by
      rw [seqIndex_of h0 h4] at h1
      exact Option.some.inj h1
    exact PySem.W.ki_setAt ho h0 (by (first | lia | omega)) (by rw [List.size_toArray, ← hl]; exact h4) (by rw [hk]; exact ⟨_, I', q⟩)
  · have hk : (k + (its.toArray.size : Int)).toNat = j := by
      rw [seqIndex_neg (by (first | lia | omega)) h3] at h1
      rw [List.size_toArray, ← hl]
      exact Option.some.inj h1
    exact PySem.W.ki_setBack ho (by (first | lia | omega)) (by rw [List.size_toArray, ← hl]; exact h3) (by (first | lia | omega)) (by rw [hk]; exact ⟨_, I', q⟩)

theorem slice_bounds (lo hi : Option Int) (n : Nat) : (sliceBounds lo hi none n).1 = ((HT.sIx n 0 lo : Nat) : Int) ∧ (sliceBounds lo hi none n).2.1 = ((HT.sIx n n hi : Nat) : Int) ∧ (sliceBounds lo hi none n).2.2 = 1 := by
  refine ⟨?_, ?_, rfl⟩
  · cases lo with
    | none => simp [sliceBounds, HT.sIx]
    | some i =>
      simp only [sliceBounds, HT.sIx, Option.getD_none, show (1 : Int) > 0 by decide, if_true]
      by_cases h : i < 0
      · simp only [h, if_true] <;> (first | lia | omega)
      · simp only [h, if_false] <;> (first | lia | omega)
  · cases hi with
    | none => simp [sliceBounds, HT.sIx]
    | some i =>
      simp only [sliceBounds, HT.sIx, Option.getD_none, show (1 : Int) > 0 by decide, if_true]
      by_cases h : i < 0
      · simp only [h, if_true] <;> (first | lia | omega)
      · simp only [h, if_false] <;> (first | lia | omega)
theorem slicePick_cut (its : List Value) (lo hi : Option Int) : slicePick its.toArray lo hi none = ((its.drop (HT.sIx its.length 0 lo)).take (HT.sIx its.length its.length hi - HT.sIx its.length 0 lo)).toArray := by
  obtain ⟨h1, h2, h3⟩ := slice_bounds lo hi its.toArray.size
  unfold slicePick
  rw [h1, h2, h3]
  simp only [sliceRange_one, pick_run, List.size_toArray] <;> rfl
def rSlL (K : PySem.W.Frag) : V → Option Int → Option Int → Hp → VK → Prop := fun x lo hi H Q => ∃ a xs, x = .ref a ∧ SqL K H a xs ∧ ∀ p, H p = none → Q (.ref p) (upd H p (.lst (cutV xs lo hi)))
theorem sl_list : SlR X (rSlL X.K) := by
  intro pins s σ H x v vl vu lo hi sl Q I rx hs pl pu h
  obtain ⟨a, xs, rfl, hx, q⟩ := h
  cases rx
  obtain ⟨its, r, ht, hz⟩ := I.list hx
  have hlen := r.length
  refine ⟨"list", _, slot_list_getitem.lookup, ht.isList.typeIs, ?_⟩
  refine wpAny_getItem_list_slice ht.isList hs pl pu .none (by simp) ?_ (by rw [List.size_toArray] <;> (first | lia | omega))
  rw [slicePick_cut, ← hlen]
  refine ⟨.ref s.heap.objs.size, _, I.laid (t' := s.toks) (o := .lst (cutV xs lo hi)) (fun b ob q => Heap.get?_push_of_some _ q) (Nat.le_refl _) ?_, rfl, q _ (I.hok.fresh (Nat.le_refl _))⟩
  exact ⟨Nat.le_trans (cutV_length xs lo hi) hz, _, 0, (r.drop (HT.sIx xs.length 0 lo)).take (HT.sIx xs.length xs.length hi - HT.sIx xs.length 0 lo), Heap.get?_push_size _ rfl⟩

def flatV : V → Bool
  | .non => true
  | .bl _ => true
  | .int _ => true
  | .str _ => true
  | _ => false
def eqV : V → V → Bool
  | .non, .non => true
  | .bl a, .bl b => a == b
  | .bl a, .int b => (if a then 1 else 0) == b
  | .int a, .bl b => a == (if b then 1 else 0)
  | .int a, .int b => a == b
  | .str a, .str b => a == b
  | _, _ => false
theorem eqAt_V {A : Around} {s : Shared} {y x : V} {u v : Value} (ry : RelV y u) (rx : RelV x v) (fy : flatV y = true) (fx : flatV x = true) : SeqAt.EqAt A s u v (eqV y x) := by
  cases y with
  | non =>
    cases ry
    cases x with
    | non => cases rx; exact SeqAt.EqAt.same _
    | bl b => cases rx; exact SeqAt.EqAt.none_bool b
    | int b => obtain ⟨t, rfl⟩ := rx; exact SeqAt.EqAt.none_int b t
    | str b => obtain ⟨t, rfl⟩ := rx; exact SeqAt.EqAt.none_str b t
    | _ => exact absurd (show false = true from fx) Bool.false_ne_true
  | bl a =>
    cases ry
    cases x with
    | non => cases rx; exact SeqAt.EqAt.bool_none a
    | bl b => cases rx; exact SeqAt.EqAt.bool_bool a b
    | int b => obtain ⟨t, rfl⟩ := rx; exact SeqAt.EqAt.bool_int a b t
    | str b => obtain ⟨t, rfl⟩ := rx; exact SeqAt.EqAt.bool_str a b t
    | _ => exact absurd (show false = true from fx) Bool.false_ne_true
  | int a =>
    obtain ⟨t', rfl⟩ := ry
    cases x with
    | non => cases rx; exact SeqAt.EqAt.int_none a t'
    | bl b => cases rx; exact SeqAt.EqAt.int_bool a t' b
    | int b => obtain ⟨t, rfl⟩ := rx; exact SeqAt.EqAt.int_int a t' b t
    | str b => obtain ⟨t, rfl⟩ := rx; exact SeqAt.EqAt.int_str a t' b t
    | _ => exact absurd (show false = true from fx) Bool.false_ne_true
  | str a =>
    obtain ⟨t', rfl⟩ := ry
    cases x with
    | non => cases rx; exact SeqAt.EqAt.str_none a t'
    | bl b => cases rx; exact SeqAt.EqAt.str_bool a t' b
    | int b => obtain ⟨t, rfl⟩ := rx; exact SeqAt.EqAt.str_int a t' b t
    | str b => obtain ⟨t, rfl⟩ := rx; exact SeqAt.EqAt.str_str a t' b t
    | _ => exact absurd (show false = true from fx) Bool.false_ne_true
  | _ => exact absurd (show false = true from fy) Bool.false_ne_true
def eqU (x : V) (u : Value) : Bool := match u with
  | .none => eqV .non x
  | .bool b => eqV (.bl b) x
  | .int i _ => eqV (.int i) x
  | .str z _ => eqV (.str z) x
  | _ => false
theorem eqU_of {x y : V} {u : Value} (r : RelV y u) (f : flatV y = true) : eqU x u = eqV y x := by
  cases y with
  | non => cases r; rfl
  | bl b => cases r; rfl
  | int i => obtain ⟨t, rfl⟩ := r; rfl
  | str z => obtain ⟨t, rfl⟩ := r; rfl
  | _ => exact absurd (show false = true from f) Bool.false_ne_true
theorem any_eqU {x : V} : ∀ {xs : List V} {us : List Value}, Vals xs us → xs.all flatV = true → us.any (eqU x) = xs.any fun y => eqV y x
  | _, _, .nil, _ => rfl
  | y :: xs, u :: us, .cons r t, f => by
    rw [List.all_cons, Bool.and_eq_true] at f
    rw [List.any_cons, List.any_cons, eqU_of r f.1, any_eqU t f.2]
theorem mem_eqAt {A : Around} {s : Shared} {x : V} {v : Value} (rx : RelV x v) (fx : flatV x = true) : ∀ {xs : List V} {us : List Value}, Vals xs us → xs.all flatV = true → ∀ u ∈ us, SeqAt.EqAt A s u v (eqU x u)
  | _, _, .nil, _ => fun u hu => by cases hu
  | y :: xs, u :: us, .cons r t, f => fun u' hu => by
    rw [List.all_cons, Bool.and_eq_true] at f
    rcases List.mem_cons.mp hu with rfl | hu
    · rw [eqU_of r f.1]; exact eqAt_V r rx f.1 fx
    · exact mem_eqAt rx fx t f.2 u' hu
def inV (x : V) (xs : List V) : Bool := xs.any fun y => eqV y x
def rIn (K : PySem.W.Frag) (neg : Bool) : R2 := fun x y H Q => ∃ p xs, y = .ref p ∧ (SqL K H p xs ∨ SqT K H p xs) ∧ flatV x = true ∧ xs.all flatV = true ∧ Q (.bl (if neg then !inV x xs else inV x xs)) H
theorem op_in_seq : OpR X (compareOp .In) (rIn X.K false) := by
  intro pins s σ H x y v u Q I rx ry h
  obtain ⟨p, xs, rfl, hq, fx, fs, q⟩ := h
  cases ry
  rcases hq with hq | hq
  · obtain ⟨its, r, pl, hz⟩ := I.list hq
    refine SeqAt.in_listAt (eqU x) pl.isList (fun w hw => mem_eqAt rx fx r fs w (by simpa using hw)) ⟨.bl _, H, I, rfl, ?_⟩
    rw [show its.toArray.any (eqU x) = its.any (eqU x) by simp, any_eqU r fs]
    exact q
  · obtain ⟨its, r, pl, hz⟩ := I.tuple hq
    refine SeqAt.in_tupleAt (eqU x) pl (fun w hw => mem_eqAt rx fx r fs w (by simpa using hw)) ⟨.bl _, H, I, rfl, ?_⟩
    rw [show its.toArray.any (eqU x) = its.any (eqU x) by simp, any_eqU r fs]
    exact q
theorem op_notIn_seq : OpR X (compareOp .NotIn) (rIn X.K true) := by
  intro pins s σ H x y v u Q I rx ry h
  obtain ⟨p, xs, rfl, hq, fx, fs, q⟩ := h
  cases ry
  rcases hq with hq | hq
  · obtain ⟨its, r, pl, hz⟩ := I.list hq
    refine SeqAt.notIn_listAt (eqU x) pl.isList (fun w hw => mem_eqAt rx fx r fs w (by simpa using hw)) ⟨.bl _, H, I, rfl, ?_⟩
    rw [show its.toArray.any (eqU x) = its.any (eqU x) by simp, any_eqU r fs]
    exact q
  · obtain ⟨its, r, pl, hz⟩ := I.tuple hq
    refine SeqAt.notIn_tupleAt (eqU x) pl (fun w hw => mem_eqAt rx fx r fs w (by simpa using hw)) ⟨.bl _, H, I, rfl, ?_⟩
    rw [show its.toArray.any (eqU x) = its.any (eqU x) by simp, any_eqU r fs]
    exact q
theorem call_len_seq : CallR X (.builtin "len") (fun xs H Q => ∃ p ys, xs = [.ref p] ∧ (SqL X.K H p ys ∨ SqT X.K H p ys) ∧ Q (.int ys.length) H) := by
  intro pins s σ H xs us Q I r h
  obtain ⟨p, ys, rfl, hq, q⟩ := h
  obtain ⟨u, rfl, rx⟩ := vals1 r
  cases rx
  have hn := line63
  rcases hq with hq | hq
  · obtain ⟨its, r', pl, hz⟩ := I.list hq
    have hlen := r'.length
    exact Calls.call_len_list pl.isList (by simp only [List.size_toArray] <;> (first | lia | omega)) ⟨.int ys.length, H, I.tok _, ⟨s.toks + 1, by rw [List.size_toArray, hlen]⟩, q⟩
  · obtain ⟨its, r', pl, hz⟩ := I.tuple hq
    have hlen := r'.length
    exact len_tuple pl (by simp only [List.size_toArray] <;> (first | lia | omega)) ⟨.int ys.length, H, I.tok _, ⟨s.toks + 1, by rw [List.size_toArray, hlen]⟩, q⟩
theorem call_list_of : CallR X (.type "list") (fun xs H Q => ∃ p ys, xs = [.ref p] ∧ (SqL X.K H p ys ∨ SqT X.K H p ys) ∧ ∀ l, H l = none → Q (.ref l) (upd H l (.lst ys))) := by
  intro pins s σ H xs us Q I r h
  obtain ⟨p, ys, rfl, hq, q⟩ := h
  obtain ⟨u, rfl, rx⟩ := vals1 r
  cases rx
  have fin : ∀ (its : List Value), Vals ys its → ys.length ≤ sizeLine → ∀ (h' : Heap) (c' : Nat), (∀ b o', s.heap.get? b = some o' → h'.get? b = some o') →
      h'.get? s.heap.objs.size = some { cls := .type "list", dict := none, data := .seq its.toArray c', slots := #[] } → EP X pins σ Q (.ref s.heap.objs.size) { s with heap := h' } := fun its r' hz h' c' kp e =>
    ⟨.ref s.heap.objs.size, _, I.laid (t' := s.toks) kp (Nat.le_refl _) (show ObjOk X.prog X.w _ h' _ (.lst ys) from ⟨hz, its, c', r', e⟩), rfl, q _ (I.hok.fresh (Nat.le_refl _))⟩
  rcases hq with hq | hq
  · obtain ⟨its, r', pl, hz⟩ := I.list hq
    have hlen := r'.length
    obtain ⟨o, ho, hc, n, hd⟩ := pl.isList
    exact call_list_seq p (.inl rfl) ho hc hd (fun h' c' kp e => fin its r' hz h' c' kp e) (by simp only [List.size_toArray] <;> (first | lia | omega))
  · obtain ⟨its, r', pl, hz⟩ := I.tuple hq
    have hlen := r'.length
    obtain ⟨o, ho, hc, n, hd⟩ := pl
    exact call_list_seq p (.inr rfl) ho hc hd (fun h' c' kp e => fin its r' hz h' c' kp e) (by simp only [List.size_toArray] <;> (first | lia | omega))
theorem call_tuple_of : CallR X (.type "tuple") (fun xs H Q => ∃ p ys, xs = [.ref p] ∧ ((SqL X.K H p ys ∧ ∀ l, H l = none → Q (.ref l) (upd H l (.tup ys))) ∨ (SqT X.K H p ys ∧ Q (.ref p) H))) := by
  intro pins s σ H xs us Q I r h
  obtain ⟨p, ys, rfl, h⟩ := h
  obtain ⟨u, rfl, rx⟩ := vals1 r
  cases rx
  rcases h with ⟨hq, q⟩ | ⟨hq, q⟩
  · obtain ⟨its, r', pl, hz⟩ := I.list hq
    have hlen := r'.length
    refine call_tuple_list pl.isList (fun h' kp => ?_) (by simp only [List.size_toArray] <;> (first | lia | omega))
    have I1 : Inv X pins σ H { s with heap := h' } := I.kept (t' := s.toks) kp
    have I2 : Inv X pins σ (upd H h'.objs.size (.tup ys)) { s with heap := h'.push { cls := .type "tuple", data := .seq its.toArray } } :=
      I1.laid (t' := s.toks) (fun b o e => Heap.get?_push_of_some _ e) (Nat.le_refl _) (show ObjOk X.prog X.w _ _ _ (.tup ys) from ⟨hz, its, r', IsTup.new _ _⟩)
    exact ⟨.ref h'.objs.size, _, I2, rfl, q _ (I1.hok.fresh (Nat.le_refl _))⟩
  · obtain ⟨its, r', pl, hz⟩ := I.tuple hq
    exact call_tuple_same pl ⟨.ref p, H, I, rfl, q⟩

def tyV (K : PySem.W.Frag) (T : String) (x : V) (H : Hp) : Prop := match x with
  | .str _ => T = "str"
  | .int _ => T = "int"
  | .ref p => (T = "list" ∧ ∃ xs, SqL K H p xs) ∨ (T = "tuple" ∧ ∃ o, K.lookup p = some o ∧ o.cls = .type "tuple" ∧ o.dict = none) ∨
      (T = "dict" ∧ ((∃ kvs, H p = some (.dK kvs)) ∨ ∃ kvs, H p = some (.dT kvs))) ∨ (T = "set" ∧ ∃ S n, H p = some (.set S n))
  | _ => False
theorem tyV_is {pins : List (Addr × Obj)} {σ : St} {H : Hp} {s : Shared} {T : String} {x : V} {v : Value} (I : Inv X pins σ H s) (r : RelV x v) (ty : tyV X.K T x H) :
    s.TypeIs v T ∧ ∀ a, v = .ref a → ∃ ob, s.heap.get? a = some ob ∧ ob.dict = none := by
  cases x with
  | str z =>
    obtain ⟨t, rfl⟩ := r
    cases (show T = "str" from ty)
    exact ⟨typeIs_str s z t, fun _ e => nomatch e⟩
  | int i =>
    obtain ⟨t, rfl⟩ := r
    cases (show T = "int" from ty)
    exact ⟨typeIs_int s i t, fun _ e => nomatch e⟩
  | ref p =>
    cases r
    rcases ty with ⟨rfl, xs, hq⟩ | ⟨rfl, o, hk, hc, hd⟩ | ⟨rfl, hk⟩ | ⟨rfl, S, n, hk⟩
    · obtain ⟨its, _, pl, _⟩ := I.list hq
      refine ⟨pl.isList.typeIs, fun a e => ?_⟩
      cases e
      obtain ⟨o, n, e, c, hd, _⟩ := pl
      exact ⟨o, e, hd⟩
    · refine ⟨⟨o, I.kIn p o hk, hc⟩, fun a e => ?_⟩
      cases e
      exact ⟨o, I.kIn _ o hk, hd⟩
    · have z : ∃ o, s.heap.get? p = some o ∧ o.ExactDict := by
        rcases hk with ⟨kvs, hk⟩ | ⟨kvs, hk⟩
        · obtain ⟨_, _, _, _, o, _, _, e, ex, _⟩ := I.hok p _ hk
          exact ⟨o, e, ex⟩
        · obtain ⟨_, _, _, _, o, _, _, e, ex, _⟩ := I.hok p _ hk
          exact ⟨o, e, ex⟩
      obtain ⟨o, e, ex⟩ := z
      refine ⟨⟨o, e, ex.1⟩, fun a e2 => ?_⟩
      cases e2
      exact ⟨o, e, ex.2.1⟩
    · obtain ⟨o, _, _, _, e, ex, _⟩ := I.hok p _ hk
      refine ⟨⟨o, e, ex.1⟩, fun a e2 => ?_⟩
      cases e2
      exact ⟨o, e, ex.2.1⟩
  | _ => exact False.elim ty
def tBM0 (K : PySem.W.Frag) (T : String) (r : V → List V → Hp → VK → Prop) (to : TE) : TE := fun σ H Q => to σ H fun x H1 => tyV K T x H1 ∧ r x [] H1 Q
def tBM (K : PySem.W.Frag) (T : String) (r : V → List V → Hp → VK → Prop) (to : TE) (t : TA) : TE := fun σ H Q => to σ H fun x H1 => tyV K T x H1 ∧ t σ H1 fun xs H2 => r x xs H2 Q
variable {o e : Expr} {es : List Expr} {to : TE} {t : TA} {name : Str} {apos cpos : Pos} {T id : String} {r : V → List V → Hp → VK → Prop}
theorem pe_bm0 (pa : PlainAttrs T) (slot : Slot T name id) (hty : typeOf (.builtin id) = pure (.type "method_descriptor")) (hm : MtR X id r) (ho : PE X o to)
    (hbase : attributeBase o name X.env (eval o X.env) = eval o X.env := by rfl) (hline : (apos.endLine == cpos.line) = true := by rfl) : PE X (.Call (.Attribute o name apos) [] [] cpos) (tBM0 X.K T r to) := by
  intro pins s σ H Q I h
  refine wpAny_Call_method0_late hbase hline (thn (ho pins s σ H _ I h) fun v s1 ⟨x, H1, I1, r1, ty, q1⟩ => ?_)
  obtain ⟨h1, h2⟩ := tyV_is I1 r1 ty
  exact ⟨T, id, pa, slot, hty, h1, h2, Calls.callWith_builtin rfl (PySem.evalArgs_none (hm pins s1 σ H1 x [] v [] Q I1 r1 .nil q1))⟩
theorem pe_bm (pa : PlainAttrs T) (slot : Slot T name id) (hty : typeOf (.builtin id) = pure (.type "method_descriptor")) (hm : MtR X id r) (ho : PE X o to) (ha : PA X (e :: es) t)
    (hbase : attributeBase o name X.env (eval o X.env) = eval o X.env := by rfl)
    (hfew : ((backTo cpos (starEach (e :: es) X.env)).all (fun x => !x.1) && (backToKw cpos (keywordEach [] X.env)).all (fun x => x.1.isSome)
      && decide ((e :: es).length + ([] : List Keyword).length + (if ([] : List Keyword).isEmpty then 0 else 1) < 30)) = true := by rfl)
    (hline : (apos.endLine == cpos.line) = true := by rfl) (hs : starEach (e :: es) X.env = (false, eval e X.env) :: starEach es X.env := by rfl) (hplain : (backTo cpos (starEach es X.env)).any (·.1) = false := by rfl) :
    PE X (.Call (.Attribute o name apos) (e :: es) [] cpos) (tBM X.K T r to t) := by
  intro pins s σ H Q I h
  refine wpAny_Call_method_late hbase hfew hline rfl (thn (ho pins s σ H _ I h) fun v s1 ⟨x, H1, I1, r1, ty, q1⟩ => ?_)
  obtain ⟨h1, h2⟩ := tyV_is I1 r1 ty
  refine ⟨T, id, pa, slot, hty, h1, h2, ?_⟩
  have hA := ha cpos pins s1 σ H1 _ I1 q1
  rw [hs] at hA ⊢
  refine Calls.callWith_builtin (by show (false || (backTo cpos (starEach es X.env)).any (·.1)) = false; rw [hplain] <;> rfl) (Calls.evalArgs_plain ?_)
  exact thn hA fun us s2 ⟨vs, H2, I2, r2, q2⟩ => hm pins s2 σ H2 x vs v us Q I2 r1 r2 q2
/- xs.append(e), list.index on a module's tuple .. are MtR facts of 06m -/
end
end L2

namespace L2
open PySem PySem.Spec PyProof.Rows

def MtM (X : Cx) (id : String) (r : V → List V → Hp → VK → Prop) : Prop :=
  ∀ (pins : List (Addr × Obj)) (s : Shared) (σ : St) (H : Hp) (x : V) (xs : List V) (v : Value) (us : List Value) (Q : VK), Inv X pins σ H s → RelV x v → Vals xs us → r x xs H Q →
    wpAny (model X.prog X.w) X.A (call (.builtin id) (v :: us)) (EP X pins σ Q) X.xe s

theorem Vals.one : ∀ {x : V} {us : List Value}, Vals [x] us → ∃ u, us = [u] ∧ RelV x u
  | _, _, .cons r .nil => ⟨_, rfl, r⟩
theorem Vals.rep {xs : List V} {us : List Value} (h : Vals xs us) : ∀ k : Nat, Vals (List.replicate k xs).flatten (List.replicate k us).flatten
  | 0 => .nil
  | k + 1 => by
    rw [List.replicate_succ, List.replicate_succ, List.flatten_cons, List.flatten_cons]
    exact Vals.append h (Vals.rep h k)
theorem foldl_rep (its : List Value) : ∀ (k : Nat) (acc : List Value),
    List.foldl (fun x1 x2 => x1 ++ x2) acc.toArray (List.replicate k its.toArray) = (acc ++ (List.replicate k its).flatten).toArray
  | 0, acc => by simp
  | k + 1, acc => by
    have e : acc.toArray ++ its.toArray = (acc ++ its).toArray := by simp
    have e2 : (acc ++ its) ++ (List.replicate k its).flatten = acc ++ (List.replicate (k + 1) its).flatten := by
      rw [List.replicate_succ, List.flatten_cons, List.append_assoc]
    rw [← e2, ← foldl_rep its k (acc ++ its), ← e, List.replicate_succ, List.foldl_cons]

section
variable {X : Cx} {pins : List (Addr × Obj)} {σ : St} {H : Hp} {s : Shared} {l b : Addr} {xs ys zs : List V}

theorem Inv.lset {its its' : List Value} {n : Nat} {f : Array Value → Array Value} {t' : Nat} (I : Inv X pins σ H s) (hH : H l = some (.lst xs))
    (e : s.heap.get? l = some { cls := .type "list", data := .seq its.toArray n }) (hf : f its.toArray = its'.toArray) (hv : Vals ys its') (hz : ys.length ≤ sizeLine) :
    Inv X pins σ (upd H l (.lst ys)) { s with heap := s.heap.update l (Obj.mapSeq f), toks := t' } := by
  have q := PySem.IsL.update e f
  rw [hf] at q
  refine I.write (x := l) (e := l) (by rw [hH]; exact trivial) (.inl rfl) (fun b' u hb hu => (Heap.get?_update_other s.heap (Obj.mapSeq f) (Ne.symm hb)).trans hu) ⟨_, q⟩ ?_
  exact ⟨hz, its', _, hv, q⟩
theorem Inv.lnew {its : List Value} {t' : Nat} (I : Inv X pins σ H s) (hv : Vals ys its) (hz : ys.length ≤ sizeLine) :
    Inv X pins σ (upd H s.heap.objs.size (.lst ys)) { s with heap := s.heap.push { cls := .type "list", data := .seq its.toArray }, toks := t' } :=
  I.laid (fun _ _ q => Heap.get?_push_of_some _ q) (Nat.le_refl _) ⟨hz, its, 0, hv, Heap.get?_push_size _ rfl⟩
theorem Inv.fresh (I : Inv X pins σ H s) : H s.heap.objs.size = none := I.hok.fresh (Nat.le_refl _)
theorem Inv.lstM (I : Inv X pins σ H s) (hH : H l = some (.lst xs)) : xs.length ≤ sizeLine ∧ ∃ (its : List Value) (n : Nat), Vals xs its ∧ xs.length = its.length ∧ s.heap.get? l = some { cls := .type "list", data := .seq its.toArray n } := by
  obtain ⟨z, its, n, r, e⟩ := I.hok l _ hH
  exact ⟨z, its, n, r, r.length, e⟩

theorem notLongL {n : Nat} (h : n ≤ sizeLine) : Builtin.List.listTooLong n = false := by
  unfold Builtin.List.listTooLong
  exact decide_eq_false (by (first | lia | omega))
end

section
variable {X : Cx}

def rAppend : V → List V → Hp → VK → Prop := fun x vs H Q => ∃ l xs y, x = .ref l ∧ vs = [y] ∧ H l = some (.lst xs) ∧ xs.length < sizeLine ∧ Q .non (upd H l (.lst (xs ++ [y])))
theorem mt_append : MtM X "list.append" rAppend := by
  intro pins s σ H x vs v us Q I rx rv h
  obtain ⟨l, xs, y, rfl, rfl, hH, hz, q⟩ := h
  cases rx
  obtain ⟨u, rfl, ru⟩ := rv.one
  obtain ⟨z, its, n, r, hl, e⟩ := I.lstM hH
  refine call_meets F.slot_list_append ⟨_, e, rfl⟩ F.entry_list_append (F.args_list_append_2 _ _) (PySem.list_append l its.toArray n u (by rw [List.size_toArray]; (first | lia | omega))) ⟨e, ?_⟩
  refine ⟨.non, _, I.lset (its' := its ++ [u]) hH e (by simp) (r.append (.cons ru .nil)) ?_, rfl, q⟩
  rw [List.length_append, List.length_singleton]
  (first | lia | omega)

def rRep : R2 := fun x y H Q => ∃ l k xs, x = .ref l ∧ y = .int k ∧ H l = some (.lst xs) ∧ -(2 ^ 63) ≤ k ∧ k < 2 ^ 63 ∧ xs.length * k.toNat ≤ sizeLine ∧
  ∀ p, H p = none → Q (.ref p) (upd H p (.lst (List.replicate k.toNat xs).flatten))
theorem len_rep {α : Type} (xs : List α) (k : Nat) : (List.replicate k xs).flatten.length = k * xs.length := by
  induction k with
  | zero => simp
  | succ k ih => rw [List.replicate_succ, List.flatten_cons, List.length_append, ih, Nat.succ_mul, Nat.add_comm]
theorem op_rep : OpR X (binaryOp .Mult) rRep := by
  intro pins s σ H x y v u Q I rx ry h
  obtain ⟨l, k, xs, rfl, rfl, hH, h1, h2, hz, q⟩ := h
  cases rx
  obtain ⟨t, rfl⟩ := ry
  obtain ⟨z, its, n, r, hl, e⟩ := I.lstM hH
  have hlen : its.toArray.size * k.toNat ≤ sizeLine := by rw [List.size_toArray, ← hl]; exact hz
  have hcap : ¬ its.toArray.size * k.toNat > (2 ^ 63 - 1) / 8 := by
    have : (sizeLine : Nat) ≤ (2 ^ 63 - 1) / 8 := by decide
    (first | lia | omega)
  have hfit : ¬ (!Builtin.List.listFitsIndex k) = true := by
    rw [fitsIndex_both h1 h2]
    exact Bool.false_ne_true
  have hlong : ¬ Builtin.List.listTooLong (its.toArray.size * k.toNat) = true := by
    rw [notLongL hlen]
    exact Bool.false_ne_true
  have hnew : List.foldl (fun x1 x2 => x1 ++ x2) #[] (List.replicate (if its.toArray.isEmpty = true then 0 else k.toNat) its.toArray) = (List.replicate k.toNat its).flatten.toArray := by
    have f0 : ∀ m : Nat, List.foldl (fun x1 x2 => x1 ++ x2) #[] (List.replicate m its.toArray) = (List.replicate m its).flatten.toArray := fun m => by
      have := foldl_rep its m []
      rw [List.nil_append] at this
      exact this
    rw [f0]
    cases its with
    | nil => simp
    | cons a r' => rw [if_neg (by simp)]
  refine wpAny_binaryOp_repeat_ref (T := "list") (U := "int") (by decide) ⟨_, e, rfl⟩ (fun s' => typeIs_int s' k t) noFill_list_mul F.fills_int_mul F.slot_int_rmul repeat_list F.slot_int_index.lookup
    (call_meets F.slot_int_rmul (typeIs_int s k t) F.entry_int_rmul (F.args_int_rmul_2 _ _) (int___rmul___int_list k t l its.toArray n)
      ⟨e, rfl, ⟨_, e, rfl⟩, call_meets F.slot_list_mul ⟨_, e, rfl⟩ F.entry_list_mul (F.args_list_mul_2 _ _) (AutoListH.list___mul___list_int_3 l its.toArray n k t hfit hcap hlong) ⟨e, ?_⟩⟩)
  rw [hnew]
  exact ⟨.ref _, _, I.lnew (t' := s.toks) (r.rep k.toNat) (by rw [len_rep, Nat.mul_comm]; exact hz), rfl, q _ I.fresh⟩

end

section
variable {prog : Program} {w : World} {A : Around} {E : Value → Shared → Prop} {s : Shared}
end

section
variable {X : Cx}
end
end L2

namespace Att
open PySem PySem.W PySem.Calls PyProof.Rows

theorem ints_of_wellAll {P : Params} {h : Heap} : ∀ (ns : List Int) (vs : List Value), WellAll P h vs (ns.map WData.int) → IntsAre vs ns := by
  intro ns
  induction ns with
  | nil =>
    intro vs w
    rw [List.map_nil] at w
    cases w
    exact .nil
  | cons n ns ih =>
    intro vs w
    rw [List.map_cons] at w
    cases w with
    | cons a b =>
      cases a
      exact .cons _ _ (ih _ b)

theorem script_of {l : OpenLaw} {n : Nat} (hn : l.most = some n) {P : Params} {h : Heap} {args : List WData} {vals : List Value}
    (hpre : l.row.toRowW.claim.pre args = true) (hwl : WellAll P h vals args) :
    ∃ a vs ns, vals = [Value.ref a] ∧ args = [WData.list (ns.map WData.int)] ∧ h.get? a = some { cls := .type "list", data := .seq vs.toArray } ∧ IntsAre vs ns ∧ ns.length ≤ n := by
  have hsh : WShape.hasAll [] args [.list .int] = true := (pre_splitW hpre).1
  have hc : l.pre.holds [] { args := args } = true := (pre_splitW hpre).2
  obtain ⟨d, r, rfl, h1, h2⟩ := hasAllW_cons hsh
  obtain rfl := hasAllW_nil h2
  obtain ⟨xs, rfl, h3⟩ := hasW_list h1
  obtain ⟨ns, rfl⟩ := items_int h3
  have hlen : ns.length ≤ n := by
    unfold OpenLaw.pre at hc
    have h4 : (WTm.not (.lt (.lit (.int (n : Int))) (.len (.arg 0)))).holds [] { args := [.list (ns.map .int)] } = true := by
      have h4 := (holds_andW hc).1
      rw [hn] at h4
      exact h4
    have h5 := condW_of h4 (w_not (w_lt w_lit (w_len_list (w_arg rfl))))
    rw [List.length_map] at h5
    refine Nat.le_of_not_lt fun q => ?_
    have q' : (n : Int) < ((ns.length : Nat) : Int) := by (first | lia | omega)
    first
      | (rw [decide_eq_true q'] at h5; exact absurd h5 (by decide))
      | (simp at h5; (first | lia | omega))
  cases hwl with
  | cons w1 w2 =>
    cases w2
    cases w1 with
    | list ho hall => exact ⟨_, _, ns, rfl, rfl, ho, ints_of_wellAll ns _ hall, hlen⟩

theorem post_true (l : OpenLaw) (args : List WData) : l.row.toRowW.claim.post args (.bool true) args = true :=
  postW_of (r := l.row.toRowW) (X := (true == true))
    (show WShape.has [] (.bool true) .bool = true by first | rfl | decide | simp [WShape.has, WShape.arms, WShape.armsAll])
    (show (WTm.eq .res (.lit (.bool true))).value [] { args := args, res := some (.bool true), after := args } = some (.bool (true == true)) from w_eq_bool (w_res rfl) w_lit) rfl

theorem attach_call {l : OpenLaw} {n : Nat} {q : Program} {loose : List Str} {XP : (Str → Option Value) → Heap → Prop} {YP : World → Heap → Prop} {d : DefRec}
    (hn : l.most = some n) (hdf : d.params.defaults = [])
    (call : ∀ (w : World) (s₀ s₁ : Shared) (mg mb : Str → Option Value) (fa : Addr) (o : Obj) (pm cd doc : Value) (a : Addr) (vs : List Value) (ns : List Int),
      Ground q loose [] XP w s₀ mg mb s₁.heap → YP w s₁.heap →
      s₁.heap.get? fa = some o → o.data = .func (docDef d.name d.params d.body d.scope pm cd doc) → s₁.heap.CodeRec cd d.name → mg d.name = some (.ref fa) →
      s₁.heap.get? a = some { cls := .type "list", data := .seq vs.toArray } → IntsAre vs ns → ns.length ≤ n → s₁.gens = #[] →
      codeAny (model l.prog w) callerA (.call (.ref fa) ⟨[.ref a], []⟩) (fun r s' => r = .ok (.ret (.bool true)) ∧ OldK s₁.heap s'.heap ∧ s'.os = s₁.os ∧ AllBare s'.gens) s₁) :
    WalkO q loose XP YP l.row.toRowW d [] (fun f vs => PySem.call f vs) := by
  intro w s₀ s₁ mg mb G Y fa o pm cd doc dV kV ho hd hcd hD hmg hg args vals as hpre hlay hrd hwl hlo
  obtain rfl : dV = .none := Dflts.none hD hdf
  obtain rfl : kV = .none := Dflts.noKw hD
  obtain ⟨a, vs, ns, rfl, rfl, hobj, hints, hlen⟩ := script_of hn hpre hwl
  refine enter_call (codeAny_mono (call w s₀ s₁ mg mb fa o pm cd doc a vs ns G Y ho (fd_plain hd) hcd hmg hobj hints hlen hg) fun r s' hq => ?_)
  obtain ⟨rfl, h2, h3, h4⟩ := hq
  exact ⟨.inl ⟨.bool true, .bool true, [], rfl, fun _ => rfl, .bool true, post_true l _, fun _ => ⟨List.Pairwise.nil, fun _ hm => (nomatch hm)⟩⟩, h2, h3, h4⟩

section
variable {prog : Program} {w : World} {A : Around} {E : Value → Shared → Prop} {s : Shared} {K : Frag}

end
end Att

namespace L2
open PySem PySem.Spec PyProof.Rows

theorem vals_ints : ∀ {vs : List Value} {ns : List Int}, IntsAre vs ns → Vals (ns.map V.int) vs
  | _, _, .nil => .nil
  | _, _, .cons n t h => .cons ⟨t, rfl⟩ (vals_ints h)

def Only (H : Hp) : Prop := ∀ b, H b = none ∨ ∃ o xs, H b = some (.frz o (.lst xs))

theorem law_call {P : Program} {w : World} {K : PySem.W.Frag} {mg mb : Str → Option Value} {CX : CXT} {k : Nat} {fa a : Addr} {fd : FuncData} {x : Str} {sp : Sp} {s₁ : Shared} {vs : List Value} {ns : List Int}
    (KX : K.In s₁.heap) (hns : s₁.heap.Ns mainGlobals mg) (hb : s₁.heap.Ns builtinsNs mb) (hbb : ∀ x : Str, x ≠ "__name__" → mb x = bootBuiltins x) (hlim : s₁.heap.NoLimit) (hg : s₁.gens = #[])
    (ha : s₁.heap.get? a = some { cls := .type "list", data := .seq vs.toArray }) (hi : IntsAre vs ns) (hl : ns.length ≤ sizeLine) (hr : Room k callerA)
    (F : ∀ base : Heap, K.In base → base.Ns mainGlobals mg → FnOk P w K mg base CX k fa fd [x] sp) (hbind : ∀ (s : Shared) (u : Value), BindsTo s fd ⟨[u], []⟩ [(x, u)])
    (hsp : ∀ H : Hp, Only H → SqL K H a (ns.map V.int) → sp [.ref a] H (fun v _ => v = .bl true) fun _ _ _ => False)
    (hCX : ∀ H e s', CX [] H s₁ (fun _ _ _ => False) e s' → False) :
    codeAny (model P w) callerA (.call (.ref fa) ⟨[.ref a], []⟩) (fun r s' => r = .ok (.ret (.bool true)) ∧ OldK s₁.heap s'.heap ∧ s'.os = s₁.os ∧ AllBare s'.gens) s₁ := by
  have rv := vals_ints hi
  have lenV := hi.length
  -- from an abstract heap in which nothing but the script may be tracked
  have core : ∀ H : Hp, Only H → SqL K H a (ns.map V.int) → HOk P w H s₁.heap → (∀ b, H b ≠ none → b = a) → (H a ≠ none → K.lookup a = none) →
      codeAny (model P w) callerA (.call (.ref fa) ⟨[.ref a], []⟩) (fun r s' => r = .ok (.ret (.bool true)) ∧ OldK s₁.heap s'.heap ∧ s'.os = s₁.os ∧ AllBare s'.gens) s₁ := by
    intro H hO hS hok hA hK
    have base_of : ∀ {b : Addr} {o : Obj}, s₁.heap.get? b = some o → H b = none → (hidT s₁.heap H).get? b = some o := fun e n => hidT_get e n
    have noA : ∀ {b : Addr} {o : Obj} {es : Array DictEntry} {ep : Nat}, s₁.heap.get? b = some o → o.data = .dict es ep → H b = none := fun {b o es ep} e d => by
      cases q : H b with
      | none => rfl
      | some u =>
        have e' : b = a := hA b (by rw [q]; simp)
        subst e'
        rw [ha] at e; cases e
        have d' : Data.seq vs.toArray _ = Data.dict es ep := d
        cases d'
    have nsK : ∀ {b : Addr} {m : Str → Option Value}, s₁.heap.Ns b m → (hidT s₁.heap H).Ns b m := fun {b m} ⟨o, es, ep, e, d, r⟩ => ⟨o, es, ep, base_of e (noA e d), d, r⟩
    have hKb : K.In (hidT s₁.heap H) := fun b o e => base_of (KX b o e) (by
      cases q : H b with
      | none => rfl
      | some u =>
        have e' : b = a := hA b (by rw [q]; simp)
        subst e'
        rw [hK (by rw [q]; simp)] at e; cases e)
    have hM : Mod K mg (hidT s₁.heap H) := ⟨hKb, nsK hns, ⟨mb, nsK hb, hbb⟩, let ⟨mc, h1, h2⟩ := hlim; ⟨mc, nsK h1, h2⟩⟩
    have e0 : Env0 P w K mg (hidT s₁.heap H) callerA [] s₁ H := ⟨rfl, hM, fun b o e => of_hidT e, Nat.le_of_eq (hidT_size _ _), trivial, fun b hb => absurd (show b ∈ ([] : List Addr) from hb) (by simp), hok, .of_eq hg⟩
    refine codeAny_mono ((F _ hKb (nsK hns)).run callerA [] s₁ H ⟨[.ref a], []⟩ [.ref a] [.ref a] _ _ hr e0 (hbind s₁ (.ref a)) (.cons rfl .nil) (hsp H hO hS)) fun r s' h => ?_
    cases r with
    | error e => exact (hCX H e s' h).elim
    | ok fl =>
      cases fl with
      | next => exact False.elim h
      | brk => exact False.elim h
      | cont => exact False.elim h
      | ret u =>
        obtain ⟨v, H', os, bare, un, hok', r', q⟩ := h
        have q' : v = .bl true := q
        subst q'
        obtain rfl : u = Value.bool true := r'
        refine ⟨rfl, OldK.of_keep fun b o e => ?_, os, bare⟩
        cases q : H b with
        | none => exact un.keep b o e q (by intro z; exact absurd (show b ∈ ([] : List Addr) from z) (by simp)) (by simp)
        | some u =>
          rcases hO b with z | ⟨ob, xs, z⟩
          · rw [q] at z; cases z
          · have z2 := un.frzs b ob _ z
            obtain ⟨e1, _⟩ := hok b _ z
            obtain ⟨e2, _⟩ := hok' b _ z2
            rw [e] at e1; cases e1
            exact e2
  cases hk : K.lookup a with
  | some o =>
    -- the script is one of the module's own objects
    have e := KX a o hk
    rw [ha] at e
    cases e
    refine core (fun _ => none) (fun _ => .inl rfl) (.inr ⟨_, vs.toArray, _, hk, rfl, rfl, rfl, by rw [List.size_toArray, lenV]; exact hl, by simpa using rv⟩) (fun b u z => by have z' : (none : Option HO) = some u := z; cases z') (fun b z => absurd rfl z) fun z => absurd rfl z
  | none =>
    refine core (fun b => if b = a then some (.frz { cls := .type "list", data := .seq vs.toArray } (.lst (ns.map V.int))) else none) (fun b => ?_) (.inl (.inr ⟨{ cls := .type "list", data := .seq vs.toArray }, if_pos rfl⟩)) (fun b u z => ?_) (fun b z => ?_) fun _ => hk
    · by_cases hb : b = a
      · exact .inr ⟨_, _, if_pos hb⟩
      · exact .inl (if_neg hb)
    · by_cases hb : b = a
      · have z' := (if_pos hb).symm.trans z
        cases z'
        subst hb
        exact ⟨ha, by rw [List.length_map]; exact hl, vs, _, rv, ha⟩
      · have z' := (if_neg hb).symm.trans z
        cases z'
    · by_cases hb : b = a
      · exact hb
      · exact absurd (if_neg hb) z
end L2

namespace L2
open PySem PySem.Spec PyProof.Rows

theorem walk_of {l : PySem.W.OpenLaw} {n k : Nat} {q : Program} {loose : List Str} {XP : (Str → Option Value) → Heap → Prop} {YP : World → Heap → Prop} {d : DefRec} {K : Params → PySem.W.Frag} {CX : World → CXT} {sp : World → Sp} {x : Str}
    (hn : l.most = some n) (hn2 : n ≤ sizeLine) (hdf : d.params.defaults = []) (hr : Room k callerA)
    (hY : ∀ (w : World) (h : Heap), YP w h → (K w.params).In h)
    (F : ∀ (w : World) (mg : Str → Option Value) (fa : Addr) (h : Heap), (K w.params).In h → h.Ns mainGlobals mg → mg d.name = some (.ref fa) →
      ∃ fd : FuncData, (∀ (s : Shared) (u : Value), BindsTo s fd ⟨[u], []⟩ [(x, u)]) ∧
        ∀ base : Heap, (K w.params).In base → base.Ns mainGlobals mg → FnOk l.prog w (K w.params) mg base (CX w) k fa fd [x] (sp w))
    (hsp : ∀ (w : World) (H : Hp) (a : Addr) (ns : List Int), ns.length ≤ n → Only H → SqL (K w.params) H a (ns.map V.int) → sp w [.ref a] H (fun v _ => v = .bl true) fun _ _ _ => False)
    (hCX : ∀ (w : World) (H : Hp) (s : Shared) (e : Value) (s' : Shared), CX w [] H s (fun _ _ _ => False) e s' → False) :
    PySem.W.WalkO q loose XP YP l.row.toRowW d [] (fun f vs => PySem.call f vs) := by
  refine Att.attach_call hn hdf fun w s₀ s₁ mg mb fa o pm cd doc a vs ns G Y ho hd hcd hmg hobj hints hlen hg => ?_
  have KX := hY w _ Y
  obtain ⟨fd, hb, hF⟩ := F w mg fa _ KX G.T.g hmg
  exact law_call KX G.T.g G.T.b G.T.builtins G.T.nolimit hg hobj hints (Nat.le_trans hlen hn2) hr hF hb (fun H hO hS => hsp w H a ns hlen hO hS) fun H e s' => hCX w H s₁ e s'
end L2

/- THE LAST THEOREM (shape; LID, My.* are yours):
   My.Adr: a structure of the addresses that your layer names (classes, functions); My.Txt K t: a structure (Prop) of the equations over K;
   My.txt_mk : {K} {implicit addresses ..} (e1 : nsIn K mainGlobals "law" = some (some (.ref f))) (e2 : K.lookup f = some ⟨oc, od, .func (fnOf "law" "law" params body scope dV kV doc pm an cdv ct), sl⟩) (e3 : codeIn K cdv "law" = true) .. : ∃ t, My.Txt K t

set_option maxRecDepth 100000 in
set_option maxHeartbeats 0 in
theorem PySem.Challenge.cw_LID_holds : PySem.Challenge.rw_LID.Holds := by
  w_on; o_law; k_head; (case hw => w_witness2)
  k_fill
  refine L2.walk_of (l := PySem.Challenge.rw_LID) (n := 63) (k := 40) (x := "script") (CX := fun w => ..) (sp := fun _ => My.sp_law) rfl (by decide) rfl ⟨rfl, by decide, by decide⟩ (fun w h Y => PySem.W.kIn_of Y) ?F ?S ?C
  case F =>
    intro w mg fa h KX G hmg
    have T : ∃ t, My.Txt (L2.KOf KX) t := by
      dsimp only [L2.KOf]                          -- K must stand as «<heap const> w.params» for k_is
      refine' My.txt_mk ?e1 ?e2 ?e3 ..
      (case e1 => PySem.W.k_is)                    -- in the order: a name -> its address -> its object -> its parts
      (case e2 => PySem.W.k_is)
      ..
    obtain ⟨t, T⟩ := T
    have e0 := hmg.symm.trans (PySem.W.mg_of KX G T.law)
    cases e0                                       -- fa is the law's own address
    exact ⟨_, fun s u => .of_eq rfl, fun base kb nb => My.law_fn T kb nb⟩     -- if «.of_eq rfl» comes too early: refine' ⟨_, ?b, fun base kb nb => My.law_fn T kb nb⟩; exact fun s u => .of_eq rfl
  case S => exact fun w H a ns hl hO hS => ..
  case C => exact ..
(the tactic k_is has no namespace: write k_is) -/

namespace L2
open PySem PySem.Spec PyProof.Rows

def defArgs (s : Stmt) : Arguments := match s with
  | .FunctionDef _ a _ _ _ _ _ _ _ _ => a
  | _ => { posonlyargs := [], args := [], vararg := none, kwonlyargs := [], kw_defaults := [], kwarg := none, defaults := [] }
def defBody (s : Stmt) : List Stmt := match s with
  | .FunctionDef _ _ b _ _ _ _ _ _ _ => b
  | _ => []
def defScope (s : Stmt) : Scope := match s with
  | .FunctionDef _ _ _ _ _ _ sc _ _ _ => sc
  | _ => { kind := .function, names := [], isGenerator := false, isCoroutine := false }

abbrev CX0 : CXT := fun _ _ _ _ _ _ => False
abbrev E0 : XK := fun _ _ _ => False
theorem pass0 {X : Cx} : Passes CX0 X E0 := fun _ _ _ _ _ _ _ h => h.elim

structure Fun (K : PySem.W.Frag) (x qual : Str) (st : Stmt) (f : Addr) (fd : FuncData) : Prop where
  ex : ∃ (oc : Value) (od : Option Addr) (kV doc pm : Value) (an : Option Addr) (cdv ct : Value) (osl : Array (Option Value)),
    fd = PySem.W.fnOf x qual (defArgs st) (defBody st) (defScope st) .none kV doc pm an cdv ct ∧ K.lookup f = some ⟨oc, od, .func fd, osl⟩ ∧ PySem.W.codeIn K cdv qual = true
  kp : PySem.W.keepIn K (.ref f) = true
section
variable {P : Program} {w : World} {K : PySem.W.Frag} {mg : Str → Option Value} {base : Heap}
theorem Fun.ok {x qual : Str} {st : Stmt} {f : Addr} {fd : FuncData} {N ps : List Str} {k : Nat} {sp : Sp} (F : Fun K x qual st f fd) (S : FnScope N ps (defScope st)) (len : ∀ vs H Q E, sp vs H Q E → vs.length = ps.length)
    (hbody : ∀ (cdv : Value) (A : Around) (outer : List Env) (s : Shared) (H : Hp) (vs : List V) (Q : VK) (E : XK), Room k (A.deeper (envOfC qual (defScope st) s.heap.objs.size f cdv)) → sp vs H Q E →
      ∃ t, PSs (cxOf CX0 P w K mg base N qual (defScope st) f cdv A outer s H E).nox (defBody st) t ∧ t { nx := fun _ H' => Q .non H', rt := Q } (start N vs) H) : FnOk P w K mg base CX0 (k + 1) f fd ps sp := by
  obtain ⟨oc, od, kV, doc, pm, an, cdv, ct, osl, rfl, lk, hcd⟩ := F.ex
  refine fn_of lk hcd S len fun A outer s H vs Q E hr hsp => ?_
  obtain ⟨t, h, q⟩ := hbody cdv A outer s H vs Q E hr hsp
  exact ⟨t, h.nox, q⟩
theorem Fun.binds {x qual : Str} {st : Stmt} {f : Addr} {fd : FuncData} {ps : List Str} (F : Fun K x qual st f fd)
    (h : ∀ (kV doc pm : Value) (an : Option Addr) (cdv ct : Value) (us : List Value), us.length = ps.length → bindArgs (PySem.W.fnOf x qual (defArgs st) (defBody st) (defScope st) .none kV doc pm an cdv ct) ⟨us, []⟩ = pure (ps.zip us)) : Binds K fd ps [] := by
  obtain ⟨oc, od, kV, doc, pm, an, cdv, ct, osl, rfl, lk, hcd⟩ := F.ex
  exact .all (h kV doc pm an cdv ct)
theorem fun_mk {x qual : Str} {st : Stmt} {f : Addr} {oc : Value} {od an : Option Addr} {osl : Array (Option Value)} {kV doc pm cdv ct : Value} (l : K.lookup f = some ⟨oc, od, .func (PySem.W.fnOf x qual (defArgs st) (defBody st) (defScope st) .none kV doc pm an cdv ct), osl⟩)
    (c : PySem.W.codeIn K cdv qual = true) (k : PySem.W.keepIn K (.ref f) = true) : Fun K x qual st f (PySem.W.fnOf x qual (defArgs st) (defBody st) (defScope st) .none kV doc pm an cdv ct) := ⟨⟨oc, od, kV, doc, pm, an, cdv, ct, osl, rfl, l, c⟩, k⟩
end
theorem small1000 {n : Nat} (h : n ≤ 1000) : n < sizeLine := Nat.lt_of_le_of_lt h (by decide)

section
variable {X : Cx}
theorem pv (i : Nat) {x : Str} {pos : Pos} (hN : X.N[i]? = some x := by rfl) (hv : Vis X.env.scope x := by first | exact Or.inl rfl | exact Or.inr (Or.inl rfl) | exact Or.inr (Or.inr rfl)) (hd : (x == ("__debug__" : Str)) = false := by decide)
    (hcd : (x == ("__classdict__" : Str)) = false := by decide) : PE X (.Name x pos) (tVar i) := pe_var hN hv hd hcd
end

theorem iteF {A B : Prop} (h : B) : if false = true then A else B := by
  rw [if_neg Bool.false_ne_true]
  exact h
theorem iteT {A B : Prop} (h : A) : if true = true then A else B := by
  rw [if_pos rfl]
  exact h
theorem ite2 {c A B : Prop} [Decidable c] (h1 : c → A) (h2 : ¬ c → B) : if c then A else B := by
  by_cases h : c
  · rw [if_pos h]
    exact h1 h
  · rw [if_neg h]
    exact h2 h
theorem iteNS {c A B : Prop} [Decidable c] (hc : c) (h : B) : if (!decide c) = true then A else B := by
  rw [decide_eq_true hc]
  exact iteF h

def Same (H H' : Hp) : Prop := ∀ b o, H b = some o → H' b = some o
theorem Same.refl (H : Hp) : Same H H := fun _ _ h => h
theorem Same.trans {H H1 H2 : Hp} (a : Same H H1) (b : Same H1 H2) : Same H H2 := fun c o h => b c o (a c o h)
theorem Same.free {H H' : Hp} (e : Same H H') {l : Addr} (h : H' l = Option.none) : H l = Option.none := by
  cases q : H l with
  | none => rfl
  | some o =>
    rw [e l o q] at h
    cases h
theorem Same.seq {K : PySem.W.Frag} {H H' : Hp} {a : Addr} {xs : List V} (e : Same H H') (h : SqL K H a xs) : SqL K H' a xs := by
  rcases h with (h | ⟨o, h⟩) | h
  · exact .inl (.inl (e _ _ h))
  · exact .inl (.inr ⟨o, e _ _ h⟩)
  · exact .inr h

end L2

namespace L2
open PySem PySem.Spec PyProof.Rows

def closOf (cells : List (Str × Addr)) : List (Str × NameKind) → List (Str × Addr) → List (Str × Addr)
  | [], cs => cs
  | (n, k) :: r, cs => closOf cells r (if (k == NameKind.free) = true then (n, (cells.lookup n).getD 0) :: cs else cs)
theorem closure_go {env : Env} {f : Str × NameKind → List (Str × Addr) → Sem (ForInStep (List (Str × Addr)))}
    (hf1 : ∀ n k cs c, (k == NameKind.free) = true → env.cells.lookup n = some c → f (n, k) cs = pure (.yield ((n, c) :: cs)))
    (hf2 : ∀ n k cs, (k == NameKind.free) = false → f (n, k) cs = pure (.yield cs)) :
    ∀ (names : List (Str × NameKind)) (cs : List (Str × Addr)), (∀ n k, (n, k) ∈ names → (k == NameKind.free) = true → ∃ c, env.cells.lookup n = some c) →
      forIn names cs f = (pure (closOf env.cells names cs) : Sem (List (Str × Addr)))
  | [], cs, _ => by rw [List.forIn_nil]; rfl
  | (n, k) :: r, cs, h => by
    have ih := fun cs => closure_go hf1 hf2 r cs fun m j hm => h m j (List.mem_cons_of_mem _ hm)
    rw [List.forIn_cons]
    cases e : (k == NameKind.free) with
    | true =>
      obtain ⟨c, hc⟩ := h n k List.mem_cons_self e
      rw [hf1 n k cs c e hc, pure_bind]
      show forIn r ((n, c) :: cs) f = _
      rw [ih]
      conv => rhs; unfold closOf
      rw [if_pos e, hc]
      rfl
    | false =>
      rw [hf2 n k cs e, pure_bind]
      show forIn r cs f = _
      rw [ih]
      conv => rhs; unfold closOf
      rw [if_neg (by rw [e]; exact Bool.false_ne_true)]
theorem closure_is {scope : Scope} {env : Env} (h : ∀ n k, (n, k) ∈ scope.names → (k == NameKind.free) = true → ∃ c, env.cells.lookup n = some c) : closureFor scope env = pure (closOf env.cells scope.names []) := by
  simp only [closureFor]
  rw [closure_go (env := env) ?_ ?_ scope.names [] h]
  · rfl
  · intro n k cs c e hc
    show (if (k == NameKind.free) = true then _ else _) = _
    rw [if_pos e]
    unfold cellOf
    rw [hc]
    rfl
  · intro n k cs e
    show (if (k == NameKind.free) = true then _ else _) = _
    rw [if_neg (by rw [e]; exact Bool.false_ne_true)]
theorem closOf_look {cells : List (Str × Addr)} {x : Str} {c : Addr} : ∀ {names : List (Str × NameKind)} {cs : List (Str × Addr)}, (closOf cells names cs).lookup x = some c → cs.lookup x = some c ∨ ((x, NameKind.free) ∈ names ∧ (cells.lookup x).getD 0 = c)
  | [], cs, h => .inl h
  | (n, k) :: r, cs, h => by
    unfold closOf at h
    rcases closOf_look h with q | ⟨q1, q2⟩
    · by_cases e : (k == NameKind.free) = true
      · rw [if_pos e] at q
        by_cases hx : x = n
        · subst hx
          rw [List.lookup_cons_self] at q
          have hk : k = NameKind.free := eq_of_beq e
          exact .inr ⟨by rw [hk]; exact List.mem_cons_self, Option.some.inj q⟩
        · have hb : (x == n) = false := beq_eq_false_iff_ne.mpr hx
          simp only [List.lookup_cons, hb] at q
          exact .inl q
      · rw [if_neg e] at q
        exact .inl q
    · exact .inr ⟨List.mem_cons_of_mem _ q1, q2⟩
theorem closOf_has {cells : List (Str × Addr)} {x : Str} : ∀ {names : List (Str × NameKind)} {cs : List (Str × Addr)}, ((x, NameKind.free) ∈ names ∨ ∃ c, cs.lookup x = some c) → ∃ c, (closOf cells names cs).lookup x = some c
  | [], cs, h => by
    rcases h with h | h
    · cases h
    · exact h
  | (n, k) :: r, cs, h => by
    unfold closOf
    apply closOf_has
    rcases h with h | ⟨c, h⟩
    · rcases List.mem_cons.mp h with h | h
      · cases h
        right
        rw [if_pos (by rfl)]
        exact ⟨_, List.lookup_cons_self⟩
      · exact .inl h
    · right
      by_cases e : (k == NameKind.free) = true
      · rw [if_pos e]
        by_cases hx : x = n
        · subst hx
          exact ⟨_, List.lookup_cons_self⟩
        · have hb : (x == n) = false := beq_eq_false_iff_ne.mpr hx
          exact ⟨c, by simp only [List.lookup_cons, hb]; exact h⟩
      · rw [if_neg e]
        exact ⟨c, h⟩
theorem relabel_look {env : Env} {x : Str} {k : NameKind} : ∀ {names : List (Str × NameKind)},
    (names.map fun (n, k) => if (k == NameKind.free && env.scope.kind == .function && env.kindOf n == some .cell) then (n, NameKind.cell) else (n, k)).lookup x = some k →
      ∃ k0, names.lookup x = some k0 ∧ (k = k0 ∨ (k0 = .free ∧ k = .cell))
  | [], h => by cases h
  | (n, j) :: r, h => by
    have ih := @relabel_look env x k r
    replace h : List.lookup x ((if (j == NameKind.free && env.scope.kind == .function && env.kindOf n == some .cell) = true then (n, NameKind.cell) else (n, j)) :: _) = some k := h
    cases hx : x == n with
    | true =>
      by_cases hc : (j == NameKind.free && env.scope.kind == .function && env.kindOf n == some .cell) = true
      · rw [if_pos hc] at h
        simp only [List.lookup_cons, hx] at h ⊢
        have hj : j = NameKind.free := by
          rw [Bool.and_eq_true, Bool.and_eq_true] at hc
          exact eq_of_beq hc.1.1
        exact ⟨j, rfl, .inr ⟨hj, (Option.some.inj h).symm⟩⟩
      · rw [if_neg hc] at h
        simp only [List.lookup_cons, hx] at h ⊢
        exact ⟨j, rfl, .inl (Option.some.inj h).symm⟩
    | false =>
      by_cases hc : (j == NameKind.free && env.scope.kind == .function && env.kindOf n == some .cell) = true
      · rw [if_pos hc] at h
        simp only [List.lookup_cons, hx] at h ⊢
        exact ih h
      · rw [if_neg hc] at h
        simp only [List.lookup_cons, hx] at h ⊢
        exact ih h
theorem relabel_free {env : Env} {x : Str} : ∀ {names : List (Str × NameKind)}, names.lookup x = some .free →
    (names.map fun (n, k) => if (k == NameKind.free && env.scope.kind == .function && env.kindOf n == some .cell) then (n, NameKind.cell) else (n, k)).lookup x = some .cell ∨
    (names.map fun (n, k) => if (k == NameKind.free && env.scope.kind == .function && env.kindOf n == some .cell) then (n, NameKind.cell) else (n, k)).lookup x = some .free
  | [], h => by cases h
  | (n, j) :: r, h => by
    have ih := @relabel_free env x r
    show List.lookup x ((if (j == NameKind.free && env.scope.kind == .function && env.kindOf n == some .cell) = true then (n, NameKind.cell) else (n, j)) :: _) = _ ∨
      List.lookup x ((if (j == NameKind.free && env.scope.kind == .function && env.kindOf n == some .cell) = true then (n, NameKind.cell) else (n, j)) :: _) = _
    cases hx : x == n with
    | true =>
      simp only [List.lookup_cons, hx] at h
      cases h
      by_cases hc : (NameKind.free == NameKind.free && env.scope.kind == .function && env.kindOf n == some .cell) = true
      · rw [if_pos hc]
        simp only [List.lookup_cons, hx]
        exact .inl trivial
      · rw [if_neg hc]
        simp only [List.lookup_cons, hx]
        exact .inr trivial
    | false =>
      simp only [List.lookup_cons, hx] at h
      by_cases hc : (j == NameKind.free && env.scope.kind == .function && env.kindOf n == some .cell) = true
      · rw [if_pos hc]
        simp only [List.lookup_cons, hx]
        exact ih h
      · rw [if_neg hc]
        simp only [List.lookup_cons, hx]
        exact ih h

def cxComp (X : Cx) (N : List Str) (scope : Scope) (xe : Value → Shared → Prop) (C : Addr) (s : Shared) (H : Hp) (fp : List Addr) : Cx where
  prog := X.prog
  w := X.w
  K := X.K
  mg := X.mg
  base := X.base
  A := X.A
  N := N
  s₀ := s
  H₀ := H
  env := compEnvC scope (closOf X.env.cells scope.names []) C X.env
  outer := X.stack
  stack := X.stack
  ex := fp
  fn := fun _ => false
  calm := X.calm
  pn := []
  xe := xe
def takeSt (σ : St) (js : List Nat) : St := js.map fun j => (σ[j]?).getD none
structure CompText (X : Cx) (scope : Scope) (own frees : List Str) (js : List Nat) : Prop where
  kind : scope.kind = .function
  nocell : ∀ y ∈ scope.names, y.2 ≠ .cell
  names : ∀ y ∈ scope.names, y.2 = .local → scope.names.lookup y.1 = some .local
  free : ∀ y ∈ scope.names, y.2 = .free → X.env.scope.names.lookup y.1 = some .cell ∨ X.env.scope.names.lookup y.1 = some .free
  at_ : js.map (fun j => X.N[j]?) = frees.map some
  fr : ∀ x ∈ frees, scope.names.lookup x = some .free
theorem takeSt_get {σ : St} {js : List Nat} {i : Nat} {v : V} (h : (takeSt σ js)[i]? = some (some v)) : ∃ j, js[i]? = some j ∧ σ[j]? = some (some v) := by
  unfold takeSt at h
  rw [List.getElem?_map] at h
  cases e : js[i]? with
  | none => rw [e] at h; cases h
  | some j =>
    rw [e] at h
    have h' : (σ[j]?).getD none = some v := Option.some.inj h
    refine ⟨j, rfl, ?_⟩
    cases q : σ[j]? with
    | none => rw [q] at h'; cases h'
    | some o => rw [q] at h'; rw [show o = some v from h']

section
variable {X : Cx}
theorem closure_ok {pins : List (Addr × Obj)} {σ : St} {H : Hp} {s : Shared} {scope : Scope} {own frees : List Str} {js : List Nat} (I : Inv X pins σ H s) (T : CompText X scope own frees js) :
    ∀ n k, (n, k) ∈ scope.names → (k == NameKind.free) = true → ∃ c, X.env.cells.lookup n = some c := fun n k hm e => by
  have hk : k = NameKind.free := eq_of_beq e
  exact I.ok.has n (T.free (n, k) hm hk)
theorem inv_comp {pins : List (Addr × Obj)} {σ : St} {H : Hp} {s : Shared} {scope : Scope} {own frees : List Str} {js : List Nat} {fp : List Addr} {D C : Addr} {h1 : Heap} {t1 : Nat} {m : Str → Option Value} {xe : Value → Shared → Prop}
    (I : Inv X pins σ H s) (T : CompText X scope own frees js) (hf : ∀ b ∈ fp, FpOk X pins H b) (hfo : ∀ b ∈ fp, ∃ o, s.heap.get? b = some o) (hD : s.heap.objs.size ≤ D) (hC : s.heap.objs.size ≤ C) (hDC : D ≠ C)
    (old : ∀ b o, s.heap.get? b = some o → h1.get? b = some o) (hl : h1.get? D = some { cls := .type "list", data := .seq ([] : List Value).toArray 0 }) (hn : h1.Ns C m) :
    Inv (cxComp X (own ++ frees) scope xe C s H fp) [] (List.replicate own.length none ++ takeSt σ js) (upd H D (.lst [])) { s with heap := h1, toks := t1 } := by
  have cells : ∀ x c, (closOf X.env.cells scope.names []).lookup x = some c → X.env.cells.lookup x = some c := fun x c h => by
    rcases closOf_look h with q | ⟨q1, q2⟩
    · cases q
    · obtain ⟨c', hc'⟩ := closure_ok I T x .free q1 rfl
      rw [hc'] at q2
      rw [hc']
      exact congrArg some q2
  have lt_of : ∀ b o, s.heap.get? b = some o → b < s.heap.objs.size := fun b o e => Heap.lt_size e
  have hcl : ∀ x c, X.env.cells.lookup x = some c → c < s.heap.objs.size := fun x c e => by
    obtain ⟨v, q⟩ := I.cell x c e
    exact q.lt
  have frlt : ∀ b ∈ frs X.stack, b < s.heap.objs.size := fun b hb => by
    obtain ⟨_, o, ho, _⟩ := I.stack.mem hb
    exact Heap.lt_size ho
  have hHD : H D = none := I.hok.fresh hD
  have hHC : H C = none := I.hok.fresh hC
  refine ⟨⟨I.ok.mod, T.kind, I.ok.glob, I.ok.blt, hC, fun x y c a b => I.ok.inj x y c (cells x c a) (cells y c b), fun x hx => ?_, fun x c z _ => (nomatch z), I.ok.hd, I.ok.frames, .inl rfl, fun b hb => ⟨?_, fun x c e z => ?_⟩,
      fun b o e => I.bs b o e, Nat.le_trans I.ok.bsz I.sz, fun b o e hb => ?_, fun b hb z => ?_, I.stack, I.stkFree⟩,
    rfl, I.bare, Un.laid old hD hHD, ⟨m, hn, fun i x v e1 e2 e3 => ?_⟩, fun x c e => ?_, ?_, fun x c e => ?_, fun p hp => absurd (show p ∈ ([] : List (Addr × Obj)) from hp) (by simp), ?_, ?_⟩
  · -- has
    have hx : (relabel scope X.env).names.lookup x = some .cell ∨ (relabel scope X.env).names.lookup x = some .free := hx
    have hf0 : (x, NameKind.free) ∈ scope.names := by
      rcases hx with hx | hx
      · obtain ⟨k0, q, r⟩ := relabel_look hx
        have hm := PySem.mem_of_lookup q
        rcases r with r | ⟨r, _⟩
        · exact absurd r.symm (T.nocell _ hm)
        · rw [r] at hm; exact hm
      · obtain ⟨k0, q, r⟩ := relabel_look hx
        have hm := PySem.mem_of_lookup q
        rcases r with r | ⟨_, r⟩
        · rw [← r] at hm; exact hm
        · cases r
    exact closOf_has (.inl hf0)
  · -- b ≠ C
    obtain ⟨o, ho⟩ := hfo b hb
    exact Nat.ne_of_lt (Nat.lt_of_lt_of_le (lt_of b o ho) hC)
  · exact (hf b hb).2.2.2.2.1 x c (cells x c e) z
  · -- noex
    obtain ⟨_, _, _, f3, _, _⟩ := hf b hb
    rcases f3 with z | z
    · exact I.ok.noex b o e z
    · exact absurd (Nat.lt_of_lt_of_le (Heap.lt_size (I.ok.bs b o e).1) z) (Nat.lt_irrefl _)
  · -- exfs
    obtain ⟨_, f1, f2, _⟩ := hf b hb
    rcases List.mem_cons.mp (I.stkSub b z) with q | q
    · exact f1 q
    · exact f2 q
  · -- loc
    by_cases hi : i < own.length
    · rw [List.getElem?_append_left (by simpa using hi), List.getElem?_replicate, if_pos hi] at e2
      cases e2
    · rw [List.getElem?_append_right (by simpa using hi), List.length_replicate] at e2
      replace e1 : (own ++ frees)[i]? = some x := e1
      rw [List.getElem?_append_right (by (first | lia | omega))] at e1
      obtain ⟨j, hj, hσ⟩ := takeSt_get e2
      have hN : X.N[j]? = some x := by
        have q := congrArg (fun l => l[i - own.length]?) T.at_
        simp only [List.getElem?_map, hj, e1, Option.map_some] at q
        exact Option.some.inj q
      have hfx := T.fr x (List.mem_of_getElem? e1)
      have hm := PySem.mem_of_lookup hfx
      have hk := T.free (x, .free) hm rfl
      obtain ⟨m0, hn0, hl0⟩ := I.loc
      obtain ⟨u, r, l⟩ := hl0 j x v hN hσ (by rcases hk with k | k; exact .inr (.inl k); exact .inr (.inr k))
      refine ⟨u, r, .inr ⟨relabel_free hfx, ?_⟩⟩
      rcases l with ⟨hkl, _⟩ | ⟨_, c, hc, hcell⟩
      · have hkl : X.env.scope.names.lookup x = some .local := hkl
        rcases hk with k | k <;> (rw [hkl] at k; cases k)
      · obtain ⟨c', hc'⟩ := closOf_has (cells := X.env.cells) (names := scope.names) (cs := []) (x := x) (.inl hm)
        have q := cells x c' hc'
        rw [hc] at q
        cases q
        exact ⟨c, hc', hcell.keeps old⟩
  · -- cell
    obtain ⟨v, q⟩ := I.cell x c (cells x c e)
    exact ⟨v, q.keeps old⟩
  · -- free
    show upd H D (.lst []) C = none
    rw [upd_ne (Ne.symm hDC)]
    exact hHC
  · show upd H D (.lst []) c = none
    have e := cells x c e
    rw [upd_ne (Nat.ne_of_lt (Nat.lt_of_lt_of_le (hcl x c e) hD))]
    exact I.freeC x c e
  · exact I.hok.laid old hD ⟨Nat.zero_le _, [], 0, .nil, hl⟩
  · show _ = (own ++ frees).length
    have q := congrArg List.length T.at_
    rw [List.length_map, List.length_map] at q
    rw [List.length_append, List.length_append, List.length_replicate]
    unfold takeSt
    rw [List.length_map, q]

theorem inv_comp_back {pins : List (Addr × Obj)} {σ σ' : St} {H H' : Hp} {s s' : Shared} {scope : Scope} {N : List Str} {fp : List Addr} {C : Addr} {h' : Heap} {xe : Value → Shared → Prop}
    (I : Inv X pins σ H s) (hf : ∀ b ∈ fp, FpOk X pins H b) (hC : s.heap.objs.size ≤ C) (J : Inv (cxComp X N scope xe C s H fp) [] σ' H' s') (sb : Heap.SameBut C s'.heap h') : Inv X pins σ H' { s' with heap := h' } := by
  have hHC : H' C = none := J.free
  refine I.call' (ch := fp) J.os ?_ ?_ J.bare (fun b hb => ?_)
  · have u : Un (frs X.stack) fp H H' s.heap s'.heap := J.base
    have ne : ∀ b o, s.heap.get? b = some o → b ≠ C := fun b o e => Nat.ne_of_lt (Nat.lt_of_lt_of_le (Heap.lt_size e) hC)
    refine ⟨fun b o e n hb hx => (sb.2 b (ne b o e)).trans (u.keep b o e n hb hx), fun b o e n hb hx => ?_, u.free, fun b o e hx => ?_, u.tups, u.frzs, u.tbls⟩
    · obtain ⟨sl, q⟩ := u.slot b o e n hb hx
      exact ⟨sl, (sb.2 b (ne b o e)).trans q⟩
    · obtain ⟨o', q⟩ := u.there b o e hx
      exact ⟨o', (sb.2 b (ne b o e)).trans q⟩
  · intro b ob e
    refine (J.hok b ob e).stay (fun c w' hc q => (sb.2 c ?_).trans q) (fun _ q => q) fun _ _ q => q
    rintro rfl
    rcases hc with rfl | hc
    · rw [hHC] at e; cases e
    · rw [hHC] at hc; cases hc
  · obtain ⟨_, f1, _, f3, f4, f5⟩ := hf b hb
    exact ⟨f3, f1, f4, f5⟩
end

section
variable {prog : Program} {w : World} {A : Around} {R : Result → Shared → Prop} {s : Shared}
abbrev testsOf (ifs : List Expr) (env : Env) : Sem Bool := forIn ifs true fun c r => if r = true then do let ok ← isTrue c env (eval c env); pure (ForInStep.yield ok) else pure (ForInStep.yield r)
theorem compLoop_any {elt target iter : Expr} {ifs : List Expr} {scope : Scope} {pos : Pos} {it acc : Value} {env : Env} (I : Nat → Shared → Prop)
    (turn : ∀ n s, I n s → wpAny (model prog w) A (pyNext it) (fun r s₁ => match r with
      | none => R (.ok .next) s₁
      | some v => wpAny (model prog w) A (letOwnedTupleGo target it v) (fun _ s₀ => wpAny (model prog w) A (assign target env v) (fun _ s₂ =>
          wpAny (model prog w) A (testsOf ifs env) (fun ok s₃ =>
            if ok = true then wpAny (model prog w) A (eval elt env) (fun x s₄ =>
              wpAny (model prog w) A (call (.builtin "list.append") [acc, x]) (fun _ s₅ => ∃ m, m < n ∧ I m s₅) (notedBy (model prog w) A env fun e s' => R (.error e) s') s₄) (notedBy (model prog w) A env fun e s' => R (.error e) s') s₃
            else ∃ m, m < n ∧ I m s₃) (notedBy (model prog w) A env fun e s' => R (.error e) s') s₂) (notedBy (model prog w) A env fun e s' => R (.error e) s') s₀) (notedBy (model prog w) A env fun e s' => R (.error e) s') s₁) (notedBy (model prog w) A env fun e s' => R (.error e) s') s)
    (n : Nat) (h : I n s) :
    codeAny (model prog w) A (.compLoop (.ListComp elt [⟨target, iter, ifs, 0⟩] scope pos) 0 it acc env) R s := by
  refine codeAny_loop rfl I (fun n s hI => ?_) n h
  show wpAny _ A ((compTurn (.ListComp elt [⟨target, iter, ifs, 0⟩] scope pos) 0 it acc env).onRaise (fun x => do noteFrame x env; theTreesLotGoes x)) _ _ s
  refine wpAny_noted ?_
  rw [compTurn_list]
  refine wpAny_bind (wpAny_standAt (wpAny_bind (wpAny_mono (turn n s hI) (fun r s₁ h₁ => ?_) fun _ _ h' => h')))
  cases r with
  | none => exact wpAny_pure h₁
  | some v =>
    refine wpAny_bind (wpAny_mono h₁ (fun _ s₀ h₀ => ?_) fun _ _ h' => h')
    refine wpAny_bind (wpAny_mono h₀ (fun _ s₂ h₂ => wpAny_bind (wpAny_mono h₂ (fun ok s₃ h₃ => ?_) fun _ _ h' => h')) fun _ _ h' => h')
    cases ok with
    | false => exact wpAny_pure ⟨rfl, h₃⟩
    | true =>
      exact wpAny_bind (wpAny_bind (wpAny_mono h₃ (fun x s₄ h₄ => wpAny_bind (wpAny_mono h₄ (fun _ s₅ h₅ => wpAny_pure (wpAny_pure ⟨rfl, h₅⟩)) fun _ _ h' => h')) fun _ _ h' => h'))
end

def PTs (X : Cx) (ifs : List Expr) (t : TT) : Prop :=
  ∀ (pins : List (Addr × Obj)) (s : Shared) (σ : St) (H : Hp) (Q : Bool → Hp → Prop), Inv X pins σ H s → t σ H Q → wpAny (model X.prog X.w) X.A (testsOf ifs X.env) (TP X pins σ Q) X.xe s
def tTrue : TT := fun _ H Q => Q true H
theorem pts_nil {X : Cx} : PTs X [] tTrue := fun _ _ _ H _ I h => wpAny_tests_nil ⟨H, I, h⟩
theorem pts_one {X : Cx} {c : Expr} {t : TT} (h : PT X c t) : PTs X [c] t := fun pins s σ H Q I q => wpAny_tests_one (h pins s σ H Q I q)

def CompLoop (J : It) (g : TG) (tt : TT) (te : TE) (n : Nat) (fr : St) (D : Addr) (Q : Hp → Prop) (H1 : Hp) : Prop :=
  ∃ W : Nat → Nat → List V → Hp → Prop, (∃ m, W 0 m [] H1) ∧ ∀ i m acc H, W i m acc H → H D = some (.lst acc) ∧
    ((J.stop i H ∧ Q H) ∨ (J.go i H ∧ acc.length < sizeLine ∧ ∃ N : List V → Hp → Prop, (∀ acc' H', N acc' H' → ∃ m', m' < m ∧ W (i + 1) m' acc' H') ∧
      ∀ x H', J.yld i H x H' → g x (List.replicate n none ++ fr) H' fun σ2 H2 => σ2.drop n = fr ∧ tt σ2 H2 fun b H3 =>
      if b = true then te σ2 H3 fun v H4 => H4 D = some (.lst acc) ∧ N (acc ++ [v]) (upd H4 D (.lst (acc ++ [v])))
      else N acc H3))
def tComp (wi : TI) (g : TG) (tt : TT) (te : TE) (n : Nat) (js : List Nat) : TE := fun σ H Q => wi σ H fun J H1 => ∀ D, H1 D = none → CompLoop J g tt te n (takeSt σ js) D (fun H2 => Q (.ref D) H2) (upd H1 D (.lst []))

structure TurnX (A : Around) (cm : Bool) (P : Program) (w : World) (K : PySem.W.Frag) (tg : Expr) (J : It) (fp : List Addr) (it : Addr) (tn : Nat → Heap → Prop) : Prop where
  mem : it ∈ fp
  obj : ∀ i h, tn i h → ∀ b ∈ fp, ∃ o, h.get? b = some o ∧ ∀ v, o.data ≠ .cell v
  keep : ∀ i h h', tn i h → (∀ b ∈ fp, ∀ o, h.get? b = some o → h'.get? b = some o) → tn i h'
  item : ∀ (X : Cx), X.prog = P → X.w = w → X.K = K → X.A = A → X.calm = cm → ∀ (i : Nat) (pins : List (Addr × Obj)) (s : Shared) (σ : St) (H : Hp) (E : Value → Shared → Prop), Inv X pins σ H s → (∀ b ∈ fp, FpOk X pins H b) → tn i s.heap → J.go i H →
    wpAny (model P w) X.A (pyNext (.ref it)) (fun r s1 => ∃ u, r = some u ∧
      wpAny (model P w) X.A (letOwnedTupleGo tg (.ref it) u) (fun _ s2 => ∃ x H', Inv X pins σ H' s2 ∧ RelV x u ∧ J.yld i H x H' ∧ tn (i + 1) s2.heap ∧ ∀ b ∈ fp, H' b = none) E s1) E s
  done : ∀ (X : Cx), X.prog = P → X.w = w → X.K = K → X.A = A → X.calm = cm → ∀ (i : Nat) (pins : List (Addr × Obj)) (s : Shared) (σ : St) (H : Hp) (E : Value → Shared → Prop), Inv X pins σ H s → (∀ b ∈ fp, FpOk X pins H b) → tn i s.heap → J.stop i H →
    wpAny (model P w) X.A (pyNext (.ref it)) (fun r s1 => r = none ∧ Inv X pins σ H s1) E s
  self : ∀ (A : Around) (i : Nat) (s : Shared) (Q : Value → Shared → Prop) (E : Value → Shared → Prop), tn i s.heap → Q (.ref it) s → wpAny (model P w) A (pyIter (.ref it)) Q E s
theorem Turn.x {A : Around} {cm : Bool} {P : Program} {w : World} {K : PySem.W.Frag} {tg : Expr} {J : It} {fp : List Addr} {it : Addr} {tn : Nat → Heap → Prop} (T : Turn P w K tg J fp it tn) (hc : cm = true) : TurnX A cm P w K tg J fp it tn :=
  ⟨T.mem, T.obj, T.keep, fun X a b c _ d => T.item X a b c (d.trans hc), fun X a b c _ d => T.done X a b c (d.trans hc), T.self⟩
section
variable {X : Cx} {elt iter tg : Expr} {ifs : List Expr} {scope : Scope} {pos : Pos} {own frees : List Str} {js : List Nat} {wi : TI} {g : TG} {tt : TT} {te : TE}
theorem comp_block {pins : List (Addr × Obj)} {σ : St} {H2 : Hp} {s2 : Shared} {it : Addr} {fp : List Addr} {tn : Nat → Heap → Prop} {J : It} {E : Value → Shared → Prop} {RR : Value → Addr → Result → Shared → Prop} {QQ : Addr → Hp → Prop}
    (T : CompText X scope own frees js)
    (hg : ∀ C s H fp, PG (cxComp X (own ++ frees) scope (fun _ _ => False) C s H fp) tg g)
    (ht : ∀ C s H fp, PTs (cxComp X (own ++ frees) scope (fun _ _ => False) C s H fp) ifs tt)
    (he : ∀ C s H fp, PE (cxComp X (own ++ frees) scope (fun _ _ => False) C s H fp) elt te)
    (I2 : Inv X pins σ H2 s2) (TT' : TurnX X.A X.calm X.prog X.w X.K tg J fp it tn) (st2 : tn 0 s2.heap) (f2 : ∀ b ∈ fp, FpOk X pins H2 b)
    (hl : ∀ D, H2 D = none → CompLoop J g tt te own.length (takeSt σ js) D (QQ D) (upd H2 D (.lst [])))
    (hRR : ∀ D C σ' H' s', s2.heap.objs.size ≤ C → Inv (cxComp X (own ++ frees) scope (fun _ _ => False) C s2 H2 fp) [] σ' H' s' → QQ D H' → RR (.ref D) C (.ok .next) s') :
    wpAny (model X.prog X.w) X.A (newList []) (fun acc s₃ => wpAny (model X.prog X.w) X.A (newFunctionEnv scope X.env.globals (closOf X.env.cells scope.names []) [] X.env.qual none .none (some X.env)) (fun cenv s₄ =>
      codeAny (model X.prog X.w) X.A (.compStart (.ListComp elt [⟨tg, iter, ifs, 0⟩] scope pos) 0 (.ref it) acc { cenv with scope := relabel scope X.env }) (RR acc cenv.locals) s₄) E s₃) E s2 := by
  refine wpAny_newObj_type (wpAny_newFunctionEnv T.nocell (by intro y hy; simp at hy) (fun h₁ hns₁ hsb₁ => ?_) T.kind)
  dsimp only at hns₁ hsb₁ ⊢
  generalize hH2 : s2.heap.push { cls := .type "list", dict := none, data := .seq ([] : List Value).toArray } = G2 at hns₁ hsb₁ ⊢
  have hC : G2.objs.size = s2.heap.objs.size + 1 := by rw [← hH2, Heap.size_push]
  have hDC : s2.heap.objs.size ≠ G2.objs.size := by rw [hC]; exact Nat.ne_of_lt (Nat.lt_succ_self _)
  have hCle : s2.heap.objs.size ≤ G2.objs.size := by rw [hC]; exact Nat.le_succ _
  have below : ∀ b, b < s2.heap.objs.size → b ≠ G2.objs.size := fun b hb => by rw [hC]; exact Nat.ne_of_lt (Nat.lt_succ_of_lt hb)
  have old : ∀ b o, s2.heap.get? b = some o → h₁.get? b = some o := fun b o e => hsb₁.extBut b o (below b (Heap.lt_size e)) (Heap.get?_push_of_some _ (hH2 ▸ Heap.get?_push_of_some _ e))
  have hacc : h₁.get? s2.heap.objs.size = some { cls := .type "list", data := .seq ([] : List Value).toArray 0 } := hsb₁.extBut _ _ hDC (Heap.get?_push_of_some _ (hH2 ▸ Heap.get?_push_size _ rfl))
  have fpo : ∀ b ∈ fp, ∃ o, s2.heap.get? b = some o := fun b hb => let ⟨o, e, _⟩ := TT'.obj _ _ st2 b hb; ⟨o, e⟩
  have st1 : tn 0 h₁ := TT'.keep _ _ _ st2 fun b _ o e => old b o e
  obtain ⟨W, ⟨m0, w0⟩, turn⟩ := hl s2.heap.objs.size (I2.hok.fresh (Nat.le_refl _))
  have hfx : ∀ {H' : Hp}, (∀ b ∈ fp, H' b = none) → ∀ b ∈ fp, FpOk (cxComp X (own ++ frees) scope (fun _ _ => False) G2.objs.size s2 H2 fp) [] H' b := fun {H'} hn b hb => by
    obtain ⟨_, f1, f2', _, f4, _⟩ := f2 b hb
    obtain ⟨o, ho⟩ := fpo b hb
    refine ⟨hn b hb, below b (Heap.lt_size ho), fun z => ?_, .inl hb, fun x c e => ?_, fun p hp => absurd (show p ∈ ([] : List (Addr × Obj)) from hp) (by simp)⟩
    · rcases List.mem_cons.mp (I2.stkSub b z) with q | q
      · exact f1 q
      · exact f2' q
    · rcases closOf_look (show (closOf X.env.cells scope.names []).lookup x = some c from e) with q | ⟨q1, q2⟩
      · cases q
      · obtain ⟨c', hc'⟩ := closure_ok I2 T x .free q1 rfl
        rw [hc'] at q2
        have q2 : c' = c := q2
        rw [← q2]
        exact f4 x c' hc'
  have fp0 : ∀ b ∈ fp, upd H2 s2.heap.objs.size (.lst []) b = none := fun b hb => by
    obtain ⟨o, ho⟩ := fpo b hb
    rw [upd_ne (Nat.ne_of_lt (Heap.lt_size ho))]
    exact (f2 b hb).1
  have back : ∀ {σ6 : St} {p6 : List (Addr × Obj)} {H6 : Hp} {s6 : Shared}, Inv (cxComp X (own ++ frees) scope (fun _ _ => False) G2.objs.size s2 H2 fp) p6 σ6 H6 s6 → σ6.drop own.length = takeSt σ js →
      Inv (cxComp X (own ++ frees) scope (fun _ _ => False) G2.objs.size s2 H2 fp) [] (List.replicate own.length none ++ takeSt σ js) H6 s6 := fun {σ6 p6 H6 s6} I6 hd => by
    have hl6 : σ6.length = (own ++ frees).length := I6.len
    have J6 := I6.pins_of (pins' := []) fun p hp => absurd hp (by simp)
    refine J6.weak ?_ fun i v e => ?_
    · have q := congrArg List.length hd
      rw [List.length_drop] at q
      rw [List.length_append] at hl6
      rw [List.length_append, List.length_replicate]
      (first | lia | omega)
    · by_cases hi : i < own.length
      · rw [List.getElem?_append_left (by simpa using hi), List.getElem?_replicate, if_pos hi] at e
        cases e
      · rw [List.getElem?_append_right (by simpa using hi), List.length_replicate, ← hd, List.getElem?_drop] at e
        rw [show own.length + (i - own.length) = i by (first | lia | omega)] at e
        exact e
  have loop : ∀ s₃ : Shared, s₃ = { s2 with heap := h₁, toks := s2.toks + ([] : List (Str × Value)).length } →
      codeAny (model X.prog X.w) X.A (.compLoop (.ListComp elt [⟨tg, iter, ifs, 0⟩] scope pos) 0 (.ref it) (.ref s2.heap.objs.size) (compEnvC scope (closOf X.env.cells scope.names []) G2.objs.size X.env))
        (RR (.ref s2.heap.objs.size) G2.objs.size) s₃ := by
    rintro s₃ rfl
    refine compLoop_any (fun n s' => ∃ i acc H', Inv (cxComp X (own ++ frees) scope (fun _ _ => False) G2.objs.size s2 H2 fp) [] (List.replicate own.length none ++ takeSt σ js) H' s' ∧ tn i s'.heap ∧ (∀ b ∈ fp, H' b = none) ∧ W i n acc H') ?_ m0
      ⟨0, [], upd H2 s2.heap.objs.size (.lst []), inv_comp I2 T f2 fpo (Nat.le_refl _) hCle hDC old hacc hns₁, st1, fp0, w0⟩
    rintro n s3 ⟨i, acc, H3, I3, st3, fr3, w3⟩
    obtain ⟨hD3, hcase⟩ := turn i n acc H3 w3
    rcases hcase with ⟨stop, qn⟩ | ⟨go, hz, NN, hNN, step⟩
    · refine wpAny_mono (TT'.done (cxComp X (own ++ frees) scope (fun _ _ => False) G2.objs.size s2 H2 fp) rfl rfl rfl rfl rfl i [] s3 _ H3 (fun _ _ => False) I3 (hfx fr3) st3 stop) (fun r s4 ⟨hr, I4⟩ => ?_) fun _ _ z => z.elim
      subst hr
      exact hRR _ _ _ H3 s4 hCle I4 qn
    · refine wpAny_mono (TT'.item (cxComp X (own ++ frees) scope (fun _ _ => False) G2.objs.size s2 H2 fp) rfl rfl rfl rfl rfl i [] s3 _ H3 (fun _ _ => False) I3 (hfx fr3) st3 go) (fun r s4 ⟨u, hr, h4⟩ => ?_) fun _ _ z => z.elim
      subst hr
      refine wpAny_mono h4 (fun _ s5 ⟨x, H5, I5, r5, y5, st5, fr5⟩ => ?_) fun _ _ z => z.elim
      have I5' := I5.pinned (hfx fr5) (TT'.obj _ _ st5)
      refine wpAny_mono (hg _ _ _ _ _ s5 _ H5 x u _ I5' r5 (step x H5 y5)) (fun _ s6 ⟨σ6, H6, I6, hd6, q6⟩ => ?_) fun _ _ z => z.elim
      refine wpAny_mono (ht _ _ _ _ _ s6 σ6 H6 _ I6 q6) (fun ok s7 ⟨H7, I7, q7⟩ => ?_) fun _ _ z => z.elim
      have again : ∀ {H8 : Hp} {s8 : Shared}, Inv (cxComp X (own ++ frees) scope (fun _ _ => False) G2.objs.size s2 H2 fp) ([] ++ pinsAt fp s5.heap) σ6 H8 s8 → tn (i + 1) s8.heap ∧ ∀ b ∈ fp, H8 b = none := fun {H8 s8} I8 => by
        refine ⟨TT'.keep _ _ _ st5 fun b hb o e => (I8.pin (b, o) (List.mem_append_right _ (List.mem_append_right _ (mem_pinsAt hb e)))).1, fun b hb => ?_⟩
        obtain ⟨o, e, d⟩ := TT'.obj _ _ st5 b hb
        exact (I8.pin (b, o) (List.mem_append_right _ (List.mem_append_right _ (mem_pinsAt hb e)))).2.1
      cases ok with
      | false =>
        rw [if_neg Bool.false_ne_true]
        obtain ⟨m', hm, w7⟩ := hNN _ _ q7
        obtain ⟨t7, n7⟩ := again I7
        exact ⟨m', hm, i + 1, acc, H7, back I7 hd6, t7, n7, w7⟩
      | true =>
        rw [if_pos rfl]
        refine wpAny_mono (he _ _ _ _ _ s7 σ6 H7 _ I7 q7) (fun xv s8 ⟨v, H8, I8, r8, hD8, q8⟩ => ?_) fun _ _ z => z.elim
        obtain ⟨m', hm, w8⟩ := hNN _ _ q8
        refine wpAny_mono (mt_append (X := cxComp X (own ++ frees) scope (fun _ _ => False) G2.objs.size s2 H2 fp) _ s8 σ6 H8 (.ref s2.heap.objs.size) [v] (.ref s2.heap.objs.size) [xv] (fun y H9 => y = .non ∧ H9 = upd H8 s2.heap.objs.size (.lst (acc ++ [v]))) I8 rfl (.cons r8 .nil) ⟨_, acc, v, rfl, rfl, hD8, hz, rfl, rfl⟩)
          (fun _ s9 ⟨y, H9, I9, _, _, e9⟩ => ?_) fun _ _ z => z.elim
        subst e9
        obtain ⟨t9, n9⟩ := again I9
        exact ⟨m', hm, i + 1, acc ++ [v], _, back I9 hd6, t9, n9, w8⟩
  exact codeAny_compStart_list (loop _ rfl) (TT'.self _ 0 _ _ _ st1 (loop _ rfl))

theorem pe_comp (T : CompText X scope own frees js) (hc : X.calm = true) (hi : PI X tg iter wi)
    (hg : ∀ C s H fp, PG (cxComp X (own ++ frees) scope (fun _ _ => False) C s H fp) tg g)
    (ht : ∀ C s H fp, PTs (cxComp X (own ++ frees) scope (fun _ _ => False) C s H fp) ifs tt)
    (he : ∀ C s H fp, PE (cxComp X (own ++ frees) scope (fun _ _ => False) C s H fp) elt te)
    (hs : ∀ x, foldedSetIterable iter X.env x = pure x := by intro _; rfl) :
    PE X (.ListComp elt [⟨tg, iter, ifs, 0⟩] scope pos) (tComp wi g tt te own.length js) := by
  intro pins s σ H Q I h
  rw [eval_ListComp]
  refine wpAny_comprehension_free (use := none) rfl hs (closure_is (closure_ok I T)) T.kind T.names ?_
  refine wpAny_mono (hi pins s σ H _ I h) (fun v s1 h1 => wpAny_mono h1 (fun itv s2 h2 => ?_) fun _ _ z => z) fun _ _ z => z
  obtain ⟨it, fp, tn, J, H2, e, I2, TT', st2, f2, hl⟩ := h2
  subst e
  refine comp_block (QQ := fun D H' => Q (.ref D) H') T hg ht he I2 (TT'.x hc) st2 f2 hl fun D C σ' H' s' hC J' q => ?_
  obtain ⟨m, hn, _⟩ := J'.loc
  exact ⟨m, hn, fun h' sb => ⟨.ref D, H', inv_comp_back I2 f2 hC J' sb, rfl, q⟩⟩
def tSetComp (i : Nat) (wi : TI) (g : TG) (tt : TT) (te : TE) (n : Nat) (js : List Nat) : TS := fun D σ H => tComp wi g tt te n js σ H fun v H1 => D.nx (σ.set i (some v)) H1
theorem ps_comp {i : Nat} {x : Str} {pos' spos : Pos} (hN : X.N.Nodup) (hix : X.N[i]? = some x) (hx : X.env.scope.names.lookup x = some .local) (T : CompText X scope own frees js) (hc : X.calm = true) (hi : PI X tg iter wi)
    (hg : ∀ C s H fp, PG (cxComp X (own ++ frees) scope (fun _ _ => False) C s H fp) tg g)
    (ht : ∀ C s H fp, PTs (cxComp X (own ++ frees) scope (fun _ _ => False) C s H fp) ifs tt)
    (he : ∀ C s H fp, PE (cxComp X (own ++ frees) scope (fun _ _ => False) C s H fp) elt te)
    (hsw : swapsWith (.ListComp elt [⟨tg, iter, ifs, 0⟩] scope pos) (some (.Name x pos')) spos.line X.env = pure true := by rfl)
    (hs : ∀ x, foldedSetIterable iter X.env x = pure x := by intro _; rfl) :
    PS X (.Assign [.Name x pos'] (.ListComp elt [⟨tg, iter, ifs, 0⟩] scope pos) spos) (tSetComp i wi g tt te own.length js) := by
  intro pins s σ H D I h
  rw [exec_Assign_Name_used _ _ _ _ hsw]
  refine wpAny_bind (wpAny_standAt (wpAny_bind ?_))
  show wpAny _ X.A (do let _ ← comprehension (.ListComp elt [⟨tg, iter, ifs, 0⟩] scope pos) scope X.env _ (newList []) false (eval iter X.env) (some (assign (.Name x pos') X.env))) _ _ s
  refine wpAny_bind (wpAny_mono (wpAny_comprehension_free (use := some (assign (.Name x pos') X.env)) (Q := fun _ s' => SP X pins D .next s') rfl hs (closure_is (closure_ok I T)) T.kind T.names ?_) (fun _ s' hq => wpAny_pure (wpAny_pure hq)) fun _ _ e => e)
  refine wpAny_mono (hi pins s σ H _ I h) (fun v s1 h1 => wpAny_mono h1 (fun itv s2 h2 => ?_) fun _ _ z => z) fun _ _ z => z
  obtain ⟨it, fp, tn, J, H2, e, I2, TT', st2, f2, hl⟩ := h2
  subst e
  refine comp_block (QQ := fun D' H' => D.nx (σ.set i (some (.ref D'))) H') T hg ht he I2 (TT'.x hc) st2 f2 hl fun D' C σ' H' s' hC J' q => ?_
  have I3 : Inv X pins σ H' s' := by
    obtain ⟨hh, gg, dd, tt', oo⟩ := s'
    exact inv_comp_back I2 f2 hC J' (Heap.SameBut.refl ..)
  obtain ⟨m, hn, _⟩ := J'.loc
  obtain ⟨oC, es, ep, hoC, hdC, rest⟩ := id hn
  have hHC : H' C = none := J'.free
  have hlC : C ≠ X.env.locals := Nat.ne_of_gt (Nat.lt_of_lt_of_le I2.lt hC)
  have hfC : C ∉ X.fs := fun z => by
    obtain ⟨_, o, ho, _⟩ := I2.funs.mem z
    exact absurd (Nat.lt_of_lt_of_le (Heap.lt_size ho) hC) (Nat.lt_irrefl _)
  have I4 : Inv X (pins ++ [(C, oC)]) σ H' s' := I3.pins_of fun p hp => (List.mem_append.mp hp).elim (fun z => I3.pin p (List.mem_append_right _ z)) fun z => by
    have e : p = (C, oC) := by simpa using z
    subst e
    exact ⟨hoC, hHC, hlC, hfC, fun v z => by have z' : oC.data = .cell v := z; rw [hdC] at z'; cases z'⟩
  show wpAny _ X.A (assign (.Name x pos') X.env (.ref D')) _ _ _
  refine wpAny_assign_Name (store_ok (v := .ref D') I4 hN hix (.inl hx) rfl (fun s5 I5 => ?_) (.inr hx))
  have e5 : s5.heap.get? C = some oC := (I5.pin (C, oC) (List.mem_append_right _ (List.mem_append_right _ (by simp)))).1
  refine ⟨m, ⟨oC, es, ep, e5, hdC, rest⟩, fun h' sb => ⟨_, H', ?_, q⟩⟩
  -- the block's names let go
  have I6 : Inv X pins (σ.set i (some (.ref D'))) H' s5 := I5.unpinned
  refine I6.turned (t' := s5.toks) (fun b o hb e => (sb.2 b hb).trans e) hHC hlC (.inr (Nat.le_trans I2.sz hC)) (fun y c e => ?_) (fun p hp z => ?_)
  · obtain ⟨v, qc⟩ := I2.cell y c e
    exact Nat.ne_of_lt (Nat.lt_of_lt_of_le qc.lt hC)
  · have hp2 := (I2.pin p hp).1
    exact absurd (Nat.lt_of_lt_of_le (Heap.lt_size hp2) (by rw [z]; exact hC)) (Nat.lt_irrefl _)
end

section
variable {K : PySem.W.Frag} {a : Addr} {xs : List V} {g : TG} {tt : TT} {te : TE} {n : Nat} {fr : St} {D : Addr} {Q : Hp → Prop} {H1 : Hp}
theorem comp_list (Pv : Nat → List V → Hp → Prop) (h0 : Pv 0 [] H1) (hl : ∀ i acc H, i ≤ xs.length → Pv i acc H → SqL K H a xs ∧ H D = some (.lst acc) ∧ acc.length ≤ i) (hz : xs.length ≤ sizeLine)
    (hs : ∀ i x acc H, xs[i]? = some x → Pv i acc H → g x (List.replicate n none ++ fr) H fun σ2 H2 => σ2.drop n = fr ∧ tt σ2 H2 fun b H3 =>
      if b = true then te σ2 H3 fun v H4 => H4 D = some (.lst acc) ∧ Pv (i + 1) (acc ++ [v]) (upd H4 D (.lst (acc ++ [v]))) else Pv (i + 1) acc H3)
    (hd : ∀ acc H, Pv xs.length acc H → Q H) : CompLoop (Itl K a) g tt te n fr D Q H1 := by
  refine ⟨fun i m acc H => m = xs.length - i ∧ i ≤ xs.length ∧ Pv i acc H, ⟨xs.length, by simp, Nat.zero_le _, h0⟩, ?_⟩
  rintro i m acc H ⟨rfl, hi, p⟩
  obtain ⟨q, hD, ha⟩ := hl i acc H hi p
  refine ⟨hD, ?_⟩
  by_cases hlt : i < xs.length
  · refine .inr ⟨⟨xs, xs[i], q, by simp [hlt]⟩, by (first | lia | omega), Pv (i + 1), fun acc' H' p' => ⟨xs.length - (i + 1), by (first | lia | omega), rfl, hlt, p'⟩, fun x H' y => ?_⟩
    obtain ⟨e, y⟩ := y
    subst e
    exact hs i x acc _ (y xs q) p
  · have e : i = xs.length := by (first | lia | omega)
    subst e
    exact .inl ⟨⟨xs, q, Nat.le_refl _⟩, hd acc H p⟩
theorem comp_tup (Pv : Nat → List V → Hp → Prop) (h0 : Pv 0 [] H1) (hl : ∀ i acc H, i ≤ xs.length → Pv i acc H → SqT K H a xs ∧ H D = some (.lst acc) ∧ acc.length ≤ i) (hz : xs.length ≤ sizeLine)
    (hs : ∀ i x acc H, xs[i]? = some x → Pv i acc H → g x (List.replicate n none ++ fr) H fun σ2 H2 => σ2.drop n = fr ∧ tt σ2 H2 fun b H3 =>
      if b = true then te σ2 H3 fun v H4 => H4 D = some (.lst acc) ∧ Pv (i + 1) (acc ++ [v]) (upd H4 D (.lst (acc ++ [v]))) else Pv (i + 1) acc H3)
    (hd : ∀ acc H, Pv xs.length acc H → Q H) : CompLoop (Itt K a) g tt te n fr D Q H1 := by
  refine ⟨fun i m acc H => m = xs.length - i ∧ i ≤ xs.length ∧ Pv i acc H, ⟨xs.length, by simp, Nat.zero_le _, h0⟩, ?_⟩
  rintro i m acc H ⟨rfl, hi, p⟩
  obtain ⟨q, hD, ha⟩ := hl i acc H hi p
  refine ⟨hD, ?_⟩
  by_cases hlt : i < xs.length
  · refine .inr ⟨⟨xs, xs[i], q, by simp [hlt]⟩, by (first | lia | omega), Pv (i + 1), fun acc' H' p' => ⟨xs.length - (i + 1), by (first | lia | omega), rfl, hlt, p'⟩, fun x H' y => ?_⟩
    obtain ⟨e, y⟩ := y
    subst e
    exact hs i x acc _ (y xs q) p
  · have e : i = xs.length := by (first | lia | omega)
    subst e
    exact .inl ⟨⟨xs, q, Nat.le_refl _⟩, hd acc H p⟩
theorem comp_range {lo : Int} {m : Nat} (Pv : Nat → List V → Hp → Prop) (h0 : Pv 0 [] H1) (hl : ∀ i acc H, i ≤ m → Pv i acc H → H D = some (.lst acc) ∧ acc.length ≤ i) (hz : m ≤ sizeLine)
    (hs : ∀ i acc H, i < m → Pv i acc H → g (.int (lo + i)) (List.replicate n none ++ fr) H fun σ2 H2 => σ2.drop n = fr ∧ tt σ2 H2 fun b H3 =>
      if b = true then te σ2 H3 fun v H4 => H4 D = some (.lst acc) ∧ Pv (i + 1) (acc ++ [v]) (upd H4 D (.lst (acc ++ [v]))) else Pv (i + 1) acc H3)
    (hd : ∀ acc H, Pv m acc H → Q H) : CompLoop (Itr lo m) g tt te n fr D Q H1 := by
  refine ⟨fun i k acc H => k = m - i ∧ i ≤ m ∧ Pv i acc H, ⟨m, by simp, Nat.zero_le _, h0⟩, ?_⟩
  rintro i k acc H ⟨rfl, hi, p⟩
  obtain ⟨hD, ha⟩ := hl i acc H hi p
  refine ⟨hD, ?_⟩
  by_cases hlt : i < m
  · refine .inr ⟨hlt, by (first | lia | omega), Pv (i + 1), fun acc' H' p' => ⟨m - (i + 1), by (first | lia | omega), rfl, hlt, p'⟩, fun x H' y => ?_⟩
    obtain ⟨e, y⟩ := y
    subst e y
    exact hs i acc _ hlt p
  · have e : i = m := by (first | lia | omega)
    subst e
    exact .inl ⟨Nat.le_refl _, hd acc H p⟩
end
end L2

namespace L2
open PySem PySem.Spec PyProof.Rows

def compLook (scope osc : Scope) (N frees : List Str) (js : List Nat) : Bool :=
  decide (scope.kind = .function) && scope.names.all (fun y => decide (y.2 ≠ .cell)) && scope.names.all (fun y => decide (y.2 = .local → scope.names.lookup y.1 = some .local)) &&
  scope.names.all (fun y => decide (y.2 = .free → osc.names.lookup y.1 = some .cell ∨ osc.names.lookup y.1 = some .free)) && decide (js.map (fun j => N[j]?) = frees.map some) && frees.all (fun x => decide (scope.names.lookup x = some .free))
theorem compText_of {X : Cx} {scope : Scope} {own frees : List Str} {js : List Nat} (osc : Scope) (N : List Str) (h1 : X.env.scope = osc := by rfl) (h2 : X.N = N := by rfl) (h : compLook scope osc N frees js = true := by decide +kernel) : CompText X scope own frees js := by
  unfold compLook at h
  simp only [Bool.and_eq_true, decide_eq_true_eq, List.all_eq_true] at h
  obtain ⟨⟨⟨⟨⟨a, b⟩, c⟩, d⟩, e⟩, f⟩ := h
  exact ⟨a, b, c, by rw [h1]; exact d, by rw [h2]; exact e, f⟩

mutual
inductive DatV (K : PySem.W.Frag) (H : Hp) : V → PyData → Prop
  | non : DatV K H .non .none
  | bl (b : Bool) : DatV K H (.bl b) (.bool b)
  | int (i : Int) : DatV K H (.int i) (.int i)
  | str (x : Str) : DatV K H (.str x) (.str x)
  | lst {a : Addr} {xs : List V} {ds : List PyData} (h : SqL K H a xs) (r : DatVs K H xs ds) : DatV K H (.ref a) (.list ds)
  | tup {a : Addr} {xs : List V} {ds : List PyData} (h : SqT K H a xs) (r : DatVs K H xs ds) : DatV K H (.ref a) (.tuple ds)
inductive DatVs (K : PySem.W.Frag) (H : Hp) : List V → List PyData → Prop
  | nil : DatVs K H [] []
  | cons {x : V} {d : PyData} {xs : List V} {ds : List PyData} (h : DatV K H x d) (r : DatVs K H xs ds) : DatVs K H (x :: xs) (d :: ds)
end
section
variable {X : Cx} {pins : List (Addr × Obj)} {σ : St} {H : Hp} {s : Shared}
mutual
theorem DatV.reads (I : Inv X pins σ H s) : ∀ {v : V} {d : PyData} {u : Value}, DatV X.K H v d → RelV v u → ∃ as, Reads s.heap u d as
  | _, _, u, .non, r => by cases (show u = Value.none from r); exact ⟨_, .none⟩
  | _, _, u, .bl b, r => by cases (show u = Value.bool b from r); exact ⟨_, .bool b⟩
  | _, _, u, .int i, r => by obtain ⟨t, rfl⟩ := (show ∃ t, u = Value.int i t from r); exact ⟨_, .int i t⟩
  | _, _, u, .str x, r => by obtain ⟨t, rfl⟩ := (show ∃ t, u = Value.str x t from r); exact ⟨_, .str x t⟩
  | _, _, u, .lst (a := a) h rs, r => by
    cases (show u = Value.ref a from r)
    obtain ⟨its, rv, ⟨o, n, e, c, _, d⟩, _⟩ := I.list h
    obtain ⟨as, q⟩ := DatVs.reads I rs rv
    exact ⟨_, .list e c d (by simpa using q)⟩
  | _, _, u, .tup (a := a) h rs, r => by
    cases (show u = Value.ref a from r)
    obtain ⟨its, rv, ⟨o, e, c, n, d⟩, _⟩ := I.tuple h
    obtain ⟨as, q⟩ := DatVs.reads I rs rv
    exact ⟨_, .tuple e c d (by simpa using q)⟩
theorem DatVs.reads (I : Inv X pins σ H s) : ∀ {vs : List V} {ds : List PyData} {us : List Value}, DatVs X.K H vs ds → Vals vs us → ∃ as, ReadsAll s.heap us ds as
  | _, _, _, .nil, .nil => ⟨_, .nil⟩
  | _, _, _, .cons h r, .cons rv rr => by
    obtain ⟨as, q⟩ := DatV.reads I h rv
    obtain ⟨bs, q2⟩ := DatVs.reads I r rr
    exact ⟨_, .cons q q2⟩
end
end
section
variable {X : Cx}
def rEqD (K : PySem.W.Frag) : R2 := fun x y H Q => ∃ d e, DatV K H x d ∧ DatV K H y e ∧ SeqAt.shaped d = true ∧ SeqAt.shaped e = true ∧ Q (.bl (PyData.eqv d e)) H
theorem op_eqD (hu : X.A.units + 64 < cLine) : OpR X (compareOp .Eq) (rEqD X.K) := by
  intro pins s σ H x y v u Q I rx ry h
  obtain ⟨d, e, h1, h2, s1, s2, q⟩ := h
  obtain ⟨as, ra⟩ := h1.reads I rx
  obtain ⟨bs, rb⟩ := h2.reads I ry
  exact eq_dataH ra rb s1 s2 hu ⟨.bl _, H, I, rfl, q⟩
theorem mt_bits : MtR X "int.bit_length" (fun x xs H Q => ∃ i, x = .int i ∧ xs = [] ∧ Q (.int (Builtin.Int.intBits i)) H) := by
  intro pins s σ H x xs v us Q I rx rs h
  obtain ⟨i, rfl, rfl, q⟩ := h
  obtain ⟨t, rfl⟩ := rx
  cases rs
  exact call_int_bit_length ⟨.int _, H, I.tok _, ⟨_, rfl⟩, q⟩
end
end L2
namespace L2
open PySem PySem.Spec PyProof.Rows
section
variable {X : Cx}
end
theorem dl {n : Nat} (h : Nat.ble n 1000 = true) : n ≤ sizeLine := Nat.le_of_lt (small1000 (Nat.le_of_ble_eq_true h))
theorem modC {j : Int} (h : decide (0 < j) = true) : 0 < j := of_decide_eq_true h
theorem iteD {c A B : Prop} [Decidable c] (h : ¬ c) (hb : B) : if decide c = true then A else B := by
  rw [decide_eq_false h]
  exact iteF hb
theorem iteP {c A B : Prop} [Decidable c] (h : c) (ha : A) : if decide c = true then A else B := by
  rw [decide_eq_true h]
  exact iteT ha
theorem Same.new {H : Hp} {p : Addr} {o : HO} (h : H p = none) : Same H (upd H p o) := fun b u e => by
  rw [upd_ne (ne_of_none e h)]
  exact e
theorem Same.put {H H2 : Hp} {D : Addr} {o : HO} (s : Same H H2) (h : H D = none) : Same H (upd H2 D o) := fun b u e => by
  rw [upd_ne (ne_of_none e h)]
  exact s b u e
def Tups (H H' : Hp) : Prop := ∀ b xs, H b = some (.tup xs) → H' b = some (.tup xs)
theorem Same.tups {H H' : Hp} (s : Same H H') : Tups H H' := fun b xs e => s b _ e
theorem Tups.trans {H H1 H2 : Hp} (a : Tups H H1) (b : Tups H1 H2) : Tups H H2 := fun c xs e => b c xs (a c xs e)
theorem Tups.put {H : Hp} {D : Addr} {o : HO} {ys : List V} (h : H D = some (.lst ys)) : Tups H (upd H D o) := fun b xs e => by
  rw [upd_ne (ne_of e h (by intro z; cases z))]
  exact e
theorem Paired.getP {α β : Type} {F : α → β → Prop} : ∀ {l : List α} {r : List β} {i : Nat} {x : α}, Paired F l r → l[i]? = some x → ∃ y, r[i]? = some y ∧ F x y
  | _, _, _, _, .nil, e => by simp at e
  | _, _, 0, _, .cons h _, e => by
    simp at e
    subst e
    exact ⟨_, rfl, h⟩
  | _, _, i + 1, x, .cons _ t, e => by
    obtain ⟨y, h1, h2⟩ := Paired.getP (i := i) (x := x) t (by simpa using e)
    exact ⟨y, by simpa using h1, h2⟩
theorem ints_cut (ns : List Int) (lo hi : Option Int) : cutV (ns.map V.int) lo hi = ((ns.drop (HT.sIx ns.length 0 lo)).take (HT.sIx ns.length ns.length hi - HT.sIx ns.length 0 lo)).map V.int := by
  unfold cutV
  rw [List.length_map, ← List.map_drop, ← List.map_take]
end L2

namespace L2
open PySem PySem.Spec PyProof.Rows
section
variable {X : Cx} {l : Expr} {tl : TE} {tg a b o e : Expr} {ta tb to : TE} {es : List Expr}
theorem op_eqK (K : PySem.W.Frag) (hu : X.A.units + 64 < cLine) (h : X.K = K := by rfl) : OpR X (compareOp .Eq) (rEqD K) := by subst h; exact op_eqD hu
def rLen (K : PySem.W.Frag) : List V → Hp → VK → Prop := fun xs H Q => ∃ p ys, xs = [.ref p] ∧ (SqL K H p ys ∨ SqT K H p ys) ∧ Q (.int ys.length) H
theorem lenK (K : PySem.W.Frag) (h : X.K = K := by rfl) : CallR X (.builtin "len") (rLen K) := by subst h; exact call_len_seq
def rList (K : PySem.W.Frag) : List V → Hp → VK → Prop := fun xs H Q => ∃ p ys, xs = [.ref p] ∧ (SqL K H p ys ∨ SqT K H p ys) ∧ ∀ l, H l = none → Q (.ref l) (upd H l (.lst ys))
theorem listK (K : PySem.W.Frag) (h : X.K = K := by rfl) : CallR X (.type "list") (rList K) := by subst h; exact call_list_of
def rTupl (K : PySem.W.Frag) : List V → Hp → VK → Prop := fun xs H Q => ∃ p ys, xs = [.ref p] ∧ ((SqL K H p ys ∧ ∀ l, H l = none → Q (.ref l) (upd H l (.tup ys))) ∨ (SqT K H p ys ∧ Q (.ref p) H))
theorem tuplK (K : PySem.W.Frag) (h : X.K = K := by rfl) : CallR X (.type "tuple") (rTupl K) := by subst h; exact call_tuple_of
theorem ixL (K : PySem.W.Frag) (h : X.K = K := by rfl) : IxR X (rIxL K) := by subst h; exact ix_list
theorem ixT (K : PySem.W.Frag) (h : X.K = K := by rfl) : IxR X (rIxT K) := by subst h; exact ix_tup
theorem slL (K : PySem.W.Frag) (h : X.K = K := by rfl) : SlR X (rSlL K) := by subst h; exact sl_list
theorem inK (K : PySem.W.Frag) (h : X.K = K := by rfl) : OpR X (compareOp .In) (rIn K false) := by subst h; exact op_in_seq
theorem notInK (K : PySem.W.Frag) (h : X.K = K := by rfl) : OpR X (compareOp .NotIn) (rIn K true) := by subst h; exact op_notIn_seq
theorem piL (K : PySem.W.Frag) (hl : PE X l tl) (h : X.K = K := by rfl) : PI X tg l (iList K tl) := by subst h; exact pi_list hl
theorem piT (K : PySem.W.Frag) (hl : PE X l tl) (h : X.K = K := by rfl) : PI X tg l (iTup K tl) := by subst h; exact pi_tup hl
theorem pgT (K : PySem.W.Frag) {k : Nat} {t : TGs} {n : Nat} {pos : Pos} (hc : X.calm = true) (hp : PGs X es t) (hn : (assignEach es X.env).length = n := by rfl) (hst : (assignEach es X.env).findIdx? (·.1) = none := by rfl) (h : X.K = K := by rfl) :
    PG X (.Tuple es k pos) (gTup K n t) := by subst h; exact pg_tup hc hp hn hst
end
end L2

namespace L2
open PySem PySem.Spec PyProof.Rows

def SecD (od : Option Addr) (c : Value) (e : Addr) (h : Heap) : Prop := ∃ oe vs, h.get? e = some oe ∧ oe.data = .fields vs ∧ vs[2]? = some c ∧ oe.dict = od
theorem dict_map (o : Obj) (f) : (o.mapFields f).dict = o.dict := by
  obtain ⟨c, d, dt, sl⟩ := o
  cases dt <;> rfl
section
variable {M : Model} {A : Around} {E : Value → Shared → Prop} {s : Shared} {B : Heap} {env : Env} {outer l : List Env} {L e : Addr} {cls a0 : Value} {Q : Unit → Shared → Prop} {od : Option Addr} {c : Value}
theorem upd_rec {h : Heap} {T : Addr} {oT : Obj} {ts : Array Value} (f : Obj → Obj) (hT : h.get? T = some oT) (hd : oT.data = .fields ts) : h.UpToSlots (h.update T f) := fun b o hb hn => by
  have ne : T ≠ b := fun z => by
    rw [← z, hT] at hb
    cases hb
    exact hn ts hd
  exact ⟨o.slots, (Heap.get?_update_other h f ne).trans hb⟩
theorem stays_rec {h : Heap} {T : Addr} (f : Obj → Obj) (k : B.StaysIn h) (n : B.get? T = none) : B.StaysIn (h.update T f) := fun b o hb => by
  have ne : T ≠ b := fun z => by
    rw [← z, n] at hb
    cases hb
  exact (Heap.get?_update_other h f ne).trans (k b o hb)
theorem FunFrames_up {h h' : Heap} (x : h.FunFrames B l) (u : h.UpToSlots h') : h'.FunFrames B l := x.of_keeps fun b o hb hn =>
  let ⟨_, q⟩ := u b o hb hn
  ⟨_, q, rfl⟩
theorem land2 {fl : Value} (hk : B.StaysIn s.heap) (hn : B.get? e = none) (hl : s.heap.FunFrames B l) (ht : s.heap.TracedAtW B e cls a0 fl) (h2 : SecD od c e s.heap)
    (q : ∀ h', Heap.FlyingW B l e cls a0 h' → SecD od c e h' → s.heap.UpToSlots h' → Q () { s with heap := h' }) : wpAny M A (setFlight (.ref e) none) Q E s := by
  obtain ⟨oe, vs, T, oT, ts, ge, hc, de, f1, nT, Te, gT, dT, f3⟩ := ht
  have z3 : 3 < ts.size := (Array.getElem?_eq_some_iff.mp f3).1
  rw [setFlight]
  refine wpAny_bind (wpAny_field ge de f1 ?_)
  rw [if_pos (by simp)]
  refine wpAny_setField gT dT z3 ?_
  have up := upd_rec (Obj.mapFields (·.setIfInBounds 3 ((none : Option Addr).elim Value.none fun f => rawInt f))) gT dT
  have ge' := (Heap.get?_update_other s.heap (Obj.mapFields (·.setIfInBounds 3 ((none : Option Addr).elim Value.none fun f => rawInt f))) Te).trans ge
  have dT' := Obj.data_mapFields dT (·.setIfInBounds 3 ((none : Option Addr).elim Value.none fun f => rawInt f))
  refine q _ ⟨stays_rec _ hk nT, hn, FunFrames_up hl up, oe, vs, T, _, _, ge', hc, de, f1, nT, Te, Heap.get?_update_self _ gT (Obj.isFreed_of_fields dT'), dT', by simp [z3]⟩ ?_ up
  obtain ⟨o2, v2, g2, d2, k2, z2⟩ := h2
  rw [ge] at g2
  cases g2
  exact ⟨oe, v2, ge', d2, k2, z2⟩
theorem entry2 {oe : Obj} {vs : Array Value} {head : Value} {hadNext : Bool} (hfr : A.frames = some (env :: outer)) (hl : s.heap.FunFrames B (env :: outer)) (hf : env.frame = some L) (ge : s.heap.get? e = some oe) (hk : B.StaysIn s.heap) (hn : B.get? e = none)
    (de : oe.data = .fields vs) (hz : 1 < vs.size) (h0 : vs[0]? = some a0) (h2 : vs[2]? = some c) (hz2 : oe.dict = od)
    (q : ∀ h', Heap.HeldW B (env :: outer) e oe.cls a0 L h' → SecD od c e h' → s.heap.UpToSlots h' → Q () { s with heap := h' }) :
    wpAny M A (do let a ← frameOf env; let pl ← entryPlaceOf L hadNext; let b ← EntryCells.newEntry head a .none (rawInt L) .none pl; setField (.ref e) 1 b) Q E s := by
  have noFr : e ∉ (env :: outer).filterMap (·.frame) := fun z => by
    obtain ⟨_, o, ho, nf⟩ := hl.mem z
    rw [ge] at ho
    cases ho
    exact nf vs de
  refine wpAny_bind (wpAny_frameOf_fun hfr hl hf fun h1 so => wpAny_bind (wpAny_entryPlaceOf fun pl ip => ?_))
  rw [EntryCells.newEntry, newFields]
  refine wpAny_bind (wpAny_newObj_type ?_ (ip.sizeOk5 _ _ _ _ _))
  generalize hnw : ({ cls := .type "traceback", dict := none, data := .fields ([head, .ref L, .none, rawInt L, .none] ++ (if pl.isEmpty then List.replicate 6 Value.none else pl)).toArray } : Obj) = nw
  have dn : nw.data = .fields ([head, .ref L, .none, rawInt L, .none] ++ (if pl.isEmpty then List.replicate 6 Value.none else pl)).toArray := by rw [← hnw]
  have ge1 : h1.get? e = some oe := (so.2.1 e noFr).trans ge
  have ge2 := Heap.get?_push_of_some (h := h1) nw ge1
  have Te : h1.objs.size ≠ e := Nat.ne_of_gt (Heap.lt_size ge1)
  refine wpAny_setField ge2 de hz ?_
  have de3 := Obj.data_mapFields de (·.setIfInBounds 1 (Value.ref h1.objs.size))
  have ge3 := Heap.get?_update_self (Obj.mapFields (·.setIfInBounds 1 (Value.ref h1.objs.size))) ge2 (Obj.isFreed_of_fields de3)
  have gT3 := (Heap.get?_update_other (h1.push nw) (Obj.mapFields (·.setIfInBounds 1 (Value.ref h1.objs.size))) (Ne.symm Te)).trans (Heap.get?_push_size h1 (by rw [← hnw]; rfl))
  have up : s.heap.UpToSlots ((h1.push nw).update e (Obj.mapFields (·.setIfInBounds 1 (Value.ref h1.objs.size)))) := by
    have u1 : s.heap.UpToSlots h1 := fun b o hb _ => so.2.2 b o hb
    exact (u1.trans (.of_keeps fun b o hb => Heap.get?_push_of_some nw hb)).trans (upd_rec _ ge2 de)
  have k1 : B.StaysIn h1 := fun b o hb => (so.2.1 b fun z => by rw [(hl.mem z).1] at hb; cases hb).trans (hk b o hb)
  have k2 : B.StaysIn (h1.push nw) := fun b o hb => Heap.get?_push_of_some nw (k1 b o hb)
  refine q _ ⟨stays_rec _ k2 hn, hn, FunFrames_up hl up, _, _, h1.objs.size, nw, _, ge3, ⟨Obj.cls_mapFields _ _, by rw [Array.getElem?_setIfInBounds_ne (by decide)]; exact h0⟩, de3, by simp [hz], k1.fresh, Te, gT3, dn, ?_⟩ ?_ up
  · first | (simp; done) | (rcases ip with rfl | ⟨_, _, _, _, _, _, _, rfl⟩ <;> simp)
  · exact ⟨_, _, ge3, de3, by rw [Array.getElem?_setIfInBounds_ne (by decide)]; exact h2, (dict_map _ _).trans hz2⟩
theorem note2 (hfr : A.frames = some (env :: outer)) (hf : env.frame = some L) (fl : Heap.FlyingW B (env :: outer) e cls a0 s.heap) (h2 : SecD od c e s.heap)
    (q : ∀ h', Heap.HeldW B (env :: outer) e cls a0 L h' → SecD od c e h' → s.heap.UpToSlots h' → Q () { s with heap := h' }) : wpAny M A (noteFrame (.ref e) env) Q E s := by
  obtain ⟨hk, hn, hl, oe, vs, T, oT, ts, ge, ⟨hc, h0⟩, de, f1, nT, Te, gT, dT, f3⟩ := fl
  obtain ⟨o2, v2, g2, d2, k2, z2⟩ := h2
  rw [ge] at g2
  cases g2
  rw [de] at d2
  cases d2
  cases hc
  rw [noteFrame]
  simp only [hf]
  refine wpAny_bind (wpAny_field ge de f1 ?_)
  rw [if_pos (by simp)]
  refine wpAny_bind (wpAny_field gT dT f3 ?_)
  rw [if_neg (by simp [rawInt])]
  refine wpAny_bind (wpAny_setField gT dT (Array.getElem?_eq_some_iff.mp f3).1 ?_)
  have up := upd_rec (Obj.mapFields (·.setIfInBounds 3 Value.none)) gT dT
  have ge' := (Heap.get?_update_other s.heap (Obj.mapFields (·.setIfInBounds 3 Value.none)) Te).trans ge
  exact entry2 (s := { s with heap := s.heap.update T (Obj.mapFields (·.setIfInBounds 3 Value.none)) }) hfr (FunFrames_up hl up) hf ge' (stays_rec _ hk nT) hn de (Array.getElem?_eq_some_iff.mp f1).1 h0 k2 z2 fun h' x1 x2 x3 => q h' x1 x2 (up.trans x3)
theorem fly2 (x : Heap.FlyingW B (env :: outer) e cls a0 s.heap) : Heap.FlyingW B outer e cls a0 s.heap :=
  let ⟨k1, k2, ⟨_, _, k3⟩, k4⟩ := x
  ⟨k1, k2, k3, k4⟩
theorem leave_on2 (hfr : A.frames = some (env :: outer)) (hf : env.frame = some L) (fl : Heap.FlyingW B (env :: outer) e cls a0 s.heap) (h2 : SecD od c e s.heap)
    (q : ∀ h', Heap.FlyingW B outer e cls a0 h' → SecD od c e h' → s.heap.UpToSlots h' → Q () { s with heap := h' }) : wpAny M A (leaving env (.ref e)) Q E s := by
  rw [leaving]
  refine wpAny_bind (note2 hfr hf fl h2 fun h' x1 x2 x3 => ?_)
  obtain ⟨y1, y2, y3, y4⟩ := x1
  exact land2 (s := { s with heap := h' }) y1 y2 y3 y4 x2 fun h'' z1 z2 z3 => q h'' (fly2 (s := { s with heap := h'' }) z1) z2 (x3.trans z3)
theorem leave_new {oe : Obj} {vs : Array Value} (hfr : A.frames = some (env :: outer)) (hf : env.frame = some L) (hk : B.StaysIn s.heap) (hn : B.get? e = none) (hl : s.heap.FunFrames B (env :: outer)) (ge : s.heap.get? e = some oe) (de : oe.data = .fields vs)
    (h0 : vs[0]? = some a0) (h1 : vs[1]? = some .none) (h2 : vs[2]? = some c) (hz2 : oe.dict = od)
    (q : ∀ h', Heap.FlyingW B outer e oe.cls a0 h' → SecD od c e h' → s.heap.UpToSlots h' → Q () { s with heap := h' }) : wpAny M A (leaving env (.ref e)) Q E s := by
  rw [leaving, noteFrame]
  simp only [hf]
  refine wpAny_bind (wpAny_bind (wpAny_field ge de h1 ?_))
  rw [if_neg (by decide)]
  refine entry2 (a0 := a0) hfr hl hf ge hk hn de (Array.getElem?_eq_some_iff.mp h1).1 h0 h2 hz2 fun h' x1 x2 x3 => ?_
  obtain ⟨y1, y2, y3, y4⟩ := x1
  exact land2 (s := { s with heap := h' }) y1 y2 y3 y4 x2 fun h'' z1 z2 z3 => q h'' (fly2 (s := { s with heap := h'' }) z1) z2 (x3.trans z3)
end
end L2

namespace L2
open PySem PySem.Spec PyProof.Rows

section
variable {P : Program} {w : World} {H H0 H1 : Hp} {h h0 h1 h2 : Heap} {a : Addr} {o : HO} {fs : List Addr} {B : Heap}
theorem ObjOk.thing (x : ObjOk P w H h a o) : ∃ ob, h.get? a = some ob := by
  cases o with
  | lst xs => obtain ⟨_, _, _, _, e⟩ := x; exact ⟨_, e⟩
  | tup xs => obtain ⟨_, _, _, ob, e, _⟩ := x; exact ⟨ob, e⟩
  | dK kvs => obtain ⟨_, _, _, _, ob, _, _, e, _⟩ := x; exact ⟨ob, e⟩
  | dT kvs => obtain ⟨_, _, _, _, ob, _, _, e, _⟩ := x; exact ⟨ob, e⟩
  | set S n => obtain ⟨ob, _, _, _, e, _⟩ := x; exact ⟨ob, e⟩
  | ins C dx fs => obtain ⟨_, _, _, e, _⟩ := x; exact ⟨_, e⟩
  | own y => exact x
  | xd fs => obtain ⟨_, ⟨ob, _, _, e, _⟩, _⟩ := x; exact ⟨ob, e⟩
  | rng lo hi => obtain ⟨_, _, _, e⟩ := x; exact ⟨_, e⟩
  | frz ob u => obtain ⟨e, _⟩ := x; exact ⟨_, e⟩
  | tbl ps => exact ⟨_, (show h.get? a = some _ from x)⟩
  | met f y => exact ⟨_, (show h.get? a = some _ from x)⟩
  | ext φ => obtain ⟨_, e, _⟩ := x; exact e
def Cov (B : Heap) (fs : List Addr) (h0 : Heap) (H : Hp) (h : Heap) : Prop := ∀ b o, h.get? b = some o → (H b ≠ none ∨ ∃ o', h0.get? b = some o') → b ∉ fs → B.get? b = some o
theorem stays_un (un : Un fs [] H0 H1 h0 h1) (hok : HOk P w H1 h1) (nof : ∀ b ∈ fs, H1 b = none) (fr : ∀ b ∈ fs, ∀ ob, h1.get? b = some ob → ∀ vs, ob.data ≠ .fields vs) (cov : Cov B fs h0 H1 h1)
    (hB : B.StaysIn h2) (up : h1.UpToSlots h2) : Un fs [] H0 H1 h0 h2 ∧ HOk P w H1 h2 ∧ Cov B fs h0 H1 h2 := by
  have inB : ∀ b ob, h1.get? b = some ob → (H1 b ≠ none ∨ ∃ o', h0.get? b = some o') → b ∉ fs → h2.get? b = some ob := fun b ob e c n => hB b ob (cov b ob e c n)
  have trk : ∀ b u, H1 b = some u → b ∉ fs := fun b u e z => by
    rw [nof b z] at e
    cases e
  refine ⟨⟨fun b ob e n hb hx => inB b ob (un.keep b ob e n hb hx) (.inr ⟨ob, e⟩) hb, fun b ob e n hb hx => ?_, un.free, fun b ob e hx => ?_, un.tups, un.frzs, un.tbls⟩, fun b u e => ?_, fun b ob e c n => ?_⟩
  · obtain ⟨sl, q⟩ := un.slot b ob e n hb hx
    obtain ⟨sl', q'⟩ := up b _ q (fr b hb _ q)
    exact ⟨sl', q'⟩
  · obtain ⟨o', q⟩ := un.there b ob e hx
    by_cases hb : b ∈ fs
    · obtain ⟨sl', q'⟩ := up b _ q (fr b hb _ q)
      exact ⟨_, q'⟩
    · exact ⟨o', inB b o' q (.inr ⟨ob, e⟩) hb⟩
  · refine (hok b u e).stay (fun c v hc q => ?_) (fun _ q => q) fun _ _ q => q
    have hct : ∃ z, H1 c = some z := by
      rcases hc with hc | hc
      · rw [hc]
        exact ⟨u, e⟩
      · exact ⟨_, hc⟩
    obtain ⟨z, hz⟩ := hct
    exact inB c v q (.inl (by rw [hz]; simp)) (trk c z hz)
  · have ht : ∃ o1, h1.get? b = some o1 := by
      rcases c with c | ⟨o', c⟩
      · cases hz : H1 b with
        | none => exact absurd hz c
        | some z => exact (hok b z hz).thing
      · exact un.there b o' c (by simp)
    obtain ⟨o1, q⟩ := ht
    have q2 := cov b o1 q c n
    have q3 := hB b o1 q2
    rw [e] at q3
    rw [Option.some.inj q3]
    exact q2
end
def ExcO (ea : Addr) (cls : Value) : HO := .ext fun h => ∃ oe vs, h.get? ea = some oe ∧ oe.cls = cls ∧ oe.data = .fields vs ∧ vs[2]? = some .none
def CtxE (E : XK) (cls : Value) (od : Option Addr) (c : Value) (H : Hp) : Prop := (c = .none ∧ (∃ C0 : Addr, cls = .ref C0) ∧ E cls od H) ∨ ∃ C e' C', cls = .ref C ∧ od = none ∧ c = .ref e' ∧ H e' = some (ExcO e' C') ∧ E (.int (C : Int) e') none H
def CX1 (P : Program) (w : World) : CXT := fun outer H s E e s' => ∃ (ea : Addr) (cls a0 : Value) (od : Option Addr) (c : Value) (H' : Hp) (B : Heap), e = .ref ea ∧ s'.os = s.os ∧ AllBare s'.gens ∧ Un (frs outer) [] H H' s.heap s'.heap ∧ HOk P w H' s'.heap ∧ H' ea = none ∧
  Cov B (frs outer) s.heap H' s'.heap ∧ Heap.FlyingW B outer ea cls a0 s'.heap ∧ SecD od c ea s'.heap ∧ CtxE E cls od c H'
structure Out (X : Cx) (E : XK) : Prop where
  stk : X.stack = X.env :: X.outer
  fr : X.env.frame = some X.env.locals
  ex : X.ex = []
  xe : ∀ e s', wpAny (model X.prog X.w) X.A (leaving X.env e) (fun _ s'' => CX1 X.prog X.w X.outer X.H₀ X.s₀ E e s'') (fun e' s'' => CX1 X.prog X.w X.outer X.H₀ X.s₀ E e' s'') s' → X.xe e s'
def Thr (X : Cx) (E : XK) : Prop := ∀ (pins : List (Addr × Obj)) (σ : St) (H : Hp) (s : Shared) (h1 : Heap) (ea C0 : Addr) (vs : List Value), Inv X pins σ H s → Heap.MadeExcOf s.heap h1 ea (.ref C0) vs → E (.ref C0) none H → X.xe (.ref ea) { s with heap := h1 }
section
variable {X : Cx} {E : XK} {pins : List (Addr × Obj)} {σ : St} {H : Hp} {s : Shared}
theorem Inv.fsData (I : Inv X pins σ H s) : ∀ b ∈ X.fs, ∀ ob, s.heap.get? b = some ob → ∀ vs, ob.data ≠ .fields vs := fun b hb ob e => by
  obtain ⟨_, o, ho, hnf⟩ := I.funs.mem hb
  rw [e] at ho
  cases ho
  exact hnf
theorem Inv.fsFree (I : Inv X pins σ H s) (hx : X.ex = []) : ∀ b ∈ X.fs, H b = none := fun b hb => by
  obtain ⟨_, o, ho, _⟩ := I.ok.funs.mem hb
  exact I.base.free b o ho (I.ok.frf b hb) (by rw [hx]; simp)
theorem Cov.outer {B h0 : Heap} {h : Heap} (I : Inv X pins σ H s) (cov : Cov B (frs X.stack) h0 H h) (k : ∀ b o, X.s₀.heap.get? b = some o → ∃ o', h0.get? b = some o') : Cov B X.fs X.s₀.heap H h := fun b o e c n => by
  refine cov b o e (c.imp id fun ⟨o', q⟩ => k b o' q) fun z => ?_
  rcases List.mem_cons.mp (I.stkSub b z) with q | q
  · subst q
    rcases c with c | ⟨o', c⟩
    · exact c I.free
    · exact absurd (Nat.lt_of_lt_of_le (Heap.lt_size c) I.ok.above) (Nat.lt_irrefl _)
  · exact n q
theorem fly_out (O : Out X E) (I : Inv X pins σ H s) {B : Heap} {ea : Addr} {cls a0 : Value} {od : Option Addr} {c : Value} {h2 : Heap} (cov : Cov B X.fs X.s₀.heap H s.heap) (fl : Heap.FlyingW B X.outer ea cls a0 h2) (sc : SecD od c ea h2) (up : s.heap.UpToSlots h2) (hn : H ea = none) (q : CtxE E cls od c H) :
    CX1 X.prog X.w X.outer X.H₀ X.s₀ E (.ref ea) { s with heap := h2 } := by
  have un : Un X.fs [] X.H₀ H X.s₀.heap s.heap := by
    have u := I.base
    rw [O.ex] at u
    exact u
  obtain ⟨u2, ok2, c2⟩ := stays_un un I.hok (I.fsFree O.ex) I.fsData cov fl.1 up
  exact ⟨ea, cls, a0, od, c, H, B, rfl, I.os, I.bare, u2, ok2, hn, c2, fl, sc, q⟩
theorem Out.thrC (O : Out X E) {ea : Addr} {oe : Obj} {vs : Array Value} {a0 c : Value} (I : Inv X pins σ H s) (ge : s.heap.get? ea = some oe) (de : oe.data = .fields vs) (h0 : vs[0]? = some a0) (h1 : vs[1]? = some .none) (h2 : vs[2]? = some c)
    (hn : H ea = none) (new : X.s₀.heap.get? ea = none) (q : CtxE E oe.cls oe.dict c H) : X.xe (.ref ea) s := by
  refine O.xe _ _ ?_
  have hfr : X.A.frames = some (X.env :: X.outer) := by rw [I.ok.frames, O.stk]
  have hl : s.heap.FunFrames (PySem.W.hideAll s.heap (ea :: frs X.stack)) (X.env :: X.outer) := by
    have z := PySem.W.funFrames_hide (as := ea :: frs X.stack) I.stack fun env he b hb => List.mem_cons_of_mem _ (List.mem_filterMap.mpr ⟨env, he, hb⟩)
    rw [O.stk] at z ⊢
    exact z
  refine leave_new hfr O.fr (fun b o e => PySem.W.of_hideAll _ e) (PySem.W.hideAll_none _ (List.mem_cons_self ..)) hl ge de h0 h1 h2 rfl fun h3 fl sc up => ?_
  refine fly_out O I (Cov.outer I (h0 := X.s₀.heap) (fun b o e c n => ?_) fun b o e => ⟨o, e⟩) fl sc up hn q
  refine PySem.W.hideAll_get _ e fun z => ?_
  rcases List.mem_cons.mp z with z | z
  · subst z
    rcases c with c | ⟨o', c⟩
    · exact c hn
    · rw [new] at c
      cases c
  · exact n z
theorem Out.thrG (O : Out X E) {ea : Addr} {oe : Obj} {vs : Array Value} {a0 : Value} (I : Inv X pins σ H s) (ge : s.heap.get? ea = some oe) (de : oe.data = .fields vs) (h0 : vs[0]? = some a0) (h1 : vs[1]? = some .none) (h2 : vs[2]? = some .none)
    (hn : H ea = none) (new : X.s₀.heap.get? ea = none) (hcl : ∃ C0 : Addr, oe.cls = .ref C0) (q : E oe.cls oe.dict H) : X.xe (.ref ea) s := O.thrC I ge de h0 h1 h2 hn new (.inl ⟨rfl, hcl, q⟩)
theorem Out.thr (O : Out X E) : Thr X E := by
  intro pins σ H s h1 ea C0 vs I mk q
  have I1 : Inv X pins σ H { s with heap := h1 } := I.kept (t' := s.toks) mk.keeps
  have hn : H ea = none := by
    cases hz : H ea with
    | none => rfl
    | some z =>
      obtain ⟨ob, e⟩ := (I.hok ea z hz).thing
      rw [mk.new] at e
      cases e
  obtain ⟨t, ge, _, _⟩ := mk.there
  refine O.thrG I1 (a0 := .ref t) ge rfl rfl rfl rfl hn ?_ ⟨_, rfl⟩ q
  cases hz : X.s₀.heap.get? ea with
  | none => rfl
  | some o =>
    obtain ⟨o', e⟩ := I.base.there ea o hz (by rw [O.ex]; simp)
    rw [mk.new] at e
    cases e
theorem Inv.threw {H' : Hp} {s' : Shared} (I : Inv X pins σ H s) (os : s'.os = s.os) (bare : AllBare s'.gens) (un : Un (frs X.stack) [] H H' s.heap s'.heap) (hok : HOk X.prog X.w H' s'.heap) : Inv X pins σ H' s' :=
  I.call' (ch := []) os un hok bare fun b z => absurd z (by simp)
theorem Out.passes (O : Out X E) : Passes (CX1 X.prog X.w) X E := by
  intro pins σ H s e s' I q
  obtain ⟨ea, cls, a0, od, c, H', B, rfl, os, bare, un, hok, hn, cov, fl, sc, qE⟩ := q
  have I1 := I.threw os bare un hok
  refine O.xe _ _ ?_
  have hfr : X.A.frames = some (X.env :: X.outer) := by rw [I.ok.frames, O.stk]
  rw [O.stk] at fl
  refine leave_on2 hfr O.fr fl sc fun h2 fl2 sc2 up => ?_
  exact fly_out O I1 (Cov.outer I1 cov fun b o e => I.base.there b o e (by rw [O.ex]; simp)) fl2 sc2 up hn qE
end
theorem out_of {P : Program} {w : World} {K : PySem.W.Frag} {mg : Str → Option Value} {base : Heap} {N : List Str} {qual : Str} {scope : Scope} {f : Addr} {cd : Value} {A : Around} {outer : List Env} {s : Shared} {H : Hp} {E : XK} :
    Out (cxOf (CX1 P w) P w K mg base N qual scope f cd A outer s H E) E := ⟨rfl, rfl, rfl, fun _ _ h => h⟩
theorem Fun.ok1 {P : Program} {w : World} {K : PySem.W.Frag} {mg : Str → Option Value} {base : Heap} {x qual : Str} {st : Stmt} {f : Addr} {fd : FuncData} {N ps : List Str} {k : Nat} {sp : Sp} (F : Fun K x qual st f fd) (S : FnScope N ps (defScope st))
    (len : ∀ vs H Q E, sp vs H Q E → vs.length = ps.length)
    (hbody : ∀ (cdv : Value) (A : Around) (outer : List Env) (s : Shared) (H : Hp) (vs : List V) (Q : VK) (E : XK), Room k (A.deeper (envOfC qual (defScope st) s.heap.objs.size f cdv)) → sp vs H Q E →
      ∃ t, PSs (cxOf (CX1 P w) P w K mg base N qual (defScope st) f cdv A outer s H E) (defBody st) t ∧ t { nx := fun _ H' => Q .non H', rt := Q } (start N vs) H) : FnOk P w K mg base (CX1 P w) (k + 1) f fd ps sp := by
  obtain ⟨oc, od, kV, doc, pm, an, cdv, ct, osl, rfl, lk, hcd⟩ := F.ex
  exact fn_of lk hcd S len fun A outer s H vs Q E hr hsp => hbody cdv A outer s H vs Q E hr hsp
section
variable {X : Cx} {E : XK}
def tRaise (C : Addr) (E : XK) (t : TA) : TS := fun _ σ H => t σ H fun vs H1 => vs.length ≤ sizeLine ∧ E (.ref C) none H1
theorem ps_raise {x : Str} {C : Addr} {bm : List Value} {B newId initId : String} {e : Expr} {es : List Expr} {ta : TA} {np cpos pos : Pos} (th : Thr X E) (hc : X.calm = true) (hg : Gl X x) (O : ∀ h, X.K.In h → h.Ns mainGlobals X.mg → OwnCls x C bm newId X.mg h)
    (FB : ExcBaseFacts B newId initId bm) (ha : PA X (e :: es) ta) (he : starEach (e :: es) X.env = (false, eval e X.env) :: starEach es X.env := by rfl) (hpl : (backTo cpos (starEach es X.env)).any (·.1) = false := by rfl)
    (hd : (x == ("__debug__" : Str)) = false := by decide) : PS X (.Raise (some (.Call (.Name x np) (e :: es) [] cpos)) none pos) (tRaise C E ta) := by
  intro pins s σ H D I h
  have OC := O _ I.mod.kin I.mod.glob
  obtain ⟨tl, N, nm, q, bs, hdct, sn, sub, ab, col, dd, k0, k1, k2, k3, k5, mN, hC, hN, hni, T⟩ := OC.obj
  refine wpAny_Raise_call_subT (C := C) (nm := nm) (q := q) (N := N) (bs := bs) (bm := tl) (hdct := hdct) (sn := sn) (sub := sub) (ab := ab) (col := col) (dd := dd) (k0 := k0) (k1 := k1) (k2 := k2) (k3 := k3) (k5 := k5)
    FB (mN := mN) (T.hasType FB.hasBase) (I.ok.hd hc) (by rw [he]; show (false || (backTo cpos (starEach es X.env)).any (·.1)) = false; rw [hpl]; rfl) hni (ld_glob I hg OC.bound ⟨rfl, ?_⟩ hd)
  have hA := ha cpos pins s σ H _ I h
  rw [he] at hA ⊢
  refine Calls.evalArgs_plain (wpAny_mono hA (fun us s1 ⟨vs, H1, I1, r1, z, q1⟩ => ?_) fun _ _ y => y)
  exact ⟨rfl, by rw [← r1.length]; exact z, I1.bk _ _ hC, hN.keeps I1.bk, T.keeps I1.bk, fun h' ea hm => th pins σ H1 s1 h' ea _ us I1 hm q1⟩
end
end L2

namespace L2
open PySem PySem.Spec PyProof.Rows

section
variable {X : Cx} {pins : List (Addr × Obj)} {σ : St} {H : Hp} {s : Shared}
end
section
variable {X : Cx}
end
end L2

namespace L2
open PySem PySem.Spec PySem.Calls PyProof.Rows PySem.W PySem.Builtin PySem.Builtin.ObjectAttr PySem.Builtin.Getset_descriptor

section
variable {K : Frag} {x D : Addr}
section
variable {prog : Program} {w : World} {A : Around} {E : Value → Shared → Prop} {s : Shared}
end
end
end L2

namespace L2
open PySem PySem.Spec PyProof.Rows
section
variable {X : Cx}
def rGetL (K : PySem.W.Frag) : V → V → Hp → VK → Prop := fun o i H Q => ∃ p xs j v, o = .ref p ∧ i = .int ((j : Nat) : Int) ∧ SqL K H p xs ∧ xs[j]? = some v ∧ Q v H
theorem getL (K : PySem.W.Frag) (hK : X.K = K := by rfl) : PGet X (rGetL K) := by
  subst hK
  intro pins s σ H o i ov iv Q I ro ri h
  obtain ⟨p, xs, j, v, rfl, rfl, hq, e, q⟩ := h
  cases ro
  obtain ⟨t, rfl⟩ := ri
  obtain ⟨its, r, pl, hz⟩ := I.list hq
  obtain ⟨u, eu, ru⟩ := r.get e
  have hj : j < xs.length := (List.getElem?_eq_some_iff.mp e).1
  have hn := line63
  exact wpAny_getItem_list pl.isList (by (first | lia | omega)) (by (first | lia | omega)) (by simpa using eu) ⟨v, H, I, ru, q⟩
def rCatL (K : PySem.W.Frag) : R2 := fun x y H Q => ∃ l b xs zs, x = .ref l ∧ y = .ref b ∧ SqL K H l xs ∧ SqL K H b zs ∧ xs.length + zs.length ≤ sizeLine ∧ ∀ p, H p = none → Q (.ref p) (upd H p (.lst (xs ++ zs)))
theorem catL (K : PySem.W.Frag) (hK : X.K = K := by rfl) : OpR X (binaryOp .Add) (rCatL K) := by
  subst hK
  intro pins s σ H x y v u Q I rx ry h
  obtain ⟨l, b, xs, zs, rfl, rfl, hH, hB, hz, q⟩ := h
  cases rx
  cases ry
  obtain ⟨its, r, pl, _⟩ := I.list hH
  obtain ⟨its2, r2, pl2, _⟩ := I.list hB
  obtain ⟨⟨cls, dd, data, sl⟩, n, e, hc, _, hd⟩ := pl
  obtain ⟨⟨cls2, dd2, data2, sl2⟩, n2, e2, hc2, _, hd2⟩ := pl2
  simp only at hc hd hc2 hd2
  subst hc hd hc2 hd2
  have l1 := r.length
  have l2 := r2.length
  have ea : its.toArray ++ its2.toArray = (its ++ its2).toArray := by simp
  refine concat_meets ⟨_, e, rfl⟩ ⟨_, e2, rfl⟩ noFill_list_add seq_list_add PySem.F.slot_list_add PySem.F.entry_list_add (PySem.F.args_list_add_2 _ _)
    (list_addW l b its.toArray its2.toArray n n2 dd dd2 sl sl2 (by rw [List.size_toArray, List.size_toArray]; (first | lia | omega))) ⟨e, e2, ?_⟩
  rw [ea]
  exact ⟨.ref _, _, I.lnew (t' := s.toks) (r.append r2) (by rw [List.length_append]; (first | lia | omega)), rfl, q _ I.fresh⟩
end
section
variable {X : Cx} {tg : Expr}
theorem ps_for1 {iter : Expr} {body : List Stmt} {wi : TI} {g : TG} {tb : TS} {pos : Pos} (hc : X.calm = true) (hi : PI X tg iter wi) (hg : PG X.nox tg g) (hb : PSs X.nox body tb) (hs : ∀ x, foldedSetIterable iter X.env x = pure x := by intro _; rfl) :
    PS X (.For tg iter body [] pos) (tFor wi g tb) := by
  intro pins s σ H D I h
  refine wpAny_For (thn (hi pins s σ H _ I h) fun v s1 h1 => thn h1 fun itv s2 h2 => ?_) hs
  obtain ⟨it, fp, tn, J, H2, e, I2, T, st2, f2, W, ⟨m0, w0⟩, turn⟩ := h2
  subst e
  have stat : ∀ {H' : Hp}, (∀ b ∈ fp, H' b = none) → ∀ b ∈ fp, FpOk X.nox pins H' b := fun hn b hb => ⟨hn b hb, (f2 b hb).2⟩
  refine codeAny_forLoop_any (fun n s' => ∃ i σ' H', Inv X.nox pins σ' H' s' ∧ tn i s'.heap ∧ (∀ b ∈ fp, H' b = none) ∧ W i n σ' H') ?_ m0 ⟨0, σ, H2, I2.wish _, st2, fun b hb => (f2 b hb).1, w0⟩
  rintro n s3 ⟨i, σ3, H3, I3, st3, fr3, w3⟩
  rcases turn i n σ3 H3 w3 with ⟨stop, qn⟩ | ⟨go, N, hN, step⟩
  · refine wpAny_mono (T.done X.nox rfl rfl rfl hc i pins s3 σ3 H3 (fun _ _ => False) I3 (stat fr3) st3 stop) (fun r s4 ⟨hr, I4⟩ => ?_) fun _ _ z => z.elim
    subst hr
    exact wpAny_execs_nil ⟨σ3, H3, I4.unwish, qn⟩
  · refine wpAny_mono (T.item X.nox rfl rfl rfl hc i pins s3 σ3 H3 (fun _ _ => False) I3 (stat fr3) st3 go) (fun r s4 ⟨u, hr, h4⟩ => ?_) fun _ _ z => z.elim
    subst hr
    refine wpAny_mono h4 (fun _ s5 ⟨x, H5, I5, r5, y5, st5, fr5⟩ => ?_) fun _ _ z => z.elim
    have I5' := I5.pinned (stat fr5) (T.obj _ _ st5)
    refine wpAny_mono (hg _ s5 σ3 H5 x u _ I5' r5 (step x H5 y5)) (fun _ s6 ⟨σ6, H6, I6, q6⟩ => ?_) fun _ _ z => z.elim
    refine wpAny_mono (hb _ s6 σ6 H6 _ I6 q6) (fun f s7 q7 => ?_) fun _ _ z => z.elim
    have again : ∀ {σ7 : St} {H7 : Hp}, Inv X.nox (pins ++ pinsAt fp s5.heap) σ7 H7 s7 → N σ7 H7 → ∃ m, m < n ∧ ∃ i σ' H', Inv X.nox pins σ' H' s7 ∧ tn i s7.heap ∧ (∀ b ∈ fp, H' b = none) ∧ W i m σ' H' := fun {σ7 H7} I7 n7 => by
      obtain ⟨m', hm, w7⟩ := hN σ7 H7 n7
      refine ⟨m', hm, i + 1, σ7, H7, I7.unpinned, T.keep _ _ _ st5 fun b hb o e => (I7.pin (b, o) (List.mem_append_right _ (List.mem_append_right _ (mem_pinsAt hb e)))).1, fun b hb => ?_, w7⟩
      obtain ⟨o, e, d⟩ := T.obj _ _ st5 b hb
      exact (I7.pin (b, o) (List.mem_append_right _ (List.mem_append_right _ (mem_pinsAt hb e)))).2.1
    cases f with
    | next => obtain ⟨σ7, H7, I7, n7⟩ := q7; exact again I7 n7
    | cont => obtain ⟨σ7, H7, I7, n7⟩ := q7; exact again I7 n7
    | brk => obtain ⟨σ7, H7, I7, q7⟩ := q7; exact ⟨σ7, H7, I7.unpinned.unwish, q7⟩
    | ret v => obtain ⟨x7, σ7, H7, I7, r7, q7⟩ := q7; exact ⟨x7, σ7, H7, I7.unpinned.unwish, r7, q7⟩
theorem passN {P : Program} {w : World} {X : Cx} : Passes (CX1 P w) X (fun _ _ _ => False) := by
  intro pins σ H s e s' I q
  obtain ⟨_, _, _, _, _, _, _, _, _, _, _, _, _, _, _, _, z⟩ := q
  rcases z with ⟨_, _, z⟩ | ⟨_, _, _, _, _, _, _, z⟩
  · exact z.elim
  · exact z.elim
end
theorem own_of {K : PySem.W.Frag} {h : Heap} {mg : Str → Option Value} {x : Str} {C : Addr} {bmB : List Value} {newId : String} (X : K.In h) (G : h.Ns mainGlobals mg) (e : PySem.W.nsIn K mainGlobals x = some (some (.ref C))) (q : PySem.W.excIn K C bmB newId = true) :
    OwnCls x C bmB newId mg h := by
  refine ⟨PySem.W.mg_of X G e, ?_⟩
  unfold PySem.W.excIn at q
  split at q
  · rename_i od cd sl look
    split at q
    · rename_i Cx bm j0 j1 j2 j3 nw j5 hmro hsl
      simp only [Bool.and_eq_true, beq_iff_eq, Bool.not_eq_true'] at q
      obtain ⟨⟨⟨⟨⟨rfl, rfl⟩, hdel⟩, ht⟩, hok⟩, hni⟩ := q
      obtain ⟨nm, bs, mro, ns, qn, hd, sn, sub, ab, col, del⟩ := cd
      (dsimp only at hmro hdel hok hni; subst hmro hdel)
      have hs2 : sl = #[j0, j1, j2, j3, some (.builtin nw), j5] := by
        obtain ⟨l⟩ := sl
        simp only at hsl
        rw [hsl]
      subst hs2
      exact ⟨bm, ns, nm, qn, bs, hd, sn, sub, ab, col, od, j0, j1, j2, j3, j5, _, X _ _ look, .of_isNs (PySem.W.isNs_of_in X hok), PySem.W.nsMap_none_of_in X hok hni, PySem.W.tail_of_in X ht⟩
    · cases q
  · cases q
end L2
namespace L2
end L2
namespace L2
theorem len1 {α : Type} : ∀ us : List α, us.length = 1 → ∃ a, us = [a]
  | [_], _ => ⟨_, rfl⟩
theorem len2 {α : Type} : ∀ us : List α, us.length = 2 → ∃ a b, us = [a, b]
  | [_, _], _ => ⟨_, _, rfl⟩
theorem len3 {α : Type} : ∀ us : List α, us.length = 3 → ∃ a b c, us = [a, b, c]
  | [_, _, _], _ => ⟨_, _, _, rfl⟩
theorem len4 {α : Type} : ∀ us : List α, us.length = 4 → ∃ a b c d, us = [a, b, c, d]
  | [_, _, _, _], _ => ⟨_, _, _, _, rfl⟩
end L2

namespace L2
open PySem PySem.Spec PyProof.Rows

section
variable {X : Cx} {ea : Addr} {k : Nat} {f : Addr} {fd : FuncData} {ps : List Str} {sp : Sp} {dvs : List V} {ds : List Value} {x : Str} {p pos : Pos} {e : Expr} {es : List Expr} {t : TA}
end
section
variable {prog : Program} {w : World} {A : Around} {E : Value → Shared → Prop} {s : Shared}
end
end L2

namespace L2
open PySem PySem.Spec PyProof.Rows
section
variable {X : Cx} {pins : List (Addr × Obj)} {σ : St} {H : Hp} {s : Shared} {h' : Heap}
theorem Inv.yields {t' : Nat} {wr : List Addr} {T : Addr} {o : HO} (I : Inv X pins σ H s) (k : ∀ b u, b ∉ wr → s.heap.get? b = some u → h'.get? b = some u) (hf : ∀ b ∈ wr, FpOk X pins H b) (hT : s.heap.objs.size ≤ T)
    (new : ObjOk X.prog X.w (upd H T o) h' T o) : Inv X pins σ (upd H T o) { s with heap := h', toks := t' } := by
  have hTn : H T = none := I.hok.fresh hT
  have nT : ∀ b u, H b = some u → b ≠ T := fun b u e => ne_of_none e hTn
  have nw : ∀ b u, H b = some u → b ∉ wr := fun b u e hb => by rw [(hf b hb).1] at e; cases e
  refine I.step (g' := s.gens) (d' := s.drawn) (ch := wr) (fun b hb => ?_) (fun b o _ _ hc e _ => k b o hc e) (fun b o _ _ hc e _ => ⟨o.slots, k b o hc e⟩) (fun b u hc e n => ?_)
    (fun b o hc e => ⟨o, k b o hc e⟩) (fun b xs e => ?_) (fun b ob xs e => ?_) (fun b ps e => ⟨#[], ?_⟩) (fun m hm => ?_) (fun b u e => ?_) I.bare
  · obtain ⟨_, f1, _, f3, f4, f5⟩ := hf b hb
    exact ⟨f3, f1, f4, f5⟩
  · rw [upd_ne (Nat.ne_of_lt (Nat.lt_of_lt_of_le (Heap.lt_size e) hT))]; exact n
  · rw [upd_ne (nT b _ e)]; exact e
  · rw [upd_ne (nT b _ e)]; exact e
  · rw [upd_ne (nT b _ e), e]; simp
  · obtain ⟨o, es, ep, ho, r⟩ := hm
    exact ⟨o, es, ep, k _ o (fun hb => (hf _ hb).2.1 rfl) ho, r⟩
  · by_cases hb : b = T
    · subst hb; rw [upd_same] at e; cases e; exact new
    · rw [upd_ne hb] at e
      refine (I.hok b u e).stay (fun c v hc q => k c v ?_ q) (fun c q => by rw [upd_ne (nT c _ q)]; exact q) fun c xs q => by rw [upd_ne (nT c _ q)]; exact q
      rcases hc with z | z
      · rw [z]; exact nw b u e
      · exact nw c _ z
end
section
variable {X : Cx} {elts : List Expr} {n : Nat} {tp : Pos}
end
section
variable {K : PySem.W.Frag} {a b : Addr} {xs ys : List V} {g : TG} {tt : TT} {te : TE} {n : Nat} {fr : St} {D : Addr} {Q : Hp → Prop} {H1 : Hp}
end
end L2

namespace L2
open PySem PySem.Spec PyProof.Rows
section
variable {X : Cx}
theorem call_rng : CallR X (.type "range") (fun xs H Q => ∃ j : Int, xs = [.int j] ∧ ∀ p, H p = none → Q (.ref p) (upd H p (.rng 0 j))) := by
  intro pins s σ H xs us Q I r h
  obtain ⟨j, rfl, q⟩ := h
  obtain ⟨u, rfl, t, rfl⟩ := vals1 r
  refine call_range_1 ⟨.ref s.heap.objs.size, _, I.laid (t' := s.toks + 1 + 1) (fun b o e => Heap.get?_push_of_some _ e) (Nat.le_refl _) ?_, rfl, q _ I.fresh⟩
  exact ⟨_, _, _, Heap.get?_push_size _ rfl⟩
def rngV (n : Nat) : List V := (List.range n).map fun i => V.int ((i : Nat) : Int)
theorem listR (hc : X.calm = true) : CallR X (.type "list") (fun xs H Q => ∃ p, ∃ n : Nat, xs = [.ref p] ∧ H p = some (.rng 0 (n : Int)) ∧ n ≤ 900 ∧ ∀ l, H l = none → Q (.ref l) (upd H l (.lst (rngV n)))) := by
  intro pins s σ H xs us Q I r h
  obtain ⟨p, n, rfl, hp, hn, q⟩ := h
  obtain ⟨u, rfl, rx⟩ := vals1 r
  cases rx
  obtain ⟨t, u, v, e⟩ := (show ObjOk X.prog X.w H s.heap p (.rng 0 (n : Int)) from I.hok p _ hp)
  have hsz : Builtin.Range.rangeSize 0 (n : Int) 1 = (n : Int) := by rw [rangeSize_one]; split <;> (first | lia | omega)
  refine call_list_range (I.ok.hd hc) e (small_one (by (first | lia | omega)) (by (first | lia | omega)) (by (first | lia | omega)) (by (first | lia | omega))) hsz (Nat.le_trans hn (by decide)) fun h' tk acc c kp e' hacc => ?_
  refine ⟨.ref s.heap.objs.size, _, I.laid (t' := tk) kp (Nat.le_refl _) ?_, rfl, q _ I.fresh⟩
  have hl : acc.toList.length = n := by rw [Array.length_toList]; exact hacc.1
  have hz : (rngV n).length ≤ sizeLine := by
    unfold rngV
    rw [List.length_map, List.length_range]
    exact Nat.le_of_lt (small1000 (by (first | lia | omega)))
  refine ⟨hz, acc.toList, c, ?_, by simpa using e'⟩
  have key : ∀ (ys : List Value) (k : Nat), (∀ j v, ys[j]? = some v → ∃ t, v = Value.int (((k + j : Nat)) : Int) t) → Vals ((List.range' k ys.length).map fun i => V.int ((i : Nat) : Int)) ys := by
    intro ys
    induction ys with
    | nil => intro k _; exact .nil
    | cons y r ih =>
      intro k hy
      obtain ⟨t, ht⟩ := hy 0 y rfl
      refine .cons ⟨t, by simpa using ht⟩ (ih (k + 1) fun j v hv => ?_)
      obtain ⟨t', ht'⟩ := hy (j + 1) v (by simpa using hv)
      exact ⟨t', by rw [ht']; congr 2; (first | lia | omega)⟩
  have z := key acc.toList 0 fun j v hv => by
    obtain ⟨t, ht⟩ := hacc.2 j v (by simpa using hv)
    exact ⟨t, by rw [ht]; congr 1; (first | lia | omega)⟩
  rw [hl] at z
  unfold rngV
  rw [List.range_eq_range']
  exact z
theorem sumK (K : PySem.W.Frag) (hc : X.calm = true) (hK : X.K = K := by rfl) : CallR X (.builtin "sum") (fun xs H Q => ∃ (p : Addr) (ns : List Int), xs = [.ref p] ∧ SqL K H p (ns.map V.int) ∧ Q (.int ns.sum) H) := by
  subst hK
  intro pins s σ H xs us Q I r h
  obtain ⟨p, ns, rfl, hq, q⟩ := h
  obtain ⟨u, rfl, rx⟩ := vals1 r
  cases rx
  obtain ⟨its, rv, pl, hz⟩ := I.list hq
  have hi : ∀ {ns : List Int} {its : List Value}, Vals (ns.map V.int) its → ∃ xs : Array (Int × Tok), its.toArray = intItems xs ∧ xs.toList.map (·.1) = ns := by
    intro ns
    induction ns with
    | nil => intro its r; cases r; exact ⟨#[], by simp [intItems], rfl⟩
    | cons a l ih =>
      intro its r
      cases r with
      | cons r1 r2 =>
        obtain ⟨t, rfl⟩ := r1
        obtain ⟨xs, h1, h2⟩ := ih r2
        refine ⟨#[(a, t)] ++ xs, ?_, by simp [h2]⟩
        have h1' := congrArg Array.toList h1
        simp only [intItems, Array.toList_map, List.toList_toArray] at h1'
        simp [intItems, h1', Array.map_append]
  obtain ⟨ar, e1, e2⟩ := hi rv
  have hl : s.heap.IsList p (intItems ar) := e1 ▸ pl.isList
  refine sum_intListG (I.ok.hd hc) hl fun h' tk t' hk => ?_
  have e3 : preSum (numAt ar) ar.size = ns.sum := by rw [preSum_eq, List.take_of_length_le (by simp), e2]
  rw [e3]
  exact ⟨.int ns.sum, H, I.kept hk, ⟨t', rfl⟩, q⟩
end
end L2

namespace L2
open PySem PySem.Spec PyProof.Rows
section
variable {X : Cx}
end
end L2

namespace L2
open PySem PySem.Spec PyProof.Rows
section
variable {X : Cx}
end
end L2
namespace HT
open PySem PyProof.Rows
section
variable {prog : Program} {w : World} {A : Around} {E : Value → Shared → Prop} {s : Shared}
theorem getItem_tuple_whole {t sl : Addr} {items : Array Value} {vl vu : Value} {lo hi : Option Int} {Q : Value → Shared → Prop} (ht : IsTup s.heap t items) (hs : s.heap.IsSliceOf sl vl vu .none) (pl : IsPart vl lo) (pu : IsPart vu hi)
    (hw : sIx items.size 0 lo = 0 ∧ sIx items.size items.size hi = items.size) (h : Q (.ref t) s) : wpAny (model prog w) A (getItem (.ref t) (.ref sl)) Q E s := by
  obtain ⟨os, hos, hcs, hds⟩ := id hs
  have hTs : s.TypeIs (.ref sl) "slice" := ⟨os, hos, hcs⟩
  unfold getItem
  try with_reducible refine wpAny_holding ?_
  first | refine wpAny_bind (wpAny_pure ?_) | skip
  refine wpAny_bind (wpAny_sequenceKey ht.typeIs (by decide) ?_)
  refine wpAny_bind (wpAny_callSpecial?_slot (name := Str.ofString "__getitem__") ht.typeIs PyProof.Rows.slot_tuple_getitem
    (wpAny_call_entry PyProof.Rows.slot_tuple_getitem ht.typeIs entry_tuple_getitem ?_ (args_tuple_getitem _ _)))
  show wpAny _ _ (Builtin.Tuple.tupleItemsOf (.ref t) >>= _) _ _ s
  refine wpAny_bind (tupleItemsOf_ ht ?_)
  refine wpAny_bind (wpAny_typeOf hTs ?_)
  rw [if_pos (by decide)]
  refine wpAny_bind (sliceApplied_gen hs pl pu ?_)
  have hyes : (((sIx items.size 0 lo : Nat) : Int) == 0 && (1 : Int) == 1 && (sIx items.size items.size hi - sIx items.size 0 lo) == items.size) = true := by
    rw [hw.1, hw.2]
    simp
  show wpAny _ _ (if (((sIx items.size 0 lo : Nat) : Int) == 0 && (1 : Int) == 1 && (sIx items.size items.size hi - sIx items.size 0 lo) == items.size) = true then _ else _) _ _ s
  rw [if_pos hyes]
  refine wpAny_bind ?_
  unfold Builtin.Tuple.tupleIsExact
  refine wpAny_bind (wpAny_typeOf ht.typeIs (wpAny_pure ?_))
  rw [if_pos (by decide)]
  exact wpAny_bind (wpAny_rule (wpAny_pure ⟨_, rfl, wpAny_pure h⟩))
end
end HT
namespace L2
open PySem PySem.Spec PyProof.Rows
section
variable {X : Cx}
def rSlTA : V → Option Int → Option Int → Hp → VK → Prop := fun x lo hi H Q => ∃ a xs, x = .ref a ∧ H a = some (.tup xs) ∧ ∀ p H', Same H H' → H' p = some (.tup (cutV xs lo hi)) → Q (.ref p) H'
theorem slTA : SlR X rSlTA := by
  intro pins s σ H x v vl vu lo hi sl Q I rx hs pl pu h
  obtain ⟨a, xs, rfl, hx, q⟩ := h
  cases rx
  obtain ⟨its, r, ht, hz⟩ := I.tuple (SqT.of hx)
  have hlen : its.toArray.size = xs.length := by rw [List.size_toArray]; exact r.length.symm
  refine ⟨"tuple", _, PyProof.Rows.slot_tuple_getitem.lookup, ht.typeIs, ?_⟩
  by_cases hw : HT.sIx xs.length 0 lo = 0 ∧ HT.sIx xs.length xs.length hi = xs.length
  · refine HT.getItem_tuple_whole ht hs pl pu (by rw [hlen]; exact hw) ⟨.ref a, H, I, rfl, q a H (Same.refl _) ?_⟩
    unfold cutV
    rw [hw.1, hw.2, List.drop_zero, Nat.sub_zero, List.take_length]
    exact hx
  · refine HT.getItem_tuple_cut ht hs pl pu (by rw [hlen]; exact hw) ?_ (by rw [hlen]; exact hz)
    rw [hlen]
    refine ⟨.ref s.heap.objs.size, _, I.laid (t' := s.toks) (o := .tup (cutV xs lo hi)) (fun b ob q => Heap.get?_push_of_some _ q) (Nat.le_refl _) ?_, rfl, q _ _ (Same.new (I.hok.fresh (Nat.le_refl _))) upd_same⟩
    exact ⟨Nat.le_trans (cutV_length xs lo hi) hz, _, (r.drop (HT.sIx xs.length 0 lo)).take (HT.sIx xs.length xs.length hi - HT.sIx xs.length 0 lo), IsTup.new _ _⟩
end
end L2

namespace Ring
open PySem
abbrev Tie := Int × Int × Int
def bit (S : Int) (k : Nat) : Bool := decide (S / 2 ^ k % 2 = 1)
def tiesOf (S : Int) : List Nat := (List.range (Builtin.Int.intBits S)).filter (bit S)
def bump (e : List Int) (i : Int) : List Int := e.set i.toNat (e.getD i.toNat 0 + 1)
def step (ts : List Tie) (e : List Int) (k : Nat) : List Int := match ts[k]? with
  | some t => bump (bump e t.1) t.2.1
  | none => e
def endsOf (p : Nat) (ts : List Tie) (S : Int) : List Int := (tiesOf S).foldl (step ts) (List.replicate p 0)
def oddOf (p : Nat) (ts : List Tie) (S : Int) : List Nat := (List.range p).filter fun i => decide ((endsOf p ts S).getD i 0 % 2 = 1)
def deg (ts : List Tie) (k i : Nat) : Int := match ts[k]? with
  | some t => (if t.1 = (i : Int) then 1 else 0) + (if t.2.1 = (i : Int) then 1 else 0)
  | none => 0
theorem bump_len (e : List Int) (i : Int) : (bump e i).length = e.length := by unfold bump; rw [List.length_set]
theorem step_len (ts : List Tie) (e : List Int) (k : Nat) : (step ts e k).length = e.length := by
  unfold step
  split
  · rw [bump_len, bump_len]
  · rfl
theorem bump_get (e : List Int) (j : Int) (i : Nat) (h0 : 0 ≤ j) (h1 : j < e.length) : (bump e j).getD i 0 = e.getD i 0 + if j = (i : Int) then 1 else 0 := by
  unfold bump
  rw [List.getD_eq_getElem?_getD, List.getD_eq_getElem?_getD, List.getD_eq_getElem?_getD]
  by_cases h : j = (i : Int)
  · have hi : j.toNat = i := by (first | lia | omega)
    rw [if_pos h, hi, List.getElem?_set_self (by (first | lia | omega))]
    rfl
  · have hi : j.toNat ≠ i := by (first | lia | omega)
    rw [if_neg h, List.getElem?_set_ne hi]
    (first | lia | omega)
structure InWeb (p : Nat) (ts : List Tie) : Prop where
  ends : ∀ t ∈ ts, 0 ≤ t.1 ∧ t.1 < (p : Int) ∧ 0 ≤ t.2.1 ∧ t.2.1 < (p : Int)
theorem step_get {p : Nat} {ts : List Tie} (W : InWeb p ts) (e : List Int) (k i : Nat) (he : e.length = p) : (step ts e k).getD i 0 = e.getD i 0 + deg ts k i := by
  unfold step deg
  cases h : ts[k]? with
  | none => simp
  | some t =>
    obtain ⟨a0, a1, b0, b1⟩ := W.ends t (List.mem_of_getElem? h)
    dsimp only
    rw [bump_get _ _ _ b0 (by rw [bump_len, he]; exact b1), bump_get _ _ _ a0 (by rw [he]; exact a1)]
    (first | lia | omega)
def sumDeg (ts : List Tie) (ks : List Nat) (i : Nat) : Int := (ks.map fun k => deg ts k i).sum
theorem fold_get {p : Nat} {ts : List Tie} (W : InWeb p ts) (i : Nat) : ∀ (ks : List Nat) (e : List Int), e.length = p → (ks.foldl (step ts) e).getD i 0 = e.getD i 0 + sumDeg ts ks i
  | [], e, _ => by simp [sumDeg]
  | k :: r, e, he => by
    rw [List.foldl_cons, fold_get W i r _ (by rw [step_len, he]), step_get W e k i he]
    unfold sumDeg
    rw [List.map_cons, List.sum_cons]
    (first | lia | omega)
theorem ends_get {p : Nat} {ts : List Tie} (W : InWeb p ts) (S : Int) (i : Nat) : (endsOf p ts S).getD i 0 = sumDeg ts (tiesOf S) i := by
  unfold endsOf
  rw [fold_get W i _ _ (by simp)]
  have e : (List.replicate p (0 : Int)).getD i 0 = 0 := by
    rw [List.getD_eq_getElem?_getD, List.getElem?_replicate]
    split <;> rfl
  rw [e]
  (first | lia | omega)
theorem bit_nat (m k : Nat) : bit (m : Int) k = m.testBit k := by
  unfold bit
  rw [Nat.testBit_eq_decide_div_mod_eq]
  have e : ((m : Int) / 2 ^ k % 2 = 1) ↔ (m / 2 ^ k % 2 = 1) := by
    have h2 : ((2 : Int) ^ k) = ((2 ^ k : Nat) : Int) := by simp
    rw [h2, ← Int.natCast_ediv]
    (first | lia | omega)
  simp only [e]
theorem bits_nat (m : Nat) : Builtin.Int.intBits (m : Int) = if m = 0 then 0 else m.log2 + 1 := by
  unfold Builtin.Int.intBits
  by_cases h : m = 0
  · simp [h]
  · simp [h]
theorem bits_le {m n : Nat} (h : m < 2 ^ n) : Builtin.Int.intBits (m : Int) ≤ n := by
  rw [bits_nat]
  split
  · exact Nat.zero_le _
  · rename_i h0
    exact (Nat.log2_lt h0).mpr h
theorem bit_high {m k : Nat} (h : Builtin.Int.intBits (m : Int) ≤ k) : bit (m : Int) k = false := by
  rw [bit_nat]
  rw [bits_nat] at h
  by_cases h0 : m = 0
  · simp [h0]
  · rw [if_neg h0] at h
    exact Nat.testBit_lt_two_pow (Nat.lt_of_lt_of_le Nat.lt_log2_self (Nat.pow_le_pow_right (by decide) h))
theorem range_filter (f : Nat → Bool) (a : Nat) : ∀ d, (∀ k, a ≤ k → f k = false) → (List.range (a + d)).filter f = (List.range a).filter f
  | 0, _ => rfl
  | d + 1, h => by
    rw [← Nat.add_assoc, List.range_succ, List.filter_append, range_filter f a d h]
    have e : [a + d].filter f = [] := by rw [List.filter_cons, if_neg (by rw [h _ (by (first | lia | omega))]; simp)]; rfl
    rw [e, List.append_nil]
theorem ties_nat {m n : Nat} (h : m < 2 ^ n) : tiesOf (m : Int) = (List.range n).filter fun k => m.testBit k := by
  unfold tiesOf
  have hb := bits_le h
  obtain ⟨d, hd⟩ := Nat.exists_eq_add_of_le hb
  have e : (fun k => m.testBit k) = bit (m : Int) := funext fun k => (bit_nat m k).symm
  rw [e]
  conv => rhs; rw [hd]
  exact (range_filter _ _ d fun k hk => bit_high hk).symm
theorem ties_lt {m n : Nat} (h : m < 2 ^ n) {k : Nat} (hk : k ∈ tiesOf (m : Int)) : k < n := by
  rw [ties_nat h] at hk
  exact List.mem_range.mp (List.mem_filter.mp hk).1
theorem sum_filter (ts : List Tie) (i : Nat) (f : Nat → Bool) : ∀ ks : List Nat, sumDeg ts (ks.filter f) i = (ks.map fun k => if f k = true then deg ts k i else 0).sum
  | [] => rfl
  | k :: r => by
    have ih := sum_filter ts i f r
    rw [List.map_cons, List.sum_cons, ← ih]
    cases h : f k with
    | true =>
      rw [List.filter_cons, if_pos h]
      unfold sumDeg
      rw [List.map_cons, List.sum_cons]
      simp
    | false =>
      rw [List.filter_cons, if_neg (by rw [h]; simp)]
      simp
end Ring

namespace Ring
open PySem L2
def tieV (t : Tie) : List V := [.int t.1, .int t.2.1, .int t.2.2]
def TupAt (H : Hp) (x : V) (t : Tie) : Prop := ∃ b, x = .ref b ∧ H b = some (.tup (tieV t))
structure WebAt (H : Hp) (w : Addr) (p : Nat) (ts : List Tie) : Prop where
  ex : ∃ b xs, H w = some (.tup [.int (p : Int), .ref b]) ∧ H b = some (.tup xs) ∧ Paired (TupAt H) xs ts
structure Web (p : Nat) (ts : List Tie) : Prop where
  inw : InWeb p ts
  len : ts.length ≤ 24
  pts : p ≤ 10
theorem TupAt.tups {H H' : Hp} (s : Tups H H') {x : V} {t : Tie} (h : TupAt H x t) : TupAt H' x t := by
  obtain ⟨b, e, h⟩ := h
  exact ⟨b, e, s _ _ h⟩
theorem WebAt.tups {H H' : Hp} {w : Addr} {p : Nat} {ts : List Tie} (s : Tups H H') (h : WebAt H w p ts) : WebAt H' w p ts := by
  obtain ⟨b, xs, h1, h2, h3⟩ := h.ex
  exact ⟨b, xs, s _ _ h1, s _ _ h2, Paired.imp' (fun _ _ z => z.tups s) h3⟩
theorem WebAt.same {H H' : Hp} {w : Addr} {p : Nat} {ts : List Tie} (s : Same H H') (h : WebAt H w p ts) : WebAt H' w p ts := h.tups s.tups
def natsV (l : List Nat) : List V := l.map fun k => V.int ((k : Nat) : Int)
theorem natsV_snoc (l : List Nat) (k : Nat) : natsV (l ++ [k]) = natsV l ++ [.int (k : Int)] := by unfold natsV; rw [List.map_append]; rfl
theorem natsV_len (l : List Nat) : (natsV l).length = l.length := by unfold natsV; rw [List.length_map]
theorem natsV_get {l : List Nat} {i : Nat} {x : V} (h : (natsV l)[i]? = some x) : ∃ k, l[i]? = some k ∧ x = .int (k : Int) := by
  unfold natsV at h
  rw [List.getElem?_map] at h
  obtain ⟨k, e, q⟩ := Option.map_eq_some_iff.mp h
  exact ⟨k, e, q.symm⟩
theorem filter_range_succ (f : Nat → Bool) (i : Nat) : (List.range (i + 1)).filter f = (List.range i).filter f ++ (if f i = true then [i] else []) := by
  rw [List.range_succ, List.filter_append]
  congr 1
  cases h : f i with
  | true => rw [List.filter_cons, if_pos h, if_pos rfl]; rfl
  | false => rw [List.filter_cons, if_neg (by rw [h]; simp), if_neg (by simp)]; rfl
def Pick (f : Nat → Bool) (H : Hp) (D : Addr) (i : Nat) (acc : List V) (H2 : Hp) : Prop := Same H H2 ∧ H2 D = some (.lst acc) ∧ acc = natsV ((List.range i).filter f)
section
variable {f : Nat → Bool} {H H2 H3 : Hp} {D : Addr} {i : Nat} {acc : List V}
theorem Pick.start (hD : H D = none) : Pick f H D 0 [] (upd H D (.lst [])) := ⟨Same.new hD, upd_same, rfl⟩
theorem Pick.len (p : Pick f H D i acc H2) : H2 D = some (.lst acc) ∧ acc.length ≤ i := by
  refine ⟨p.2.1, ?_⟩
  rw [p.2.2, natsV_len]
  exact Nat.le_trans (List.length_filter_le _ _) (by rw [List.length_range]; exact Nat.le_refl _)
theorem Pick.yes (p : Pick f H D i acc H2) (hD : H D = none) (s : Same H2 H3) (hf : f i = true) : H3 D = some (.lst acc) ∧ Pick f H D (i + 1) (acc ++ [.int (i : Int)]) (upd H3 D (.lst (acc ++ [.int (i : Int)]))) := by
  refine ⟨s _ _ p.2.1, (p.1.trans s).put hD, upd_same, ?_⟩
  rw [filter_range_succ, if_pos hf, natsV_snoc, ← p.2.2]
theorem Pick.no (p : Pick f H D i acc H2) (s : Same H2 H3) (hf : f i = false) : Pick f H D (i + 1) acc H3 := by
  refine ⟨p.1.trans s, s _ _ p.2.1, ?_⟩
  rw [filter_range_succ, if_neg (by rw [hf]; simp), List.append_nil]
  exact p.2.2
end
def tieAt (ts : List Tie) (k : Nat) : Tie := ts.getD k (0, 0, 0)
def stepT (e : List Int) (t : Tie) : List Int := bump (bump e t.1) t.2.1
theorem fold_ties {ts : List Tie} : ∀ (ks : List Nat) (e : List Int), (∀ k ∈ ks, k < ts.length) → (ks.map (tieAt ts)).foldl stepT e = ks.foldl (step ts) e
  | [], _, _ => rfl
  | k :: r, e, h => by
    rw [List.map_cons, List.foldl_cons, List.foldl_cons, fold_ties r _ fun j hj => h j (List.mem_cons_of_mem _ hj)]
    have hk := h k List.mem_cons_self
    have e1 : ts[k]? = some (tieAt ts k) := by
      unfold tieAt
      rw [List.getD_eq_getElem?_getD]
      simp [hk]
    have e2 : step ts e k = stepT e (tieAt ts k) := by
      unfold step stepT
      rw [e1]
    rw [e2]
theorem ends_ties {p : Nat} {ts : List Tie} {m : Nat} (h : m < 2 ^ ts.length) : endsOf p ts (m : Int) = ((tiesOf (m : Int)).map (tieAt ts)).foldl stepT (List.replicate p 0) := by
  unfold endsOf
  rw [fold_ties _ _ fun k hk => ties_lt h hk]
theorem stepT_len (e : List Int) (t : Tie) : (stepT e t).length = e.length := by unfold stepT; rw [bump_len, bump_len]
theorem foldT_len : ∀ (l : List Tie) (e : List Int), (l.foldl stepT e).length = e.length
  | [], _ => rfl
  | t :: r, e => by rw [List.foldl_cons, foldT_len r, stepT_len]
def intsV (l : List Int) : List V := l.map V.int
theorem intsV_get {l : List Int} {i : Nat} (h : i < l.length) : (intsV l)[i]? = some (.int (l.getD i 0)) := by
  unfold intsV
  rw [List.getElem?_map, List.getD_eq_getElem?_getD]
  simp [h]
theorem intsV_bump (l : List Int) (i : Nat) : (intsV l).set i (.int (l.getD i 0 + 1)) = intsV (bump l (i : Int)) := by
  unfold intsV bump
  rw [Int.toNat_natCast, List.map_set]
theorem rep_zero (p : Nat) : (List.replicate p [V.int 0]).flatten = intsV (List.replicate p 0) := by
  induction p with
  | zero => rfl
  | succ p ih => rw [List.replicate_succ, List.flatten_cons, ih, List.replicate_succ]; rfl
theorem ixN_nat {n j : Nat} (h : j < n) : ixN n (j : Int) = some j := by
  unfold ixN
  rw [if_pos (by (first | lia | omega)), if_pos (by (first | lia | omega)), Int.toNat_natCast]
def natD (k : Nat) : PyData := .int (k : Int)
theorem nats_dat {K : PySem.W.Frag} {H : Hp} : ∀ l : List Nat, DatVs K H (natsV l) (l.map natD)
  | [] => .nil
  | _ :: r => .cons (.int _) (nats_dat r)
theorem lay_nats : ∀ l : List Nat, PyData.canLayAll0 (l.map natD) = true
  | [] => rfl
  | _ :: r => by
    have ih := lay_nats r
    simp only [List.map_cons, PyData.canLayAll0, ih, Bool.and_true]
    rfl
theorem deep_nats : ∀ l : List Nat, PyData.depthAll (l.map natD) = 0
  | [] => rfl
  | _ :: r => by
    have ih := deep_nats r
    show max (PyData.depth (PyData.int _)) (PyData.depthAll (r.map _)) = 0
    rw [ih]
    rfl
theorem shaped_nats (l : List Nat) : SeqAt.shaped (.list (l.map natD)) = true := by
  unfold SeqAt.shaped
  have e : (PyData.list (l.map natD)).canLay0 = PyData.canLayAll0 (l.map natD) := by simp [PyData.canLay0]
  rw [e, lay_nats, Bool.true_and]
  refine decide_eq_true ?_
  have e2 : PyData.depth (PyData.list (l.map natD)) = PyData.depthAll (l.map natD) + 1 := by simp [PyData.depth]
  rw [e2, deep_nats]
  decide
theorem eqv_nil (l : List Nat) : PyData.eqv (.list (l.map natD)) (.list []) = decide (l = []) := by
  cases l with
  | nil => rfl
  | cons a r => rfl
theorem has_eq (S : Int) (k : Nat) : decide (V.int (Builtin.bitAnd (S / 2 ^ k) 1) = V.int 1) = bit S k := by
  unfold bit
  rw [PyProof.Rows.bitAnd_m1]
  rw [Bool.eq_iff_iff]
  simp
theorem bit_eq (S : Int) (k : Nat) : decide (V.int (S / 2 ^ k % 2) = V.int 1) = bit S k := by
  unfold bit
  rw [Bool.eq_iff_iff]
  simp
theorem dec_one (x : Int) : decide (V.int x = V.int 1) = decide (x = 1) := by
  rw [Bool.eq_iff_iff]
  simp
end Ring

namespace Ring
open PySem L2
structure GoodTie (p : Int) (t : Tie) : Prop where
  a0 : 0 ≤ t.1
  a1 : t.1 < p
  b0 : 0 ≤ t.2.1
  b1 : t.2.1 < p
  ne : t.1 ≠ t.2.1
  l0 : 1 ≤ t.2.2
  l1 : t.2.2 ≤ 1000000000000000000000000000000
structure GoodWeb (p : Nat) (ts : List Tie) : Prop where
  p1 : 1 ≤ p
  p2 : p ≤ 10
  len : ts.length ≤ 24
  ties : ∀ t ∈ ts, GoodTie (p : Int) t
theorem GoodWeb.web {p : Nat} {ts : List Tie} (g : GoodWeb p ts) : Web p ts := ⟨⟨fun t ht => let z := g.ties t ht; ⟨z.a0, z.a1, z.b0, z.b1⟩⟩, g.len, g.p2⟩
def Ties (p : Int) (H : Hp) (D : Addr) (n : Nat) (H2 : Hp) : Prop := Same H H2 ∧ ∃ acc ts, H2 D = some (.lst acc) ∧ Paired (TupAt H2) acc ts ∧ acc.length = n ∧ ∀ t ∈ ts, GoodTie p t
section
variable {p : Int} {H H2 H3 : Hp} {D b : Addr} {n : Nat} {t : Tie}
theorem Ties.start (hD : H D = none) : Ties p H D 0 (upd H D (.lst [])) := ⟨Same.new hD, [], [], upd_same, .nil, rfl, fun t ht => nomatch ht⟩
theorem Ties.push (h : Ties p H D n H2) (hD : H D = none) (s : Same H2 H3) (g : GoodTie p t) (hb : H3 b = some (.tup (tieV t))) :
    ∃ acc, H3 D = some (.lst acc) ∧ acc.length = n ∧ Ties p H D (n + 1) (upd H3 D (.lst (acc ++ [.ref b]))) := by
  obtain ⟨s2, acc, ts, hd, pr, hn, gt⟩ := h
  have hd3 : H3 D = some (.lst acc) := s _ _ hd
  refine ⟨acc, hd3, hn, (s2.trans s).put hD, acc ++ [.ref b], ts ++ [t], upd_same, ?_, by rw [List.length_append, List.length_singleton, hn], fun u hu => ?_⟩
  · exact Paired.snoc (Paired.imp' (fun _ _ z => z.tups (s.tups.trans (Tups.put hd3))) pr) ⟨b, rfl, Tups.put hd3 _ _ hb⟩
  · rcases List.mem_append.mp hu with hu | hu
    · exact gt u hu
    · cases List.mem_singleton.mp hu
      exact g
theorem Ties.fin {q : Nat} (h : Ties (q : Int) H D n H2) : ∃ acc ts, H2 D = some (.lst acc) ∧ ts.length = n ∧ (∀ t ∈ ts, GoodTie (q : Int) t) ∧ ∀ l, H2 l = none → ∀ w, upd H2 l (.tup acc) w = none →
    Same H (upd (upd H2 l (.tup acc)) w (.tup [.int (q : Int), .ref l])) ∧ WebAt (upd (upd H2 l (.tup acc)) w (.tup [.int (q : Int), .ref l])) w q ts := by
  obtain ⟨s2, acc, ts, hd, pr, hn, gt⟩ := h
  refine ⟨acc, ts, hd, by rw [← pr.length, hn], gt, fun l hl w hw => ?_⟩
  have n1 : Same H2 (upd H2 l (.tup acc)) := Same.new hl
  have n2 := n1.trans (Same.new (o := .tup [.int (q : Int), .ref l]) hw)
  refine ⟨s2.trans n2, l, acc, upd_same, ?_, Paired.imp' (fun _ _ z => z.tups n2.tups) pr⟩
  rw [upd_ne (ne_of_none upd_same hw), upd_same]
end
theorem other_ne {p o r : Int} (h : 0 ≤ o) (h1 : o < p) (r0 : 0 ≤ r) (r1 : r < p - 1) : 0 ≤ (o + 1 + r) % p ∧ (o + 1 + r) % p < p ∧ o ≠ (o + 1 + r) % p := by
  have hp : 0 < p := by (first | lia | omega)
  refine ⟨Int.emod_nonneg _ (by (first | lia | omega)), Int.emod_lt_of_pos _ hp, ?_⟩
  by_cases hlt : o + 1 + r < p
  · rw [Int.emod_eq_of_lt (by (first | lia | omega)) hlt]
    (first | lia | omega)
  · have e : (o + 1 + r) % p = o + 1 + r - p := by
      rw [← Int.sub_emod_right, Int.emod_eq_of_lt (by (first | lia | omega)) (by (first | lia | omega))]
    rw [e]
    (first | lia | omega)
theorem small24 {n : Nat} (h : n ≤ 24) : n ≤ sizeLine := Nat.le_of_lt (small1000 (by (first | lia | omega)))
theorem smallL {n : Nat} (h : n ≤ 900) : n < sizeLine := small1000 (by (first | lia | omega))
theorem ints_at {ns : List Int} {k : Nat} (h : k < ns.length) : (ns.map V.int)[k]? = some (.int (ns.getD k 0)) := by
  rw [List.getElem?_map, List.getD_eq_getElem?_getD]
  simp [h]
theorem emod2 (x m : Int) (h : 0 < m) : 0 ≤ x % m ∧ x % m < m := ⟨Int.emod_nonneg _ (by (first | lia | omega)), Int.emod_lt_of_pos _ h⟩
end Ring

namespace RM
def xsum (f : Nat → Bool) : Nat → Bool
  | 0 => false
  | n + 1 => xsum f n ^^ f n
theorem xsum_congr {f g : Nat → Bool} : ∀ {n : Nat}, (∀ k, k < n → f k = g k) → xsum f n = xsum g n
  | 0, _ => rfl
  | n + 1, h => by
    unfold xsum
    rw [xsum_congr fun k hk => h k (by (first | lia | omega)), h n (by (first | lia | omega))]
theorem xsum_xor (f g : Nat → Bool) : ∀ n, xsum (fun k => f k ^^ g k) n = (xsum f n ^^ xsum g n)
  | 0 => rfl
  | n + 1 => by
    unfold xsum
    rw [xsum_xor f g n]
    cases xsum f n <;> cases xsum g n <;> cases f n <;> cases g n <;> rfl
theorem xsum_false : ∀ n, xsum (fun _ => false) n = false
  | 0 => rfl
  | n + 1 => by unfold xsum; rw [xsum_false n]; rfl
theorem xsum_and (c : Bool) (f : Nat → Bool) : ∀ n, xsum (fun k => c && f k) n = (c && xsum f n)
  | 0 => by cases c <;> rfl
  | n + 1 => by
    unfold xsum
    rw [xsum_and c f n]
    cases c <;> simp
theorem xsum_comm (f : Nat → Nat → Bool) (n : Nat) : ∀ m, xsum (fun x => xsum (fun k => f x k) n) m = xsum (fun k => xsum (fun x => f x k) m) n
  | 0 => by
    show false = _
    rw [← xsum_false n]
    rfl
  | m + 1 => by
    show (xsum (fun x => xsum (fun k => f x k) n) m ^^ xsum (fun k => f m k) n) = _
    rw [xsum_comm f n m, ← xsum_xor]
    rfl
theorem xsum_none {f : Nat → Bool} {n : Nat} (h : ∀ k, k < n → f k = false) : xsum f n = false := by
  rw [xsum_congr (g := fun _ => false) h, xsum_false]
theorem xsum_one {f : Nat → Bool} {a : Nat} : ∀ {n : Nat}, a < n → (∀ k, k < n → k ≠ a → f k = false) → xsum f n = f a
  | 0, h, _ => absurd h (Nat.not_lt_zero _)
  | n + 1, h, z => by
    unfold xsum
    by_cases e : a = n
    · subst e
      rw [xsum_none fun k hk => z k (by (first | lia | omega)) (by (first | lia | omega))]
      simp
    · rw [xsum_one (a := a) (by (first | lia | omega)) fun k hk hn => z k (by (first | lia | omega)) hn, z n (by (first | lia | omega)) (fun q => e q.symm)]
      simp
theorem xsum_point (C : Nat → Bool) {a m : Nat} (h : a < m) : xsum (fun x => C x && decide (a = x)) m = C a := by
  rw [xsum_one h fun k _ hk => by simp [Ne.symm hk]]
  simp
structure Net where
  p : Nat
  n : Nat
  a : Nat → Nat
  b : Nat → Nat
  al : ∀ k, k < n → a k < p
  bl : ∀ k, k < n → b k < p
  ne : ∀ k, k < n → a k ≠ b k
variable (N : Net)
def Net.inc (k x : Nat) : Bool := decide (N.a k = x) ^^ decide (N.b k = x)
def Net.bd (m x : Nat) : Bool := xsum (fun k => m.testBit k && N.inc k x) N.n
def Net.Even (m : Nat) : Prop := ∀ x, x < N.p → N.bd m x = false
variable {N}
theorem bd_xor (m q x : Nat) : N.bd (m ^^^ q) x = (N.bd m x ^^ N.bd q x) := by
  unfold Net.bd
  rw [← xsum_xor]
  refine xsum_congr fun k _ => ?_
  rw [Nat.testBit_xor]
  cases m.testBit k <;> cases q.testBit k <;> cases N.inc k x <;> rfl
theorem bd_zero (x : Nat) : N.bd 0 x = false := by
  unfold Net.bd
  exact xsum_none fun k _ => by simp
theorem bd_pow {k : Nat} (h : k < N.n) (x : Nat) : N.bd (2 ^ k) x = N.inc k x := by
  unfold Net.bd
  rw [xsum_one h fun j _ hj => by simp [Nat.testBit_two_pow, Ne.symm hj]]
  simp [Nat.testBit_two_pow]
theorem Even.xor {m q : Nat} (h : N.Even m) (h' : N.Even q) : N.Even (m ^^^ q) := fun x hx => by rw [bd_xor, h x hx, h' x hx]; rfl
def join (L : Nat → Nat) (u v : Nat) : Nat → Nat := fun x => if L x = max (L u) (L v) then min (L u) (L v) else L x
theorem join_eq {L : Nat → Nat} {u v x y : Nat} (h : L x = L y) : join L u v x = join L u v y := by unfold join; rw [h]
theorem join_ends (L : Nat → Nat) (u v : Nat) : join L u v u = join L u v v := by
  unfold join
  split <;> split <;> (first | lia | omega)
theorem join_same {L : Nat → Nat} {u v : Nat} (h : L u = L v) : join L u v = L := by
  funext x
  unfold join
  rw [h]
  split <;> (first | lia | omega)
theorem join_apart {L : Nat → Nat} {u v x y : Nat} (h : join L u v x = join L u v y) : L x = L y ∨ (L x = L u ∧ L y = L v) ∨ (L x = L v ∧ L y = L u) := by
  unfold join at h
  have mm : (max (L u) (L v) = L u ∧ min (L u) (L v) = L v) ∨ (max (L u) (L v) = L v ∧ min (L u) (L v) = L u) := by
    rcases Nat.le_total (L u) (L v) with q | q
    · exact .inr ⟨Nat.max_eq_right q, Nat.min_eq_left q⟩
    · exact .inl ⟨Nat.max_eq_left q, Nat.min_eq_right q⟩
  rcases mm with ⟨e1, e2⟩ | ⟨e1, e2⟩
  · rw [e1, e2] at h
    split at h
    · rename_i hx
      split at h
      · rename_i hy
        exact .inl (hx.trans hy.symm)
      · exact .inr (.inl ⟨hx, h.symm⟩)
    · split at h
      · rename_i hy
        exact .inr (.inr ⟨h, hy⟩)
      · exact .inl h
  · rw [e1, e2] at h
    split at h
    · rename_i hx
      split at h
      · rename_i hy
        exact .inl (hx.trans hy.symm)
      · exact .inr (.inr ⟨hx, h.symm⟩)
    · split at h
      · rename_i hy
        exact .inr (.inl ⟨h, hy⟩)
      · exact .inl h
theorem join_le {L : Nat → Nat} {u v x : Nat} (h : L x ≤ x) : join L u v x ≤ x := by
  unfold join
  split <;> (first | lia | omega)
theorem join_root {L : Nat → Nat} {u v : Nat} (h : ∀ x, L (L x) = L x) (x : Nat) : join L u v (join L u v x) = join L u v x := by
  have hu := h u
  have hv := h v
  have hx := h x
  have hlo : L (min (L u) (L v)) = min (L u) (L v) := by
    rcases Nat.le_total (L u) (L v) with q | q
    · rw [Nat.min_eq_left q]; exact hu
    · rw [Nat.min_eq_right q]; exact hv
  unfold join
  split
  · rw [hlo]
    split <;> (first | lia | omega)
  · rw [hx]
    split <;> (first | lia | omega)
def Net.labs (N : Net) (S : Nat → Bool) : Nat → Nat → Nat
  | 0 => fun x => x
  | k + 1 => if S k = true then join (Net.labs N S k) (N.a k) (N.b k) else Net.labs N S k
variable {S : Nat → Bool}
theorem labs_le : ∀ (k x : Nat), N.labs S k x ≤ x
  | 0, _ => Nat.le_refl _
  | k + 1, x => by
    unfold Net.labs
    split
    · exact join_le (labs_le k x)
    · exact labs_le k x
theorem labs_root : ∀ (k x : Nat), N.labs S k (N.labs S k x) = N.labs S k x
  | 0, _ => rfl
  | k + 1, x => by
    by_cases hs : S k = true
    · have e : N.labs S (k + 1) = join (N.labs S k) (N.a k) (N.b k) := by
        conv => lhs; unfold Net.labs
        rw [if_pos hs]
      rw [e]
      exact join_root (labs_root k) x
    · have e : N.labs S (k + 1) = N.labs S k := by
        conv => lhs; unfold Net.labs
        rw [if_neg hs]
      rw [e]
      exact labs_root k x
theorem labs_mono {x y k : Nat} (h : N.labs S k x = N.labs S k y) : ∀ d, N.labs S (k + d) x = N.labs S (k + d) y
  | 0 => h
  | d + 1 => by
    have ih := labs_mono h d
    show N.labs S (k + d + 1) x = N.labs S (k + d + 1) y
    unfold Net.labs
    split
    · exact join_eq ih
    · exact ih
theorem labs_tie {j k : Nat} (h : j < k) (hs : S j = true) : N.labs S k (N.a j) = N.labs S k (N.b j) := by
  obtain ⟨d, rfl⟩ := Nat.exists_eq_add_of_le (Nat.succ_le_of_lt h)
  refine labs_mono ?_ d
  show N.labs S (j + 1) (N.a j) = N.labs S (j + 1) (N.b j)
  unfold Net.labs
  rw [if_pos hs]
  exact join_ends _ _ _
inductive Net.Conn (N : Net) (S : Nat → Bool) (k u : Nat) : Nat → Prop
  | refl : Net.Conn N S k u u
  | fwd {j : Nat} (h : Net.Conn N S k u (N.a j)) (hj : j < k) (hs : S j = true) : Net.Conn N S k u (N.b j)
  | bwd {j : Nat} (h : Net.Conn N S k u (N.b j)) (hj : j < k) (hs : S j = true) : Net.Conn N S k u (N.a j)
theorem Net.Conn.trans {k u v w : Nat} (h : N.Conn S k u v) (h' : N.Conn S k v w) : N.Conn S k u w := by
  induction h' with
  | refl => exact h
  | fwd _ hj hs ih => exact .fwd ih hj hs
  | bwd _ hj hs ih => exact .bwd ih hj hs
theorem Net.Conn.mono {k l u v : Nat} (h : N.Conn S k u v) (hkl : k ≤ l) : N.Conn S l u v := by
  induction h with
  | refl => exact .refl
  | fwd _ hj hs ih => exact .fwd ih (by (first | lia | omega)) hs
  | bwd _ hj hs ih => exact .bwd ih (by (first | lia | omega)) hs
theorem labs_conn : ∀ (k u v : Nat), N.labs S k u = N.labs S k v → N.Conn S k u v
  | 0, u, v, h => by
    have e : u = v := h
    subst e
    exact .refl
  | k + 1, u, v, h => by
    unfold Net.labs at h
    split at h
    · rename_i hs
      rcases join_apart h with q | ⟨q1, q2⟩ | ⟨q1, q2⟩
      · exact (labs_conn k u v q).mono (by (first | lia | omega))
      · have c1 := (labs_conn k u _ q1).mono (Nat.le_succ k)
        have c2 := (labs_conn k _ v q2.symm).mono (Nat.le_succ k)
        exact Net.Conn.trans (.fwd c1 (by (first | lia | omega)) hs) c2
      · have c1 := (labs_conn k u _ q1).mono (Nat.le_succ k)
        have c2 := (labs_conn k _ v q2.symm).mono (Nat.le_succ k)
        exact Net.Conn.trans (.bwd c1 (by (first | lia | omega)) hs) c2
    · exact (labs_conn k u v h).mono (by (first | lia | omega))
end RM

namespace RM
def cnt (f : Nat → Bool) : Nat → Nat
  | 0 => 0
  | n + 1 => cnt f n + (if f n = true then 1 else 0)
theorem cnt_congr {f g : Nat → Bool} : ∀ {n : Nat}, (∀ k, k < n → f k = g k) → cnt f n = cnt g n
  | 0, _ => rfl
  | n + 1, h => by
    unfold cnt
    rw [cnt_congr fun k hk => h k (by (first | lia | omega)), h n (by (first | lia | omega))]
theorem cnt_drop {f g : Nat → Bool} {h : Nat} (hg : g h = true) : ∀ {p : Nat}, h < p → (∀ x, x < p → f x = (g x && !decide (x = h))) → cnt g p = cnt f p + 1
  | 0, hh, _ => absurd hh (Nat.not_lt_zero _)
  | p + 1, hh, e => by
    unfold cnt
    by_cases q : h = p
    · subst q
      have z : cnt g h = cnt f h := cnt_congr fun k hk => by rw [e k (by (first | lia | omega))]; simp [show k ≠ h by (first | lia | omega)]
      rw [z, if_pos hg, e h (by (first | lia | omega))]
      simp
    · rw [cnt_drop hg (by (first | lia | omega)) fun x hx => e x (by (first | lia | omega)), e p (by (first | lia | omega))]
      simp [Ne.symm q]
      (first | lia | omega)
theorem cnt_range (f : Nat → Bool) : ∀ n, ((List.range n).filter f).length = cnt f n
  | 0 => rfl
  | n + 1 => by
    rw [List.range_succ, List.filter_append, List.length_append, cnt_range f n]
    show _ = cnt f n + (if f n = true then 1 else 0)
    cases h : f n with
    | true => rw [List.filter_cons, if_pos h]; rfl
    | false => rw [List.filter_cons, if_neg (by rw [h]; simp)]; rfl
theorem cnt_not (f : Nat → Bool) : ∀ n, cnt f n + cnt (fun k => !f k) n = n
  | 0 => rfl
  | n + 1 => by
    have ih := cnt_not f n
    unfold cnt
    cases h : f n <;> simp <;> (first | lia | omega)
theorem cnt_all {f : Nat → Bool} : ∀ {n : Nat}, (∀ k, k < n → f k = true) → cnt f n = n
  | 0, _ => rfl
  | n + 1, h => by
    unfold cnt
    rw [cnt_all fun k hk => h k (by (first | lia | omega)), if_pos (h n (by (first | lia | omega)))]
variable {N : Net} {S : Nat → Bool}
def Net.root (N : Net) (S : Nat → Bool) (k x : Nat) : Bool := decide (N.labs S k x = x)
theorem labs_succ (k : Nat) : N.labs S (k + 1) = if S k = true then join (N.labs S k) (N.a k) (N.b k) else N.labs S k := by
  conv => lhs; unfold Net.labs
theorem labs_lt {k x : Nat} (h : x < N.p) : N.labs S k x < N.p := Nat.lt_of_le_of_lt (labs_le k x) h
theorem root_join {L : Nat → Nat} {u v : Nat} (hr : ∀ x, L (L x) = L x) (hne : L u ≠ L v) (x : Nat) : decide (join L u v x = x) = (decide (L x = x) && !decide (x = max (L u) (L v))) := by
  have hhi : L (max (L u) (L v)) = max (L u) (L v) := by
    rcases Nat.le_total (L u) (L v) with q | q
    · rw [Nat.max_eq_right q]; exact hr v
    · rw [Nat.max_eq_left q]; exact hr u
  have hlo : L (min (L u) (L v)) = min (L u) (L v) := by
    rcases Nat.le_total (L u) (L v) with q | q
    · rw [Nat.min_eq_left q]; exact hr u
    · rw [Nat.min_eq_right q]; exact hr v
  unfold join
  by_cases h : L x = max (L u) (L v)
  · rw [if_pos h]
    have h1 : ¬ min (L u) (L v) = x := fun z => by
      rw [← z, hlo] at h
      (first | lia | omega)
    by_cases h2 : x = max (L u) (L v)
    · simp [h1, h2]
      (first | lia | omega)
    · have h3 : ¬ L x = x := fun z => h2 (z.symm.trans h)
      simp [h1, h3]
  · rw [if_neg h]
    have h2 : ¬ x = max (L u) (L v) := fun z => h (by rw [z]; exact hhi)
    simp [h2]
theorem roots_step {k : Nat} (hk : k < N.n) : cnt (N.root S k) N.p = cnt (N.root S (k + 1)) N.p + (if (S k && !decide (N.labs S k (N.a k) = N.labs S k (N.b k))) = true then 1 else 0) := by
  cases hs : S k with
  | false =>
    have e : N.root S (k + 1) = N.root S k := by unfold Net.root; rw [labs_succ, if_neg (by rw [hs]; simp)]
    rw [e]; simp
  | true =>
    by_cases h : N.labs S k (N.a k) = N.labs S k (N.b k)
    · have e : N.root S (k + 1) = N.root S k := by unfold Net.root; rw [labs_succ, if_pos hs, join_same h]
      rw [e]; simp [h]
    · have hhi : N.labs S k (max (N.labs S k (N.a k)) (N.labs S k (N.b k))) = max (N.labs S k (N.a k)) (N.labs S k (N.b k)) := by
        rcases Nat.le_total (N.labs S k (N.a k)) (N.labs S k (N.b k)) with q | q
        · rw [Nat.max_eq_right q]; exact labs_root _ _
        · rw [Nat.max_eq_left q]; exact labs_root _ _
      have h1 := labs_lt (S := S) (k := k) (N.al k hk)
      have h2 := labs_lt (S := S) (k := k) (N.bl k hk)
      rw [cnt_drop (f := N.root S (k + 1)) (g := N.root S k) (h := max (N.labs S k (N.a k)) (N.labs S k (N.b k))) (decide_eq_true hhi) (by (first | lia | omega)) fun x _ => by
        unfold Net.root
        rw [labs_succ, if_pos hs]
        exact root_join (labs_root k) h x]
      simp [h]
theorem lt_of_bits {m n : Nat} (h : ∀ k, m.testBit k = true → k < n) : m < 2 ^ n := Nat.lt_pow_two_of_testBit m fun k hk => by
  cases q : m.testBit k with
  | false => rfl
  | true => exact absurd (h k q) (by (first | lia | omega))
theorem bits_lt {m n k : Nat} (h : m < 2 ^ n) (hb : m.testBit k = true) : k < n := by
  by_cases q : k < n
  · exact q
  · have z := Nat.testBit_lt_two_pow (Nat.lt_of_lt_of_le h (Nat.pow_le_pow_right (by decide) (show n ≤ k by (first | lia | omega))))
    rw [hb] at z
    cases z
end RM

namespace Ring
open PySem L2
def maskOf (f : Nat → Bool) : Nat → Nat
  | 0 => 0
  | n + 1 => (if f n = true then 2 ^ n else 0) + maskOf f n
theorem mask_lt (f : Nat → Bool) : ∀ n, maskOf f n < 2 ^ n
  | 0 => by show 0 < 1; decide
  | n + 1 => by
    have ih := mask_lt f n
    have e : 2 ^ (n + 1) = 2 ^ n + 2 ^ n := by rw [Nat.pow_succ]; (first | lia | omega)
    unfold maskOf
    split <;> (first | lia | omega)
theorem mask_bit (f : Nat → Bool) (j : Nat) : ∀ n, (maskOf f n).testBit j = (decide (j < n) && f j)
  | 0 => by simp [maskOf]
  | n + 1 => by
    have ih := mask_bit f j n
    have hl := mask_lt f n
    unfold maskOf
    by_cases h : f n = true
    · rw [if_pos h]
      rcases Nat.lt_trichotomy j n with q | q | q
      · rw [Nat.testBit_two_pow_add_gt q, ih]
        simp [q, show j < n + 1 by (first | lia | omega)]
      · subst q
        rw [Nat.testBit_two_pow_add_eq, ih]
        simp [h]
      · have z : 2 ^ n + maskOf f n < 2 ^ j := Nat.lt_of_lt_of_le (show 2 ^ n + maskOf f n < 2 ^ (n + 1) by rw [Nat.pow_succ]; (first | lia | omega)) (Nat.pow_le_pow_right (by decide) q)
        rw [Nat.testBit_lt_two_pow z]
        simp [show ¬ j < n + 1 by (first | lia | omega)]
    · rw [if_neg h, Nat.zero_add, ih]
      by_cases q : j = n
      · subst q
        have h' : f j = false := by simpa using h
        simp [h']
      · by_cases r : j < n
        · simp [r, show j < n + 1 by (first | lia | omega)]
        · simp [r, show ¬ j < n + 1 by (first | lia | omega)]
theorem or_sum {a b x y : Nat} (q : x / 2 + y / 2 = a / 2 + b / 2) (h : x % 2 + y % 2 = a % 2 + b % 2) : x + y = a + b := by (first | lia | omega)
theorem or_one {u v : Nat} (hu : u = 0 ∨ u = 1) (hv : v = 0 ∨ v = 1) : (u ||| v) + (u &&& v) = u + v := by
  rcases hu with rfl | rfl <;> rcases hv with rfl | rfl <;> rfl
theorem or_and : ∀ a b : Nat, (a ||| b) + (a &&& b) = a + b := by
  intro a
  induction a using Nat.strongRecOn with
  | ind a ih =>
    intro b
    by_cases h : a = 0
    · subst h
      simp
    · have q := ih (a / 2) (by (first | lia | omega)) (b / 2)
      rw [← Nat.or_div_two, ← Nat.and_div_two] at q
      refine or_sum q ?_
      have e1 : (a ||| b) % 2 = a % 2 ||| b % 2 := Nat.or_mod_two_pow (n := 1)
      have e2 : (a &&& b) % 2 = a % 2 &&& b % 2 := Nat.and_mod_two_pow (n := 1)
      rw [e1, e2]
      exact or_one (Nat.mod_two_eq_zero_or_one a) (Nat.mod_two_eq_zero_or_one b)
theorem or_int (a b : Nat) : Builtin.bitOr (a : Int) (b : Int) = ((a ||| b : Nat) : Int) := by
  have q := or_and a b
  rw [PyProof.Rows.bitOr_and, PyProof.Rows.bitAnd_pp (by (first | lia | omega)) (by (first | lia | omega))]
  have h : (a : Int) + b - ((a &&& b : Nat) : Int) = ((a ||| b : Nat) : Int) := by (first | lia | omega)
  simpa using h
theorem shl_int (k : Nat) : (1 : Int) * 2 ^ (k : Int).toNat = ((2 ^ k : Nat) : Int) := by
  rw [Int.toNat_natCast, Int.one_mul]
  simp
theorem tieAt_mem {ts : List Tie} {k : Nat} (h : k < ts.length) : tieAt ts k ∈ ts := by
  unfold tieAt
  rw [List.getD_eq_getElem?_getD]
  simp [h]
theorem tieAt_get {ts : List Tie} {k : Nat} (h : k < ts.length) : ts[k]? = some (tieAt ts k) := by
  unfold tieAt
  rw [List.getD_eq_getElem?_getD]
  simp [h]
def netOf (p : Nat) (ts : List Tie) (g : GoodWeb p ts) : RM.Net where
  p := p
  n := ts.length
  a := fun k => (tieAt ts k).1.toNat
  b := fun k => (tieAt ts k).2.1.toNat
  al := fun k hk => by
    have z := g.ties _ (tieAt_mem hk)
    have z0 := z.a0
    have z1 := z.a1
    (first | lia | omega)
  bl := fun k hk => by
    have z := g.ties _ (tieAt_mem hk)
    have z0 := z.b0
    have z1 := z.b1
    (first | lia | omega)
  ne := fun k hk e => by
    have z := g.ties _ (tieAt_mem hk)
    have z0 := z.a0
    have z1 := z.b0
    exact z.ne (by (first | lia | omega))
theorem net_a {p : Nat} {ts : List Tie} {g : GoodWeb p ts} {k : Nat} (h : k < ts.length) : (tieAt ts k).1 = (((netOf p ts g).a k : Nat) : Int) := by
  have z := (g.ties _ (tieAt_mem h)).a0
  show _ = (((tieAt ts k).1.toNat : Nat) : Int)
  (first | lia | omega)
theorem net_b {p : Nat} {ts : List Tie} {g : GoodWeb p ts} {k : Nat} (h : k < ts.length) : (tieAt ts k).2.1 = (((netOf p ts g).b k : Nat) : Int) := by
  have z := (g.ties _ (tieAt_mem h)).b0
  show _ = (((tieAt ts k).2.1.toNat : Nat) : Int)
  (first | lia | omega)
theorem deg_par {p : Nat} {ts : List Tie} {g : GoodWeb p ts} {k : Nat} (h : k < ts.length) (x : Nat) : deg ts k x % 2 = if (netOf p ts g).inc k x = true then 1 else 0 := by
  unfold deg RM.Net.inc
  rw [tieAt_get h]
  dsimp only
  rw [net_a (g := g) h, net_b (g := g) h]
  generalize (netOf p ts g).a k = u
  generalize (netOf p ts g).b k = v
  by_cases h1 : u = x
  · by_cases h2 : v = x
    · simp [h1, h2]
    · have h2' : ¬ ((v : Int) = (x : Int)) := by (first | lia | omega)
      simp [h1, h2, h2']
  · have h1' : ¬ ((u : Int) = (x : Int)) := by (first | lia | omega)
    by_cases h2 : v = x
    · simp [h1, h2, h1']
    · have h2' : ¬ ((v : Int) = (x : Int)) := by (first | lia | omega)
      simp [h1, h2, h1', h2']
theorem bd_par {p : Nat} {ts : List Tie} {g : GoodWeb p ts} (m x : Nat) : ∀ n, n ≤ ts.length → ((List.range n).map fun k => if m.testBit k = true then deg ts k x else 0).sum % 2 = if RM.xsum (fun k => m.testBit k && (netOf p ts g).inc k x) n = true then 1 else 0
  | 0, _ => rfl
  | n + 1, h => by
    have ih := bd_par (g := g) m x n (by (first | lia | omega))
    have hd := deg_par (g := g) (k := n) (by (first | lia | omega)) x
    rw [List.range_succ, List.map_append, List.sum_append]
    show (_ + ((if m.testBit n = true then deg ts n x else 0) + 0)) % 2 = if (RM.xsum _ n ^^ (m.testBit n && (netOf p ts g).inc n x)) = true then 1 else 0
    generalize ((List.range n).map fun k => if m.testBit k = true then deg ts k x else 0).sum = u at ih ⊢
    generalize RM.xsum (fun k => m.testBit k && (netOf p ts g).inc k x) n = v at ih ⊢
    generalize (netOf p ts g).inc n x = i at hd ⊢
    generalize deg ts n x = d at hd ⊢
    cases m.testBit n <;> cases v <;> cases i <;> simp at ih hd ⊢ <;> (first | lia | omega)
theorem odd_iff {p : Nat} {ts : List Tie} (g : GoodWeb p ts) {m : Nat} (hm : m < 2 ^ ts.length) {x : Nat} : decide ((endsOf p ts (m : Int)).getD x 0 % 2 = 1) = (netOf p ts g).bd m x := by
  rw [ends_get g.web.inw, ties_nat hm, sum_filter]
  have h := bd_par (g := g) m x ts.length (Nat.le_refl _)
  rw [h]
  show _ = RM.xsum _ ts.length
  generalize RM.xsum (fun k => m.testBit k && (netOf p ts g).inc k x) ts.length = v
  cases v <;> simp
theorem even_net {p : Nat} {ts : List Tie} (g : GoodWeb p ts) {m : Nat} (hm : m < 2 ^ ts.length) : oddOf p ts (m : Int) = [] ↔ (netOf p ts g).Even m := by
  unfold oddOf
  rw [List.filter_eq_nil_iff]
  constructor
  · intro h x hx
    have q := h x (List.mem_range.mpr hx)
    rw [odd_iff g hm] at q
    simpa using q
  · intro h x hx
    rw [odd_iff g hm, h x (List.mem_range.mp hx)]
    simp
def mapV (f : Nat → Nat) (n : Nat) : List V := (List.range n).map fun x => V.int ((f x : Nat) : Int)
theorem mapV_len (f : Nat → Nat) (n : Nat) : (mapV f n).length = n := by unfold mapV; rw [List.length_map, List.length_range]
theorem mapV_get {f : Nat → Nat} {n x : Nat} (h : x < n) : (mapV f n)[x]? = some (.int ((f x : Nat) : Int)) := by
  unfold mapV
  rw [List.getElem?_map, List.getElem?_range h]
  rfl
theorem mapV_of {f : Nat → Nat} {n x : Nat} {v : V} (h : (mapV f n)[x]? = some v) : x < n ∧ v = .int ((f x : Nat) : Int) := by
  have hx : x < n := by
    have := (List.getElem?_eq_some_iff.mp h).1
    rwa [mapV_len] at this
  rw [mapV_get hx] at h
  exact ⟨hx, (Option.some.inj h).symm⟩
theorem mapV_succ (f : Nat → Nat) (n : Nat) : mapV f (n + 1) = mapV f n ++ [.int ((f n : Nat) : Int)] := by
  unfold mapV
  rw [List.range_succ, List.map_append]
  rfl
def Mapd (f : Nat → Nat) (H : Hp) (D : Addr) (i : Nat) (acc : List V) (H2 : Hp) : Prop := Same H H2 ∧ H2 D = some (.lst acc) ∧ acc = mapV f i
section
variable {f : Nat → Nat} {H H2 H3 : Hp} {D : Addr} {i : Nat} {acc : List V} {v : V}
theorem Mapd.start (hD : H D = none) : Mapd f H D 0 [] (upd H D (.lst [])) := ⟨Same.new hD, upd_same, rfl⟩
theorem Mapd.len (p : Mapd f H D i acc H2) : H2 D = some (.lst acc) ∧ acc.length ≤ i := ⟨p.2.1, by rw [p.2.2, mapV_len]; exact Nat.le_refl _⟩
theorem Mapd.next (p : Mapd f H D i acc H2) (hD : H D = none) (s : Same H2 H3) (hv : v = .int ((f i : Nat) : Int)) : H3 D = some (.lst acc) ∧ Mapd f H D (i + 1) (acc ++ [v]) (upd H3 D (.lst (acc ++ [v]))) := by
  refine ⟨s _ _ p.2.1, (p.1.trans s).put hD, upd_same, ?_⟩
  rw [mapV_succ, ← p.2.2, hv]
end
theorem labs_fold {N : RM.Net} {m : Nat} : ∀ n, ((List.range n).filter fun k => m.testBit k).foldl (fun L k => RM.join L (N.a k) (N.b k)) (fun x => x) = N.labs (fun k => m.testBit k) n
  | 0 => rfl
  | n + 1 => by
    rw [filter_range_succ, List.foldl_append, labs_fold n, RM.labs_succ]
    split <;> rfl
end Ring

namespace RM
end RM
namespace Ring
open PySem L2
def pieceOf (L : Nat → Nat) (p s : Nat) : List Nat := (List.range p).filter fun x => decide (L x = s)
def rootsOf (L : Nat → Nat) (p : Nat) : List Nat := (List.range p).filter fun x => decide (L x = x)
def LstFr (D : Addr) (H0 H : Hp) (y : V) (l : List Nat) : Prop := ∃ b, y = .ref b ∧ b ≠ D ∧ H0 b = none ∧ H b = some (.lst (natsV l))
def Gath (L : Nat → Nat) (p : Nat) (H : Hp) (D : Addr) (i : Nat) (H2 : Hp) : Prop := Same H H2 ∧ ∃ ys, H2 D = some (.lst ys) ∧ Paired (LstFr D H H2) ys ((rootsOf L i).map (pieceOf L p)) ∧ ys.length ≤ i
section
variable {L : Nat → Nat} {p i : Nat} {H H2 H3 : Hp} {D b : Addr}
theorem Gath.start (hD : H D = none) : Gath L p H D 0 (upd H D (.lst [])) := ⟨Same.new hD, [], upd_same, .nil, Nat.le_refl _⟩
theorem roots_succ : rootsOf L (i + 1) = rootsOf L i ++ (if L i = i then [i] else []) := by
  unfold rootsOf
  rw [filter_range_succ]
  by_cases h : L i = i <;> simp [h]
theorem Gath.skip (h : Gath L p H D i H2) (hn : ¬ L i = i) : Gath L p H D (i + 1) H2 := by
  obtain ⟨s, ys, hd, pr, hl⟩ := h
  refine ⟨s, ys, hd, ?_, by (first | lia | omega)⟩
  rw [roots_succ, if_neg hn, List.append_nil]
  exact pr
theorem Gath.push (h : Gath L p H D i H2) (hD : H D = none) (hr : L i = i) (s : Same H2 H3) (hb : H2 b = none) (hb3 : H3 b = some (.lst (natsV (pieceOf L p i)))) :
    ∃ ys, H3 D = some (.lst ys) ∧ ys.length ≤ i ∧ Gath L p H D (i + 1) (upd H3 D (.lst (ys ++ [.ref b]))) := by
  obtain ⟨s2, ys, hd, pr, hl⟩ := h
  have hd3 := s _ _ hd
  have hbD : b ≠ D := fun e => by rw [e, hd] at hb; cases hb
  refine ⟨ys, hd3, hl, (s2.trans s).put hD, ys ++ [.ref b], upd_same, ?_, by rw [List.length_append, List.length_singleton]; (first | lia | omega)⟩
  rw [roots_succ, if_pos hr, List.map_append]
  refine Paired.snoc (Paired.imp' (fun _ _ ⟨e, he, hn, h0, q⟩ => ⟨e, he, hn, h0, by rw [upd_ne hn]; exact s _ _ q⟩) pr) ?_
  exact ⟨b, rfl, hbD, s2.free hb, by rw [upd_ne hbD]; exact hb3⟩
end
def foldJ (p : Nat) (ts : List Tie) (g : GoodWeb p ts) (ks : List Nat) : Nat → Nat := ks.foldl (fun L k => RM.join L ((netOf p ts g).a k) ((netOf p ts g).b k)) fun x => x
theorem foldJ_snoc {p : Nat} {ts : List Tie} {g : GoodWeb p ts} {ks : List Nat} {k : Nat} : foldJ p ts g (ks ++ [k]) = RM.join (foldJ p ts g ks) ((netOf p ts g).a k) ((netOf p ts g).b k) := by
  unfold foldJ
  rw [List.foldl_append]
  rfl
def labOf (p : Nat) (ts : List Tie) (g : GoodWeb p ts) (m : Nat) : Nat → Nat := (netOf p ts g).labs (fun k => m.testBit k) ts.length
theorem foldJ_ties {p : Nat} {ts : List Tie} {g : GoodWeb p ts} {m : Nat} (hm : m < 2 ^ ts.length) : foldJ p ts g (tiesOf (m : Int)) = labOf p ts g m := by
  unfold foldJ labOf
  rw [ties_nat hm]
  exact labs_fold _
theorem min_int (a b : Nat) : (if (b : Int) < (a : Int) then (b : Int) else (a : Int)) = ((min a b : Nat) : Int) := by
  split <;> (first | lia | omega)
theorem max_int (a b : Nat) : (if (b : Int) > (a : Int) then (b : Int) else (a : Int)) = ((max a b : Nat) : Int) := by
  split <;> (first | lia | omega)
theorem dec_nat (a b : Nat) : decide (V.int (a : Int) = V.int (b : Int)) = decide (a = b) := by
  rw [Bool.eq_iff_iff]
  simp
  (first | lia | omega)
end Ring

namespace RM
variable {N : Net} {S : Nat → Bool}
variable {pt r j : Nat} {l : List Nat}
theorem nodup_le {l : List Nat} : ∀ {p : Nat}, l.Nodup → (∀ x ∈ l, x < p) → l.length ≤ p := by
  intro p hn hl
  have hp : l.Perm ((List.range p).filter fun x => decide (x ∈ l)) := by
    refine (List.perm_ext_iff_of_nodup hn (List.Pairwise.filter _ List.nodup_range)).mpr fun a => ?_
    rw [List.mem_filter, List.mem_range]
    simp
    exact fun h => hl a h
  rw [hp.length_eq]
  have := List.length_filter_le (fun x => decide (x ∈ l)) (List.range p)
  rwa [List.length_range] at this
end RM
namespace Ring
open PySem L2
theorem pair_range {p : Nat} {f : Nat → Bool} : ((List.range p).filter f).Pairwise (· < ·) := List.Pairwise.filter _ List.pairwise_lt_range
theorem natsV_ints (l : List Nat) : natsV l = (l.map fun x => ((x : Nat) : Int)).map V.int := by unfold natsV; rw [List.map_map]; rfl
theorem inV_nats (u : Nat) (l : List Nat) : inV (.int (u : Int)) (natsV l) = decide (u ∈ l) := by
  unfold inV natsV
  rw [List.any_map, Bool.eq_iff_iff, List.any_eq_true]
  simp only [Function.comp, decide_eq_true_eq]
  constructor
  · rintro ⟨x, hx, h⟩
    have e : ((x : Nat) : Int) = (u : Int) := eq_of_beq h
    have : x = u := by (first | lia | omega)
    exact this ▸ hx
  · intro h
    exact ⟨u, h, by simp [eqV]⟩
theorem flat_nats (l : List Nat) : (natsV l).all flatV = true := by
  unfold natsV
  rw [List.all_map, List.all_eq_true]
  intro x _
  rfl
theorem and_int (a b : Nat) : Builtin.bitAnd (a : Int) (b : Int) = ((a &&& b : Nat) : Int) := by
  rw [PyProof.Rows.bitAnd_pp (by (first | lia | omega)) (by (first | lia | omega))]
  simp
end Ring

namespace RM
variable {N : Net}
end RM
namespace Ring
open PySem L2
section
variable {p : Nat} {ts : List Tie} {g : GoodWeb p ts}
end
theorem filter_single {c : Nat} : ∀ {n : Nat}, c < n → (List.range n).filter (fun k => decide (k = c)) = [c]
  | 0, h => absurd h (Nat.not_lt_zero _)
  | n + 1, h => by
    rw [filter_range_succ]
    by_cases e : c = n
    · subst e
      have z : (List.range c).filter (fun k => decide (k = c)) = [] := by
        rw [List.filter_eq_nil_iff]
        intro x hx
        have := List.mem_range.mp hx
        simp
        (first | lia | omega)
      rw [z]
      simp
    · rw [filter_single (by (first | lia | omega))]
      simp [Ne.symm e]
theorem nats_at {l : List Nat} {i : Nat} {k : Nat} (h : l[i]? = some k) : (natsV l)[i]? = some (.int (k : Int)) := by
  unfold natsV
  rw [List.getElem?_map, h]
  rfl
end Ring

namespace Ring
open PySem L2
section
variable {f : Nat → Bool} {l : List Nat} {H H2 H3 : Hp} {D : Addr} {i k : Nat} {acc : List V}
end
def Mapl (f : Nat → Int) (l : List Nat) (H : Hp) (D : Addr) (i : Nat) (acc : List V) (H2 : Hp) : Prop := Same H H2 ∧ H2 D = some (.lst acc) ∧ acc = ((l.take i).map f).map V.int
section
variable {f : Nat → Int} {l : List Nat} {H H2 H3 : Hp} {D : Addr} {i k : Nat} {acc : List V} {v : V}
theorem Mapl.start (hD : H D = none) : Mapl f l H D 0 [] (upd H D (.lst [])) := ⟨Same.new hD, upd_same, rfl⟩
theorem Mapl.len (p : Mapl f l H D i acc H2) : H2 D = some (.lst acc) ∧ acc.length ≤ i := by
  refine ⟨p.2.1, ?_⟩
  rw [p.2.2, List.length_map, List.length_map, List.length_take]
  (first | lia | omega)
theorem Mapl.next (p : Mapl f l H D i acc H2) (hD : H D = none) (s : Same H2 H3) (hk : l[i]? = some k) (hv : v = .int (f k)) : H3 D = some (.lst acc) ∧ Mapl f l H D (i + 1) (acc ++ [v]) (upd H3 D (.lst (acc ++ [v]))) := by
  refine ⟨s _ _ p.2.1, (p.1.trans s).put hD, upd_same, ?_⟩
  rw [List.take_add_one, hk, List.map_append, List.map_append, ← p.2.2, hv]
  rfl
theorem Mapl.fin (p : Mapl f l H D l.length acc H2) : H2 D = some (.lst ((l.map f).map V.int)) := by rw [p.2.1, p.2.2, List.take_length]
end
end Ring

namespace RM
theorem xsum_cnt (f : Nat → Bool) : ∀ n, xsum f n = decide (cnt f n % 2 = 1)
  | 0 => rfl
  | n + 1 => by
    unfold xsum cnt
    rw [xsum_cnt f n]
    by_cases h : f n = true
    · rw [h, if_pos rfl]
      by_cases q : cnt f n % 2 = 1
      · have q' : ¬ (cnt f n + 1) % 2 = 1 := by (first | lia | omega)
        simp [q, q']
      · have q' : (cnt f n + 1) % 2 = 1 := by (first | lia | omega)
        simp [q, q']
    · have h' : f n = false := by simpa using h
      rw [h', if_neg (by decide)]
      simp
end RM
namespace Ring
open PySem L2
def lenOf (ts : List Tie) (m : Nat) : Int := ((tiesOf (m : Int)).map fun k => (tieAt ts k).2.2).sum
def lenR (ts : List Tie) (f : Nat → Bool) : Nat → Int
  | 0 => 0
  | n + 1 => lenR ts f n + (if f n = true then (tieAt ts n).2.2 else 0)
theorem lenR_filter (ts : List Tie) (f : Nat → Bool) : ∀ n, (((List.range n).filter f).map fun k => (tieAt ts k).2.2).sum = lenR ts f n
  | 0 => rfl
  | n + 1 => by
    rw [filter_range_succ, List.map_append, List.sum_append, lenR_filter ts f n]
    show _ = lenR ts f n + (if f n = true then (tieAt ts n).2.2 else 0)
    split <;> simp
theorem len_range {ts : List Tie} {m : Nat} (hm : m < 2 ^ ts.length) : lenOf ts m = lenR ts (fun k => m.testBit k) ts.length := by
  unfold lenOf
  rw [ties_nat hm]
  exact lenR_filter ts _ _
section
variable {p : Nat} {ts : List Tie} (g : GoodWeb p ts)
include g
end
section
variable {p : Nat} {ts : List Tie}
end
end Ring

namespace L2
open PySem PySem.Spec PyProof.Rows
end L2

namespace Ring
open PySem L2
end Ring

namespace RM
def sm (f : Nat → Nat) : Nat → Nat
  | 0 => 0
  | n + 1 => sm f n + f n
theorem sm_congr {f g : Nat → Nat} : ∀ {n : Nat}, (∀ k, k < n → f k = g k) → sm f n = sm g n
  | 0, _ => rfl
  | n + 1, h => by
    show sm f n + f n = sm g n + g n
    rw [sm_congr fun k hk => h k (by (first | lia | omega)), h n (by (first | lia | omega))]
theorem sm_add (f g : Nat → Nat) : ∀ n, sm (fun k => f k + g k) n = sm f n + sm g n
  | 0 => rfl
  | n + 1 => by
    show sm (fun k => f k + g k) n + (f n + g n) = sm f n + f n + (sm g n + g n)
    rw [sm_add f g n]
    (first | lia | omega)
theorem sm_zero : ∀ n, sm (fun _ => 0) n = 0
  | 0 => rfl
  | n + 1 => by
    show sm (fun _ => 0) n + 0 = 0
    rw [sm_zero n]
theorem sm_comm (f : Nat → Nat → Nat) (n : Nat) : ∀ p, sm (fun x => sm (fun k => f x k) n) p = sm (fun k => sm (fun x => f x k) p) n
  | 0 => (sm_zero n).symm
  | p + 1 => by
    show sm (fun x => sm (fun k => f x k) n) p + sm (fun k => f p k) n = sm (fun k => sm (fun x => f x k) p + f p k) n
    rw [sm_comm f n p, sm_add]
theorem cnt_sm (f : Nat → Bool) : ∀ n, cnt f n = sm (fun k => if f k = true then 1 else 0) n
  | 0 => rfl
  | n + 1 => by
    show cnt f n + (if f n = true then 1 else 0) = sm (fun k => if f k = true then 1 else 0) n + (if f n = true then 1 else 0)
    rw [cnt_sm f n]
theorem sm_le {f g : Nat → Nat} : ∀ {n : Nat}, (∀ k, k < n → f k ≤ g k) → sm f n ≤ sm g n
  | 0, _ => Nat.le_refl _
  | n + 1, h => by
    have h1 := sm_le (f := f) (g := g) (n := n) fun k hk => h k (by (first | lia | omega))
    have h2 := h n (by (first | lia | omega))
    show sm f n + f n ≤ sm g n + g n
    (first | lia | omega)
theorem sm_eq {f g : Nat → Nat} {n : Nat} (h : ∀ k, k < n → f k ≤ g k) (e : sm f n = sm g n) : ∀ k, k < n → f k = g k := by
  induction n with
  | zero => exact fun k hk => absurd hk (Nat.not_lt_zero _)
  | succ n ih =>
    intro k hk
    have h1 := sm_le (f := f) (g := g) (n := n) fun k hk => h k (by (first | lia | omega))
    have h2 := h n (by (first | lia | omega))
    have e : sm f n + f n = sm g n + g n := e
    by_cases hkn : k = n
    · subst hkn
      (first | lia | omega)
    · exact ih (fun j hj => h j (by (first | lia | omega))) (by (first | lia | omega)) k (by (first | lia | omega))
theorem cnt_le {f g : Nat → Bool} {n : Nat} (h : ∀ k, k < n → f k = true → g k = true) : cnt f n ≤ cnt g n := by
  rw [cnt_sm, cnt_sm]
  refine sm_le fun k hk => ?_
  by_cases hf : f k = true
  · rw [if_pos hf, if_pos (h k hk hf)]
    exact Nat.le_refl _
  · rw [if_neg hf]
    exact Nat.zero_le _
theorem cnt_same {f g : Nat → Bool} {n : Nat} (h : ∀ k, k < n → f k = true → g k = true) (e : cnt f n = cnt g n) : ∀ k, k < n → g k = true → f k = true := fun k hk hg => by
  rw [cnt_sm, cnt_sm] at e
  have q := sm_eq (n := n) (fun k hk => by
    by_cases hf : f k = true
    · rw [if_pos hf, if_pos (h k hk hf)]
      exact Nat.le_refl _
    · rw [if_neg hf]
      exact Nat.zero_le _) e k hk
  rw [if_pos hg] at q
  by_cases hf : f k = true
  · exact hf
  · rw [if_neg hf] at q
    (first | lia | omega)
theorem cnt_some {f : Nat → Bool} : ∀ {n : Nat}, 0 < cnt f n → ∃ k, k < n ∧ f k = true
  | 0, h => absurd h (Nat.lt_irrefl _)
  | n + 1, h => by
    by_cases hf : f n = true
    · exact ⟨n, by (first | lia | omega), hf⟩
    · have h : 0 < cnt f n + (if f n = true then 1 else 0) := h
      rw [if_neg hf] at h
      obtain ⟨k, hk, q⟩ := cnt_some (f := f) (n := n) (by (first | lia | omega))
      exact ⟨k, by (first | lia | omega), q⟩
theorem cnt_pos {f : Nat → Bool} {k : Nat} (hf : f k = true) : ∀ {n : Nat}, k < n → 0 < cnt f n
  | 0, h => absurd h (Nat.not_lt_zero _)
  | n + 1, h => by
    show 0 < cnt f n + (if f n = true then 1 else 0)
    by_cases hk : k = n
    · subst hk
      rw [if_pos hf]
      (first | lia | omega)
    · have := cnt_pos hf (n := n) (by (first | lia | omega))
      (first | lia | omega)
theorem cnt_two {f : Nat → Bool} : ∀ {n : Nat}, 2 ≤ cnt f n → ∃ c d, c < d ∧ d < n ∧ f c = true ∧ f d = true
  | 0, h => absurd h (by show ¬ 2 ≤ 0; (first | lia | omega))
  | n + 1, h => by
    have h : 2 ≤ cnt f n + (if f n = true then 1 else 0) := h
    by_cases hf : f n = true
    · rw [if_pos hf] at h
      obtain ⟨k, hk, q⟩ := cnt_some (f := f) (n := n) (by (first | lia | omega))
      exact ⟨k, n, hk, by (first | lia | omega), q, hf⟩
    · rw [if_neg hf] at h
      obtain ⟨c, d, h1, h2, h3, h4⟩ := cnt_two (f := f) (n := n) (by (first | lia | omega))
      exact ⟨c, d, h1, by (first | lia | omega), h3, h4⟩
theorem two_cnt {f : Nat → Bool} {u v : Nat} (hu : f u = true) (hv : f v = true) (ne : u ≠ v) : ∀ {n : Nat}, u < n → v < n → 2 ≤ cnt f n
  | 0, h, _ => absurd h (Nat.not_lt_zero _)
  | n + 1, h1, h2 => by
    show 2 ≤ cnt f n + (if f n = true then 1 else 0)
    by_cases e1 : u = n
    · subst e1
      have := cnt_pos hv (n := u) (by (first | lia | omega))
      rw [if_pos hu]
      (first | lia | omega)
    · by_cases e2 : v = n
      · subst e2
        have := cnt_pos hu (n := v) (by (first | lia | omega))
        rw [if_pos hv]
        (first | lia | omega)
      · have := two_cnt hu hv ne (n := n) (by (first | lia | omega)) (by (first | lia | omega))
        (first | lia | omega)
theorem cnt_eq (a : Nat) : ∀ n, cnt (fun x => decide (a = x)) n = if a < n then 1 else 0
  | 0 => rfl
  | n + 1 => by
    show cnt (fun x => decide (a = x)) n + (if decide (a = n) = true then 1 else 0) = _
    rw [cnt_eq a n]
    by_cases e : a = n
    · subst e
      simp
    · have d : (if decide (a = n) = true then 1 else 0) = 0 := if_neg (by simpa using e)
      rw [d]
      by_cases h : a < n
      · rw [if_pos h, if_pos (by (first | lia | omega))]
      · rw [if_neg h, if_neg (by (first | lia | omega))]
theorem cnt_or {f g : Nat → Bool} : ∀ {n : Nat}, (∀ x, x < n → ¬ (f x = true ∧ g x = true)) → cnt (fun x => f x ^^ g x) n = cnt f n + cnt g n
  | 0, _ => rfl
  | n + 1, h => by
    show cnt (fun x => f x ^^ g x) n + (if (f n ^^ g n) = true then 1 else 0) = cnt f n + (if f n = true then 1 else 0) + (cnt g n + (if g n = true then 1 else 0))
    rw [cnt_or fun x hx => h x (by (first | lia | omega))]
    have q := h n (by (first | lia | omega))
    cases hf : f n <;> cases hg : g n
    · simp
    · simp
      (first | lia | omega)
    · simp
      (first | lia | omega)
    · exact absurd ⟨hf, hg⟩ q
variable {N : Net}
def Net.dg (N : Net) (m x : Nat) : Nat := cnt (fun k => m.testBit k && N.inc k x) N.n
theorem bd_dg (m x : Nat) : N.bd m x = decide (N.dg m x % 2 = 1) := xsum_cnt _ _
theorem even_dg {m x : Nat} (e : N.Even m) (hx : x < N.p) : N.dg m x % 2 = 0 := by
  have h := e x hx
  rw [bd_dg] at h
  have := of_decide_eq_false h
  (first | lia | omega)
theorem inc_iff {k x : Nat} (hk : k < N.n) : N.inc k x = true ↔ (N.a k = x ∨ N.b k = x) := by
  have ne := N.ne k hk
  unfold Net.inc
  by_cases h1 : N.a k = x
  · have h2 : ¬ N.b k = x := fun z => ne (h1.trans z.symm)
    simp [h1, h2]
  · by_cases h2 : N.b k = x
    · simp [h1, h2]
    · simp [h1, h2]
theorem inc_two {k : Nat} (hk : k < N.n) : cnt (N.inc k) N.p = 2 := by
  have ne := N.ne k hk
  have e : cnt (N.inc k) N.p = cnt (fun x => decide (N.a k = x) ^^ decide (N.b k = x)) N.p := rfl
  rw [e, cnt_or fun x _ ⟨h1, h2⟩ => ne ((of_decide_eq_true h1).trans (of_decide_eq_true h2).symm), cnt_eq, cnt_eq, if_pos (N.al k hk), if_pos (N.bl k hk)]
theorem dg_sum (m : Nat) : sm (fun x => N.dg m x) N.p = 2 * cnt (fun k => m.testBit k) N.n := by
  have e : sm (fun x => N.dg m x) N.p = sm (fun x => sm (fun k => if (m.testBit k && N.inc k x) = true then 1 else 0) N.n) N.p := sm_congr fun x _ => cnt_sm _ _
  rw [e, sm_comm, cnt_sm]
  have d : ∀ n, 2 * sm (fun k => if m.testBit k = true then 1 else 0) n = sm (fun k => (if m.testBit k = true then 1 else 0) + (if m.testBit k = true then 1 else 0)) n := fun n => by
    rw [sm_add]
    (first | lia | omega)
  rw [d]
  refine sm_congr fun k hk => ?_
  by_cases h : m.testBit k = true
  · rw [if_pos h]
    have q := inc_two hk
    rw [cnt_sm] at q
    show _ = 2
    exact (sm_congr fun x _ => by rw [h, Bool.true_and]).trans q
  · rw [if_neg h]
    have h' : m.testBit k = false := by simpa using h
    have : sm (fun x => if (m.testBit k && N.inc k x) = true then 1 else 0) N.p = sm (fun _ => 0) N.p := sm_congr fun x _ => by rw [h']; rfl
    rw [this, sm_zero]
theorem dg_le {q m : Nat} (h : ∀ k, q.testBit k = true → m.testBit k = true) (x : Nat) : N.dg q x ≤ N.dg m x := cnt_le fun k _ hq => by
  rw [Bool.and_eq_true] at hq ⊢
  exact ⟨h k hq.1, hq.2⟩
theorem dg_at {m k x : Nat} (hk : k < N.n) (hb : m.testBit k = true) (hx : N.a k = x ∨ N.b k = x) : 0 < N.dg m x := cnt_pos (k := k) (by rw [hb, Bool.true_and]; exact (inc_iff hk).mpr hx) hk
theorem dg_some {m x : Nat} (h : 0 < N.dg m x) : ∃ k, k < N.n ∧ m.testBit k = true ∧ (N.a k = x ∨ N.b k = x) := by
  obtain ⟨k, hk, q⟩ := cnt_some h
  rw [Bool.and_eq_true] at q
  exact ⟨k, hk, q.1, (inc_iff hk).mp q.2⟩
theorem alone {m x y : Nat} (h : N.dg m x = 0) (c : N.Conn (fun k => m.testBit k) N.n x y) : y = x := by
  induction c with
  | refl => rfl
  | fwd _ hj hs ih => exact absurd (dg_at hj hs (.inl ih)) (by (first | lia | omega))
  | bwd _ hj hs ih => exact absurd (dg_at hj hs (.inr ih)) (by (first | lia | omega))
theorem conn_path {S : Nat → Bool} {k u v : Nat} (hk : k ≤ N.n) (c : N.Conn S k u v) : ∃ t, (∀ j, t.testBit j = true → j < k ∧ S j = true) ∧ ∀ x, N.bd t x = (decide (u = x) ^^ decide (v = x)) := by
  induction c with
  | refl => exact ⟨0, fun j hj => by simp at hj, fun x => by rw [bd_zero]; simp⟩
  | fwd _ hj hs ih =>
    rename_i j _
    obtain ⟨t, h1, h2⟩ := ih
    refine ⟨t ^^^ 2 ^ j, fun i hi => ?_, fun x => ?_⟩
    · rw [Nat.testBit_xor, Nat.testBit_two_pow] at hi
      by_cases e : j = i
      · subst e
        exact ⟨hj, hs⟩
      · rw [decide_eq_false e, Bool.xor_false] at hi
        exact h1 i hi
    · rw [bd_xor, h2, bd_pow (by (first | lia | omega))]
      unfold Net.inc
      cases decide (u = x) <;> cases decide (N.a j = x) <;> cases decide (N.b j = x) <;> rfl
  | bwd _ hj hs ih =>
    rename_i j _
    obtain ⟨t, h1, h2⟩ := ih
    refine ⟨t ^^^ 2 ^ j, fun i hi => ?_, fun x => ?_⟩
    · rw [Nat.testBit_xor, Nat.testBit_two_pow] at hi
      by_cases e : j = i
      · subst e
        exact ⟨hj, hs⟩
      · rw [decide_eq_false e, Bool.xor_false] at hi
        exact h1 i hi
    · rw [bd_xor, h2, bd_pow (by (first | lia | omega))]
      unfold Net.inc
      cases decide (u = x) <;> cases decide (N.a j = x) <;> cases decide (N.b j = x) <;> rfl
def Net.Ring (N : Net) (m : Nat) : Prop := m ≠ 0 ∧ N.Even m ∧ ∀ q, (∀ k, q.testBit k = true → m.testBit k = true) → N.Even q → q = 0 ∨ q = m
section
variable {m s : Nat}
theorem ring_of (hm : m < 2 ^ N.n) (ev : N.Even m) (C : Nat → Bool) (hC : ∀ x, x < N.p → C x = decide (N.labs (fun k => m.testBit k) N.n x = s)) (h2 : 2 ≤ cnt C N.p)
    (tie : ∀ k, k < N.n → m.testBit k = true → C (N.a k) = true) (hl : cnt C N.p = cnt (fun k => m.testBit k) N.n) : N.Ring m := by
  have inC : ∀ k, k < N.n → m.testBit k = true → C (N.a k) = true ∧ C (N.b k) = true := fun k hk hb => by
    have h := tie k hk hb
    refine ⟨h, ?_⟩
    rw [hC _ (N.al k hk)] at h
    rw [hC _ (N.bl k hk)]
    rw [labs_tie (S := fun k => m.testBit k) hk hb] at h
    exact h
  have pos : ∀ x, x < N.p → C x = true → 0 < N.dg m x := fun x hx hc => by
    cases hz : N.dg m x with
    | succ d => (first | lia | omega)
    | zero =>
      exfalso
      obtain ⟨y, hy, hcy, hne⟩ : ∃ y, y < N.p ∧ C y = true ∧ y ≠ x := by
        obtain ⟨c, d, h1, h3, h4, h5⟩ := cnt_two h2
        by_cases e : c = x
        · exact ⟨d, h3, h5, by (first | lia | omega)⟩
        · exact ⟨c, by (first | lia | omega), h4, e⟩
      rw [hC x hx] at hc
      rw [hC y hy] at hcy
      exact hne (alone hz (labs_conn _ _ _ ((of_decide_eq_true hc).trans (of_decide_eq_true hcy).symm)))
  have two : ∀ x, x < N.p → (if C x = true then 2 else 0) = N.dg m x := by
    refine sm_eq (fun x hx => ?_) ?_
    · by_cases hc : C x = true
      · rw [if_pos hc]
        have h1 := pos x hx hc
        have h3 := even_dg ev hx
        (first | lia | omega)
      · rw [if_neg hc]
        exact Nat.zero_le _
    · rw [dg_sum, ← hl, cnt_sm]
      have d : ∀ n, 2 * sm (fun k => if C k = true then 1 else 0) n = sm (fun k => (if C k = true then 1 else 0) + (if C k = true then 1 else 0)) n := fun n => by
        rw [sm_add]
        (first | lia | omega)
      rw [d]
      exact sm_congr fun x _ => by split <;> rfl
  obtain ⟨c0, hc0, hcc⟩ := cnt_some (f := C) (n := N.p) (by (first | lia | omega))
  refine ⟨fun z => ?_, ev, fun q hq eq => ?_⟩
  · have h := pos c0 hc0 hcc
    obtain ⟨k, _, hb, _⟩ := dg_some h
    rw [z] at hb
    simp at hb
  · by_cases hq0 : q = 0
    · exact .inl hq0
    · right
      have full : ∀ x, x < N.p → 0 < N.dg q x → ∀ k, k < N.n → m.testBit k = true → (N.a k = x ∨ N.b k = x) → q.testBit k = true := fun x hx h k hk hb hx2 => by
        have h1 := dg_le (N := N) hq x
        have h3 := even_dg eq hx
        have h4 := two x hx
        have h5 : N.dg q x = N.dg m x := by
          by_cases hc : C x = true
          · rw [if_pos hc] at h4
            (first | lia | omega)
          · rw [if_neg hc] at h4
            (first | lia | omega)
        have h6 := cnt_same (f := fun k => q.testBit k && N.inc k x) (g := fun k => m.testBit k && N.inc k x) (n := N.n) (fun k _ z => by
          rw [Bool.and_eq_true] at z ⊢
          exact ⟨hq k z.1, z.2⟩) h5 k hk (by rw [hb, Bool.true_and]; exact (inc_iff hk).mpr hx2)
        rw [Bool.and_eq_true] at h6
        exact h6.1
      obtain ⟨k0, hb0⟩ : ∃ k, q.testBit k = true := Nat.exists_testBit_of_ne_zero hq0
      have hk0 : k0 < N.n := bits_lt hm (hq k0 hb0)
      have spread : ∀ {y}, N.Conn (fun k => m.testBit k) N.n (N.a k0) y → 0 < N.dg q y := fun {y} c => by
        induction c with
        | refl => exact dg_at hk0 hb0 (.inl rfl)
        | fwd _ hj hs ih => exact dg_at hj (full _ (N.al _ hj) ih _ hj hs (.inl rfl)) (.inr rfl)
        | bwd _ hj hs ih => exact dg_at hj (full _ (N.bl _ hj) ih _ hj hs (.inr rfl)) (.inl rfl)
      refine Nat.eq_of_testBit_eq fun k => ?_
      cases hb : m.testBit k with
      | false =>
        cases hz : q.testBit k with
        | false => rfl
        | true =>
          have := hq k hz
          rw [hb] at this
          cases this
      | true =>
        have hk := bits_lt hm hb
        have e1 := (inC k hk hb).1
        have e2 := (inC k0 hk0 (hq k0 hb0)).1
        rw [hC _ (N.al k hk)] at e1
        rw [hC _ (N.al k0 hk0)] at e2
        exact full _ (N.al k hk) (spread (labs_conn _ _ _ ((of_decide_eq_true e2).trans (of_decide_eq_true e1).symm))) k hk hb (.inl rfl)
theorem ring_piece (hm : m < 2 ^ N.n) (r : N.Ring m) : ∃ k0, k0 < N.n ∧ m.testBit k0 = true ∧ ∀ k, k < N.n → m.testBit k = true → N.labs (fun k => m.testBit k) N.n (N.a k) = N.labs (fun k => m.testBit k) N.n (N.a k0) := by
  obtain ⟨h0, ev, mn⟩ := r
  obtain ⟨k0, hb0⟩ := Nat.exists_testBit_of_ne_zero h0
  have hk0 := bits_lt hm hb0
  refine ⟨k0, hk0, hb0, ?_⟩
  generalize hs : N.labs (fun k => m.testBit k) N.n (N.a k0) = s
  have bit : ∀ k, (Ring.maskOf (fun k => m.testBit k && decide (N.labs (fun k => m.testBit k) N.n (N.a k) = s)) N.n).testBit k = (decide (k < N.n) && (m.testBit k && decide (N.labs (fun k => m.testBit k) N.n (N.a k) = s))) := fun k => Ring.mask_bit _ k _
  have sub : ∀ k, (Ring.maskOf (fun k => m.testBit k && decide (N.labs (fun k => m.testBit k) N.n (N.a k) = s)) N.n).testBit k = true → m.testBit k = true := fun k hk => by
    rw [bit, Bool.and_eq_true, Bool.and_eq_true] at hk
    exact hk.2.1
  have evn : N.Even (Ring.maskOf (fun k => m.testBit k && decide (N.labs (fun k => m.testBit k) N.n (N.a k) = s)) N.n) := fun x hx => by
    have e : N.bd (Ring.maskOf (fun k => m.testBit k && decide (N.labs (fun k => m.testBit k) N.n (N.a k) = s)) N.n) x = (decide (N.labs (fun k => m.testBit k) N.n x = s) && N.bd m x) := by
      unfold Net.bd
      rw [← xsum_and]
      refine xsum_congr fun k hk => ?_
      rw [bit, decide_eq_true hk, Bool.true_and]
      cases hb : m.testBit k with
      | false => simp
      | true =>
        cases hi : N.inc k x with
        | false => simp
        | true =>
          have el : N.labs (fun k => m.testBit k) N.n (N.a k) = N.labs (fun k => m.testBit k) N.n x := by
            rcases (inc_iff hk).mp hi with z | z
            · rw [z]
            · rw [← z]
              exact labs_tie (S := fun k => m.testBit k) hk hb
          rw [el]
          simp
    rw [e, ev x hx, Bool.and_false]
  rcases mn _ sub evn with q | q
  · have := bit k0
    rw [q, hb0, hs, decide_eq_true hk0] at this
    simp at this
  · intro k hk hb
    have h := bit k
    rw [q, hb, decide_eq_true hk] at h
    exact of_decide_eq_true (by simpa using h.symm)
theorem roots_set (S : Nat → Bool) : ∀ k, k ≤ N.n → cnt (N.root S k) N.p + cnt (fun j => S j && !decide (N.labs S j (N.a j) = N.labs S j (N.b j))) k = N.p
  | 0, _ => by
    show cnt (N.root S 0) N.p + 0 = N.p
    rw [cnt_all (f := N.root S 0) fun x _ => decide_eq_true rfl]
    rfl
  | k + 1, hk => by
    have ih := roots_set S k (by (first | lia | omega))
    have st := roots_step (N := N) (S := S) (k := k) (by (first | lia | omega))
    show cnt (N.root S (k + 1)) N.p + (cnt (fun j => S j && !decide (N.labs S j (N.a j) = N.labs S j (N.b j))) k + if (S k && !decide (N.labs S k (N.a k) = N.labs S k (N.b k))) = true then 1 else 0) = N.p
    (first | lia | omega)
theorem ring_len (hm : m < 2 ^ N.n) (r : N.Ring m) (C : Nat → Bool) (hC : ∀ x, x < N.p → C x = decide (N.labs (fun k => m.testBit k) N.n x = s))
    (tie : ∀ k, k < N.n → m.testBit k = true → C (N.a k) = true) : 2 ≤ cnt C N.p ∧ cnt C N.p = cnt (fun k => m.testBit k) N.n ∧ ∀ x, x < N.p → C x = false → N.labs (fun k => m.testBit k) N.n x = x ∧ ∀ y, N.labs (fun k => m.testBit k) N.n y = x → y = x := by
  obtain ⟨h0, ev, mn⟩ := r
  obtain ⟨k0, hb0⟩ := Nat.exists_testBit_of_ne_zero h0
  have hk0 := bits_lt hm hb0
  have inC : ∀ k, k < N.n → m.testBit k = true → C (N.a k) = true ∧ C (N.b k) = true := fun k hk hb => by
    have h := tie k hk hb
    refine ⟨h, ?_⟩
    rw [hC _ (N.al k hk)] at h
    rw [hC _ (N.bl k hk), ← labs_tie (S := fun k => m.testBit k) hk hb]
    exact h
  have h2 : 2 ≤ cnt C N.p := two_cnt (inC k0 hk0 hb0).1 (inC k0 hk0 hb0).2 (N.ne k0 hk0) (N.al k0 hk0) (N.bl k0 hk0)
  have none : ∀ x, x < N.p → C x = false → N.dg m x = 0 := fun x hx hc => by
    cases hz : N.dg m x with
    | zero => rfl
    | succ d =>
      exfalso
      obtain ⟨k, hk, hb, hx2⟩ := dg_some (N := N) (m := m) (x := x) (by (first | lia | omega))
      rcases hx2 with e | e
      · have := (inC k hk hb).1
        rw [e, hc] at this
        cases this
      · have := (inC k hk hb).2
        rw [e, hc] at this
        cases this
  have solo : ∀ x, x < N.p → C x = false → N.labs (fun k => m.testBit k) N.n x = x ∧ ∀ y, N.labs (fun k => m.testBit k) N.n y = x → y = x := fun x hx hc => by
    have hz := none x hx hc
    have r1 : N.labs (fun k => m.testBit k) N.n x = x := alone hz (labs_conn _ _ _ (labs_root _ _).symm)
    exact ⟨r1, fun y hy => alone hz (labs_conn _ _ _ (r1.trans hy.symm))⟩
  refine ⟨h2, ?_, solo⟩
  -- no fewer ties than points
  have pos : ∀ x, x < N.p → C x = true → 0 < N.dg m x := fun x hx hc => by
    cases hz : N.dg m x with
    | succ d => (first | lia | omega)
    | zero =>
      exfalso
      obtain ⟨y, hy, hcy, hne⟩ : ∃ y, y < N.p ∧ C y = true ∧ y ≠ x := by
        obtain ⟨c, d, h1, h3, h4, h5⟩ := cnt_two h2
        by_cases e : c = x
        · exact ⟨d, h3, h5, by (first | lia | omega)⟩
        · exact ⟨c, by (first | lia | omega), h4, e⟩
      rw [hC x hx] at hc
      rw [hC y hy] at hcy
      exact hne (alone hz (labs_conn _ _ _ ((of_decide_eq_true hc).trans (of_decide_eq_true hcy).symm)))
  have ge : cnt C N.p ≤ cnt (fun k => m.testBit k) N.n := by
    have h : sm (fun x => if C x = true then 2 else 0) N.p ≤ sm (fun x => N.dg m x) N.p := sm_le fun x hx => by
      by_cases hc : C x = true
      · rw [if_pos hc]
        have h1 := pos x hx hc
        have h3 := even_dg ev hx
        (first | lia | omega)
      · rw [if_neg hc]
        exact Nat.zero_le _
    rw [dg_sum] at h
    have d : sm (fun x => if C x = true then 2 else 0) N.p = 2 * cnt C N.p := by
      rw [cnt_sm]
      have d : ∀ n, 2 * sm (fun k => if C k = true then 1 else 0) n = sm (fun k => (if C k = true then 1 else 0) + (if C k = true then 1 else 0)) n := fun n => by
        rw [sm_add]
        (first | lia | omega)
      rw [d]
      exact sm_congr fun x _ => by split <;> rfl
    (first | lia | omega)
  -- no more: two chords would be two rings
  refine Nat.le_antisymm ge (Nat.le_of_not_lt fun more => ?_)
  have hroots := roots_set (N := N) (fun k => m.testBit k) N.n (Nat.le_refl _)
  have hr : cnt (N.root (fun k => m.testBit k) N.n) N.p + cnt C N.p = N.p + 1 := by
    -- the roots: all out of C, and one in it
    have hc0 := (inC k0 hk0 hb0).1
    rw [hC _ (N.al k0 hk0)] at hc0
    have hs := of_decide_eq_true hc0
    have hsp : s < N.p := by rw [← hs]; exact labs_lt (N.al k0 hk0)
    have hss : N.labs (fun k => m.testBit k) N.n s = s := by rw [← hs]; exact labs_root _ _
    have e : cnt (N.root (fun k => m.testBit k) N.n) N.p = cnt (fun x => !C x ^^ decide (s = x)) N.p := cnt_congr fun x hx => by
      unfold Net.root
      cases hc : C x with
      | false =>
        have ne : ¬ s = x := fun z => by
          have := hC x hx
          rw [hc, ← z, hss] at this
          simp at this
        rw [decide_eq_true (solo x hx hc).1, decide_eq_false ne]
        rfl
      | true =>
        have h := hC x hx
        rw [hc] at h
        have h := of_decide_eq_true h.symm
        rw [h]
        simp
    rw [e, cnt_or fun x hx ⟨z1, z2⟩ => by
      have z2 := of_decide_eq_true z2
      have := hC x hx
      rw [← z2, hss] at this
      rw [← z2, this] at z1
      simp at z1, cnt_eq, if_pos hsp]
    have := cnt_not C N.p
    (first | lia | omega)
  have split : cnt (fun k => m.testBit k) N.n = cnt (fun j => m.testBit j && !decide (N.labs (fun k => m.testBit k) j (N.a j) = N.labs (fun k => m.testBit k) j (N.b j))) N.n + cnt (fun j => m.testBit j && decide (N.labs (fun k => m.testBit k) j (N.a j) = N.labs (fun k => m.testBit k) j (N.b j))) N.n := by
    rw [← cnt_or fun x _ ⟨z1, z2⟩ => by
      rw [Bool.and_eq_true] at z1 z2
      have := z1.2
      rw [z2.2] at this
      cases this]
    refine cnt_congr fun k _ => ?_
    cases m.testBit k <;> cases decide (N.labs (fun k => m.testBit k) k (N.a k) = N.labs (fun k => m.testBit k) k (N.b k)) <;> rfl
  obtain ⟨c, d, hcd, hd, hc1, hd1⟩ := cnt_two (f := fun j => m.testBit j && decide (N.labs (fun k => m.testBit k) j (N.a j) = N.labs (fun k => m.testBit k) j (N.b j))) (n := N.n) (by (first | lia | omega))
  have whole : ∀ j, j < N.n → (m.testBit j && decide (N.labs (fun k => m.testBit k) j (N.a j) = N.labs (fun k => m.testBit k) j (N.b j))) = true → ∀ i, m.testBit i = true → i ≤ j := fun j hj h i hi => by
    rw [Bool.and_eq_true] at h
    obtain ⟨t, t1, t2⟩ := conn_path (Nat.le_of_lt hj) (labs_conn _ _ _ (of_decide_eq_true h.2))
    have own : (t ^^^ 2 ^ j).testBit j = true := by
      rw [Nat.testBit_xor, Nat.testBit_two_pow, decide_eq_true rfl]
      cases hz : t.testBit j with
      | false => rfl
      | true => exact absurd (t1 j hz).1 (Nat.lt_irrefl _)
    have sub : ∀ k, (t ^^^ 2 ^ j).testBit k = true → m.testBit k = true := fun k hk => by
      rw [Nat.testBit_xor, Nat.testBit_two_pow] at hk
      by_cases e : j = k
      · subst e
        exact h.1
      · rw [decide_eq_false e, Bool.xor_false] at hk
        exact (t1 k hk).2
    have evn : N.Even (t ^^^ 2 ^ j) := fun x hx => by
      rw [bd_xor, t2, bd_pow hj]
      unfold Net.inc
      cases decide (N.a j = x) <;> cases decide (N.b j = x) <;> rfl
    rcases mn _ sub evn with q | q
    · rw [q] at own
      simp at own
    · rw [← q, Nat.testBit_xor, Nat.testBit_two_pow] at hi
      by_cases e : j = i
      · (first | lia | omega)
      · rw [decide_eq_false e, Bool.xor_false] at hi
        exact Nat.le_of_lt (t1 i hi).1
  have h1 : m.testBit d = true := by
    rw [Bool.and_eq_true] at hd1
    exact hd1.1
  have := whole c (by (first | lia | omega)) hc1 d h1
  (first | lia | omega)
end
end RM

namespace Ring
open PySem L2
def touchedOf (L : Nat → Nat) (p : Nat) : List Nat := (rootsOf L p).filter fun s => decide (1 < (pieceOf L p s).length)
def oneB (L : Nat → Nat) (p k : Nat) : List Nat → Bool
  | [s] => decide ((pieceOf L p s).length = k)
  | _ => false
def ringB (p : Nat) (ts : List Tie) (g : GoodWeb p ts) (m : Nat) : Bool := decide (oddOf p ts (m : Int) = []) && oneB (labOf p ts g m) p (tiesOf (m : Int)).length (touchedOf (labOf p ts g m) p)
theorem piece_cnt (L : Nat → Nat) (p s : Nat) : (pieceOf L p s).length = RM.cnt (fun x => decide (L x = s)) p := RM.cnt_range _ _
theorem ties_cnt {m n : Nat} (hm : m < 2 ^ n) : (tiesOf (m : Int)).length = RM.cnt (fun k => m.testBit k) n := by
  rw [ties_nat hm]
  exact RM.cnt_range _ _
theorem filter_is {f : Nat → Bool} {n c : Nat} (hc : c < n) (h : ∀ k, k < n → f k = decide (k = c)) : (List.range n).filter f = [c] := by
  rw [← filter_single hc]
  exact List.filter_congr fun k hk => h k (List.mem_range.mp hk)
theorem ringB_iff {p : Nat} {ts : List Tie} (g : GoodWeb p ts) {m : Nat} (hm : m < 2 ^ ts.length) : ringB p ts g m = true ↔ (netOf p ts g).Ring m := by
  have eL : labOf p ts g m = (netOf p ts g).labs (fun k => m.testBit k) (netOf p ts g).n := rfl
  have ep : (netOf p ts g).p = p := rfl
  constructor
  · intro h
    unfold ringB at h
    rw [Bool.and_eq_true] at h
    obtain ⟨h1, h2⟩ := h
    have ev := (even_net g hm).mp (of_decide_eq_true h1)
    unfold oneB at h2
    split at h2
    · rename_i s hs
      have h2 := of_decide_eq_true h2
      have hmem : s ∈ touchedOf (labOf p ts g m) p := by rw [hs]; exact List.mem_singleton.mpr rfl
      unfold touchedOf at hmem
      have hlen := of_decide_eq_true (List.mem_filter.mp hmem).2
      refine RM.ring_of (s := s) hm ev (fun x => decide (labOf p ts g m x = s)) (fun x _ => by rw [eL]) ?_ (fun k hk hb => ?_) ?_
      · rw [ep, ← piece_cnt]
        exact hlen
      · -- the piece of a tie is touched
        have hak := (netOf p ts g).al k hk
        have hbk := (netOf p ts g).bl k hk
        have e : labOf p ts g m ((netOf p ts g).b k) = labOf p ts g m ((netOf p ts g).a k) := (RM.labs_tie (S := fun k => m.testBit k) hk hb).symm
        have hr : labOf p ts g m (labOf p ts g m ((netOf p ts g).a k)) = labOf p ts g m ((netOf p ts g).a k) := RM.labs_root _ _
        have hlt : labOf p ts g m ((netOf p ts g).a k) < p := RM.labs_lt hak
        have ht : labOf p ts g m ((netOf p ts g).a k) ∈ touchedOf (labOf p ts g m) p := by
          unfold touchedOf rootsOf
          refine List.mem_filter.mpr ⟨List.mem_filter.mpr ⟨List.mem_range.mpr hlt, decide_eq_true hr⟩, decide_eq_true ?_⟩
          rw [piece_cnt]
          exact RM.two_cnt (u := (netOf p ts g).a k) (v := (netOf p ts g).b k) (decide_eq_true rfl) (decide_eq_true e) ((netOf p ts g).ne k hk) hak hbk
        rw [hs] at ht
        exact decide_eq_true (List.mem_singleton.mp ht)
      · rw [ep, ← piece_cnt, h2]
        exact ties_cnt hm
    · cases h2
  · intro r
    obtain ⟨k0, hk0, hb0, hall⟩ := RM.ring_piece hm r
    generalize hs : (netOf p ts g).labs (fun k => m.testBit k) (netOf p ts g).n ((netOf p ts g).a k0) = s at hall
    obtain ⟨h2, hl, solo⟩ := RM.ring_len (s := s) hm r (fun x => decide (labOf p ts g m x = s)) (fun x _ => by rw [eL]) (fun k hk hb => decide_eq_true (hall k hk hb))
    have hsp : s < p := by rw [← hs]; exact RM.labs_lt ((netOf p ts g).al k0 hk0)
    have hss : labOf p ts g m s = s := by rw [eL, ← hs]; exact RM.labs_root _ _
    have ht : touchedOf (labOf p ts g m) p = [s] := by
      unfold touchedOf rootsOf
      rw [List.filter_filter]
      refine filter_is hsp fun x hx => ?_
      by_cases e : x = s
      · subst e
        rw [decide_eq_true hss, piece_cnt, decide_eq_true rfl, Bool.and_true]
        exact decide_eq_true h2
      · rw [decide_eq_false e]
        by_cases hx2 : labOf p ts g m x = x
        · have hc : decide (labOf p ts g m x = s) = false := decide_eq_false (by rw [hx2]; exact e)
          obtain ⟨_, q⟩ := solo x hx hc
          have : ¬ 1 < (pieceOf (labOf p ts g m) p x).length := fun z => by
            rw [piece_cnt] at z
            obtain ⟨c, d, h1, _, h3, h4⟩ := RM.cnt_two z
            have h3 := q c (of_decide_eq_true h3)
            have h4 := q d (of_decide_eq_true h4)
            (first | lia | omega)
          rw [decide_eq_false this, Bool.false_and]
        · rw [decide_eq_false hx2, Bool.and_false]
    unfold ringB
    rw [decide_eq_true ((even_net g hm).mpr r.2.1), ht, Bool.true_and]
    refine decide_eq_true ?_
    rw [piece_cnt, ties_cnt hm]
    exact hl
theorem ringB_even {p : Nat} {ts : List Tie} {g : GoodWeb p ts} {m : Nat} (ev : oddOf p ts (m : Int) = []) : ringB p ts g m = oneB (labOf p ts g m) p (tiesOf (m : Int)).length (touchedOf (labOf p ts g m) p) := by
  unfold ringB
  rw [decide_eq_true ev, Bool.true_and]
theorem dec_bool (u v : Bool) : decide (V.bl u = V.bl v) = decide (u = v) := decide_eq_decide.mpr ⟨fun z => V.bl.inj z, fun z => by rw [z]⟩
def LstA (H : Hp) (y : V) (l : List Nat) : Prop := ∃ b, y = .ref b ∧ H b = some (.lst (natsV l))
def Sift (f : List Nat → Bool) (ls : List (List Nat)) (H : Hp) (D : Addr) (i : Nat) (acc : List V) (H2 : Hp) : Prop := Same H H2 ∧ H2 D = some (.lst acc) ∧ Paired (LstA H) acc ((ls.take i).filter f)
section
variable {f : List Nat → Bool} {ls : List (List Nat)} {H H2 H3 : Hp} {D : Addr} {i : Nat} {acc : List V} {y : V} {l : List Nat}
theorem Sift.start (hD : H D = none) : Sift f ls H D 0 [] (upd H D (.lst [])) := ⟨Same.new hD, upd_same, .nil⟩
theorem Sift.len (h : Sift f ls H D i acc H2) : H2 D = some (.lst acc) ∧ acc.length ≤ i := ⟨h.2.1, by
  rw [h.2.2.length]
  exact Nat.le_trans (List.length_filter_le _ _) (by rw [List.length_take]; (first | lia | omega))⟩
theorem Sift.yes (h : Sift f ls H D i acc H2) (hD : H D = none) (hl : ls[i]? = some l) (hf : f l = true) (hy : LstA H y l) : H2 D = some (.lst acc) ∧ Sift f ls H D (i + 1) (acc ++ [y]) (upd H2 D (.lst (acc ++ [y]))) := by
  refine ⟨h.2.1, h.1.put hD, upd_same, ?_⟩
  rw [List.take_add_one, hl, List.filter_append]
  show Paired _ _ (_ ++ List.filter f [l])
  rw [List.filter_cons, if_pos hf]
  exact Paired.snoc h.2.2 hy
theorem Sift.no (h : Sift f ls H D i acc H2) (hl : ls[i]? = some l) (hf : f l = false) : Sift f ls H D (i + 1) acc H2 := by
  refine ⟨h.1, h.2.1, ?_⟩
  rw [List.take_add_one, hl, List.filter_append]
  show Paired _ _ (_ ++ List.filter f [l])
  rw [List.filter_cons, if_neg (by rw [hf]; exact Bool.false_ne_true)]
  simpa using h.2.2
end
end Ring

namespace L2
open PySem PySem.Spec PyProof.Rows
section
variable {prog : Program} {w : World} {A : Around} {E : Value → Shared → Prop} {s : Shared}
theorem tnext_item {it t : Addr} {i : Nat} {items : Array Value} {x : Value} {Q : Value → Shared → Prop} (hit : s.heap.IsTupleIter it t i) (ht : s.heap.IsTuple t items) (hx : items[i]? = some x)
    (q : ∀ h', h'.IsTupleIter it t (i + 1) → Heap.SameBut it s.heap h' → Q x { s with heap := h' }) : wpAny (model prog w) A (Builtin.SmallTypes.nextOf (.ref it)) Q E s := by
  obtain ⟨o, ho, hc, hd⟩ := id hit
  obtain ⟨ot, hot, _, nt, hdt⟩ := ht
  rw [Builtin.SmallTypes.nextOf]
  refine wpAny_bind (wpAny_callSpecial?_slot (name := Str.ofString "__next__") hit.typeIs F.slot_tuple_iterator_next (wpAny_call_entry F.slot_tuple_iterator_next hit.typeIs F.entry_tuple_iterator_next ?_ (F.args_tuple_iterator_next_1 _)))
  show wpAny _ _ (field (.ref it) 0 >>= fun _ => _) _ _ s
  refine wpAny_bind (wpAny_field ho hd (x := .ref t) rfl ?_)
  show wpAny _ _ (if (Value.ref t == Value.none) = true then _ else _) _ _ s
  rw [if_neg (by simp)]
  show wpAny _ _ (field (.ref it) 1 >>= fun _ => _) _ _ s
  refine wpAny_bind (wpAny_field ho hd (x := .int i 0) rfl ?_)
  show wpAny _ _ (seqItems? (.ref t) >>= fun _ => _) _ _ s
  refine wpAny_bind (wpAny_seqItems hot hdt ?_)
  simp only [Int.toNat_natCast, hx]
  refine wpAny_bind (wpAny_setField ho hd (by simp) (wpAny_pure ⟨x, rfl, wpAny_pure (q _ ?_ (Heap.SameBut.update ..))⟩))
  refine ⟨_, Heap.get?_update_self _ ho (Obj.isFreed_of_fields (Obj.data_mapFields hd _)), (Obj.cls_mapFields ..).trans hc, ?_⟩
  rw [Obj.data_mapFields hd]
  simp [rawInt]
theorem tnext_end {it t : Addr} {i : Nat} {items : Array Value} {Q : Value → Shared → Prop} (hh : A.handled = none) (hit : s.heap.IsTupleIter it t i) (ht : s.heap.IsTuple t items) (hx : items[i]? = none)
    (q : ∀ h' e, Heap.ExtBut it s.heap h' → (∃ o, h'.get? e = some o ∧ o.cls = .type "StopIteration") → E (.ref e) { s with heap := h' }) : wpAny (model prog w) A (Builtin.SmallTypes.nextOf (.ref it)) Q E s := by
  obtain ⟨o, ho, hc, hd⟩ := id hit
  obtain ⟨ot, hot, _, nt, hdt⟩ := ht
  rw [Builtin.SmallTypes.nextOf]
  refine wpAny_bind (wpAny_callSpecial?_slot (name := Str.ofString "__next__") hit.typeIs F.slot_tuple_iterator_next (wpAny_call_entry F.slot_tuple_iterator_next hit.typeIs F.entry_tuple_iterator_next ?_ (F.args_tuple_iterator_next_1 _)))
  show wpAny _ _ (field (.ref it) 0 >>= fun _ => _) _ _ s
  refine wpAny_bind (wpAny_field ho hd (x := .ref t) rfl ?_)
  show wpAny _ _ (if (Value.ref t == Value.none) = true then _ else _) _ _ s
  rw [if_neg (by simp)]
  show wpAny _ _ (field (.ref it) 1 >>= fun _ => _) _ _ s
  refine wpAny_bind (wpAny_field ho hd (x := .int i 0) rfl ?_)
  show wpAny _ _ (seqItems? (.ref t) >>= fun _ => _) _ _ s
  refine wpAny_bind (wpAny_seqItems hot hdt ?_)
  simp only [Int.toNat_natCast, hx]
  refine wpAny_bind (wpAny_rule (wpAny_bind (wpAny_setField ho hd (by simp) ?_)))
  show wpAny _ _ (newExc (.type "StopIteration") [] >>= fun _ => _) _ _ _
  refine wpAny_bind ?_
  simp only [newExc, newTuple]
  refine wpAny_bind (wpAny_newObj_type ?_ (by size_fits))
  refine wpAny_bind (m := firstArgMember _ _) (wpAny_of_eq (a := Value.none) (by first | rfl | (simp only [firstArgMember]; rfl)) (wpAny_newObj_type ?_ (by size_fits)))
  exact wpAny_raiseNew_none hh (q _ _ (((Heap.SameBut.update ..).extBut.push _).push _) ⟨_, Heap.get?_push_size _ rfl, rfl⟩)
theorem draws_tuple (hh : A.handled = none) (it t : Addr) (hne : t ≠ it) (items : Array Value) :
    Draws prog w A it [it, t] items.size (fun i v => items[i]? = some v) (fun i h => h.IsTupleIter it t i ∧ h.IsTuple t items) where
  live := fun _ _ st => let ⟨o, ho, _⟩ := st.1; ⟨o, ho⟩
  frame := fun _ _ _ st hk => ⟨st.1.at fun o e => hk it (by simp) o e, st.2.at fun o e => hk t (by simp) o e⟩
  item := fun i s Q E hi st hQ => tnext_item st.1 st.2 (x := items[i]) (by simp [hi]) fun h' hit' hs' => hQ _ h' s.toks (by simp [hi]) ⟨hit', st.2.extBut hs'.extBut hne⟩ hs'
  done := fun s Q E st hE => tnext_end hh st.1 st.2 (by simp) hE
end
open AutoSeq1 (wpAny_loadPart') in
theorem meets_enum_tuple (l : Addr) (items : Array Value) (n : Nat) (dct : Option Addr) (sl : Array (Option Value)) :
    Meets (Builtin.«enumerate.__new__» ⟨[.type "enumerate", .ref l], []⟩) (fun _ R s => s.heap.get? l = some { cls := .type "tuple", dict := dct, data := .seq items n, slots := sl } ∧
      R (.ok (.ret (.ref (s.heap.push { cls := .type "tuple_iterator", data := .fields #[.ref l, .int 0 0] }).objs.size)))
        { s with heap := (s.heap.push { cls := .type "tuple_iterator", data := .fields #[.ref l, .int 0 0] }).push { cls := .type "enumerate", data := .fields #[.none, .bool false, .ref s.heap.objs.size, rawInt 0, .none, .none] } }) :=
  .of_wp fun prog w A R s h => by
    obtain ⟨hp, g, d, tk, os⟩ := s
    obtain ⟨hl, h⟩ := h
    have hsub := sub_enumerate
    have hL : Heap.IsTuple (Shared.heap ⟨hp, g, d, tk, os⟩) l items := ⟨_, hl, rfl, n, rfl⟩
    wp_walk using wpAny_loadPart' hl
    refine wpAny_stack_any fun st => wpAny_pure ?_
    split
    · rename_i c _ _ _ _ _
      cases (c == Value.type "enumerate")
      · wp_walk using wpAny_loadPart' hl, wpAny_pyIter_tuple hL
        exact ⟨_, rfl, h⟩
      · wp_walk using wpAny_loadPart' hl, wpAny_pyIter_tuple hL
        exact ⟨_, rfl, h⟩
    · wp_walk using wpAny_loadPart' hl, wpAny_pyIter_tuple hL
      exact ⟨_, rfl, h⟩
section
variable {prog : Program} {w : World} {A : Around} {E : Value → Shared → Prop} {s : Shared}
theorem enum_tuple {l : Addr} {items : Array Value} {Q : Value → Shared → Prop} (hL : s.heap.IsTuple l items)
    (h : ∀ h', IsEnum h' (s.heap.objs.size + 1) s.heap.objs.size 0 .none → h'.IsTupleIter s.heap.objs.size l 0 → h'.objs.size = s.heap.objs.size + 2 → (∀ b o, s.heap.get? b = some o → h'.get? b = some o) → Q (.ref (s.heap.objs.size + 1)) { s with heap := h' }) :
    wpAny (model prog w) A (call (.type "enumerate") [.ref l]) Q E s := by
  obtain ⟨⟨c, dct, dt, sl⟩, hl, hc, n, hd⟩ := hL
  replace hc : c = .type "tuple" := hc
  replace hd : dt = .seq items n := hd
  subst hc hd
  refine callType_new F.called_enumerate (by decide) (F.typeCall_enumerate_1 _) (F.newCall_enumerate_1 _) (fun obj => F.args_object_init_2 obj _) F.entry_enumerate_new (meets_enum_tuple l items n dct sl) ⟨hl, ?_⟩
  have hz : (s.heap.push { cls := .type "tuple_iterator", data := .fields #[.ref l, .int 0 0] }).objs.size = s.heap.objs.size + 1 := Heap.size_push ..
  show _ ∧ _
  rw [hz]
  have he : IsEnum ((s.heap.push { cls := .type "tuple_iterator", data := .fields #[.ref l, .int 0 0] }).push { cls := .type "enumerate", data := .fields #[.none, .bool false, .ref s.heap.objs.size, rawInt 0, .none, .none] }) (s.heap.objs.size + 1) s.heap.objs.size 0 .none := by
    have z := Heap.get?_push_size (s.heap.push { cls := .type "tuple_iterator", data := .fields #[.ref l, .int 0 0] }) (o := { cls := .type "enumerate", data := .fields #[.none, .bool false, .ref s.heap.objs.size, rawInt 0, .none, .none] }) rfl
    rw [hz] at z
    exact z
  exact ⟨⟨_, he, rfl⟩, h _ he ⟨_, Heap.get?_push_of_some _ (Heap.get?_push_size _ rfl), rfl, rfl⟩ (by rw [Heap.size_push, hz]) fun b o x => Heap.get?_push_of_some _ (Heap.get?_push_of_some _ x)⟩
end
def IteT (K : PySem.W.Frag) (a : Addr) : It :=
  ⟨fun i H => ∃ xs x, SqT K H a xs ∧ xs[i]? = some x, fun i H v H' => ∃ T x, v = .ref T ∧ H T = none ∧ H' = upd H T (.tup [.int (i : Int), x]) ∧ ∀ xs, SqT K H a xs → xs[i]? = some x, fun i H => ∃ xs, SqT K H a xs ∧ xs.length = i⟩
theorem turn_enumT {P : Program} {w : World} {K : PySem.W.Frag} {elts : List Expr} {k : Nat} {pos : Pos} (a e it : Addr) (hne : e ≠ it) :
    Turn P w K (.Tuple elts k pos) (IteT K a) [e, it] e (fun i h => (∃ old, IsEnum h e it (i : Int) old) ∧ h.IsTupleIter it a i) where
  mem := by simp
  obj := fun i h st b hb => by
    obtain ⟨⟨old, he⟩, o, ho, c, d⟩ := st
    have hb' : b = e ∨ b = it := by simpa using hb
    rcases hb' with rfl | rfl
    · exact ⟨_, he, fun v z => by cases z⟩
    · exact ⟨o, ho, fun v z => by rw [d] at z; cases z⟩
  keep := fun i h h' st k => by
    obtain ⟨⟨old, he⟩, hit⟩ := st
    exact ⟨⟨old, k e (by simp) _ he⟩, hit.at fun o x => k it (by simp) o x⟩
  item := by
    intro X hP hw hK hc i pins s σ H E I hf st hg
    subst hP hw hK
    obtain ⟨xs, x, hq, hx⟩ := hg
    obtain ⟨its, rv, p, hz⟩ := I.tuple hq
    obtain ⟨u, hu, ru⟩ := rv.get hx
    obtain ⟨⟨old, he⟩, hit⟩ := st
    have pT : s.heap.IsTuple a its.toArray := p
    have hai : a ≠ it := fun z => by
      obtain ⟨o1, h1, _, _, d1⟩ := pT
      obtain ⟨o2, h2, _, d2⟩ := hit
      rw [z, h2] at h1
      cases h1
      rw [d2] at d1
      cases d1
    have hae : e ∉ [it, a] := fun z => by
      have z' : e = it ∨ e = a := by simpa using z
      rcases z' with z' | z'
      · exact hne z'
      · obtain ⟨o1, h1, _, _, d1⟩ := pT
        rw [← z', he] at h1
        cases h1
        cases d1
    refine wpAny_pyNext_enum_itemD (draws_tuple (A := X.A.in1) (I.ok.hd hc) it a hai its.toArray) he ⟨hit, pT⟩ (by have := (List.getElem?_eq_some_iff.mp hu).1; simpa using this) hne hae fun y h1 tk hy ho hit1 hT hsz hk => ?_
    have hyu : y = u := by
      have z : its.toArray[i]? = some u := by simpa using hu
      rw [hy] at z
      exact Option.some.inj z
    subst hyu
    refine ⟨_, rfl, wpAny_letOwnedTupleGo_enum ho fun h2 he2 hs2 => ?_⟩
    have hTe : s.heap.objs.size ≠ e := Nat.ne_of_gt (Heap.lt_size he)
    have hT2 : h2.get? s.heap.objs.size = some { cls := .type "tuple", data := .seq #[.int i tk, y] } := (hs2.2 _ hTe).trans hT
    refine ⟨.ref s.heap.objs.size, upd H s.heap.objs.size (.tup [.int (i : Int), x]), I.yields (wr := [e, it]) (t' := tk + 1) (fun b o hb q => ?_) hf (Nat.le_refl _) ?_, rfl, ⟨_, x, rfl, I.fresh, rfl, fun ys hy => by rw [I.tuple_inj hy hq]; exact hx⟩, ⟨⟨y, by simpa using he2⟩, ?_⟩, fun b hb => ?_⟩
    · have h1' : b ≠ e := fun z => hb (by simp [z])
      have h2' : b ≠ it := fun z => hb (by simp [z])
      exact (hs2.2 b h1').trans (hk b o h1' h2' q)
    · exact ⟨dl rfl, [.int i tk, y], .cons ⟨_, rfl⟩ (.cons ru .nil), ⟨_, hT2, rfl, _, rfl⟩⟩
    · exact hit1.1.at fun o q => (hs2.2 it (Ne.symm hne)).trans q
    · rw [upd_ne]
      · exact (hf b hb).1
      · have hb' : b = e ∨ b = it := by simpa using hb
        rcases hb' with rfl | rfl
        · exact Ne.symm hTe
        · obtain ⟨o, q, _⟩ := hit
          exact Nat.ne_of_lt (Heap.lt_size q)
  done := by
    intro X hP hw hK hc i pins s σ H E I hf st hg
    subst hP hw hK
    obtain ⟨xs, hq, hx⟩ := hg
    obtain ⟨its, rv, p, hz⟩ := I.tuple hq
    obtain ⟨⟨old, he⟩, hit⟩ := st
    have pT : s.heap.IsTuple a its.toArray := p
    have hai : a ≠ it := fun z => by
      obtain ⟨o1, h1, _, _, d1⟩ := pT
      obtain ⟨o2, h2, _, d2⟩ := hit
      rw [z, h2] at h1
      cases h1
      rw [d2] at d1
      cases d1
    obtain ⟨f0, f1, f2, f3, f4, f5⟩ := hf it (by simp)
    have hl := rv.length
    have hi : i = its.toArray.size := by rw [List.size_toArray]; (first | lia | omega)
    subst hi
    exact wpAny_pyNext_enum_endD (draws_tuple (A := X.A.in1) (I.ok.hd hc) it a hai its.toArray) he ⟨hit, pT⟩ fun h' eb => ⟨rfl, I.turned (t' := s.toks) (fun b o hb e => eb b o hb e) f0 f1 f3 f4 f5⟩
  self := fun _ _ _ _ _ st h => by
    obtain ⟨⟨old, he⟩, _⟩ := st
    exact wpAny_pyIter_enum he h
section
variable {X : Cx} {elts : List Expr} {n : Nat} {tp : Pos}
def iEnumT (K : PySem.W.Frag) (ta : TA) : TI := fun σ H R => ta σ H fun vs H1 => ∃ a, vs = [.ref a] ∧ (∃ xs, SqT K H1 a xs) ∧ R (IteT K a) H1
theorem pi_enumT (K : PySem.W.Frag) {a : Expr} {ta : TA} {p pos : Pos} (hg : Gl X "enumerate") (hm : X.mg "enumerate" = none) (ha : PA X [a] ta) (hs : starEach [a] X.env = [(false, eval a X.env)] := by rfl) (hK : X.K = K := by rfl) :
    PI X (.Tuple elts n tp) (.Call (.Name "enumerate" p) [a] [] pos) (iEnumT K ta) := by
  subst hK
  intro pins s σ H R I h
  refine Call_ (ld_blt I hg hm boot_enumerate (PyProof.Rows.callWith_type1 (thn (ha pos pins s σ H _ I h) fun us s1 ⟨vs, H1, I1, r1, q1⟩ => ?_) hs rfl))
  obtain ⟨a, e, ⟨xs, hq⟩, q⟩ := q1
  subst e
  cases r1 with
  | cons r rr =>
    cases rr
    cases r
    obtain ⟨its, rv, pl, hz⟩ := I1.tuple hq
    refine enum_tuple (show s1.heap.IsTuple a its.toArray from pl) fun h' he hit hsz hk => ?_
    have I2 : Inv X pins σ H1 { s1 with heap := h' } := I1.kept (t' := s1.toks) hk
    refine wpAny_pyIter_enum he ⟨_, [s1.heap.objs.size + 1, s1.heap.objs.size], _, _, H1, rfl, I2, turn_enumT a _ _ (Nat.succ_ne_self _), ⟨⟨_, he⟩, hit⟩, fun b hb => ?_, q⟩
    have hb' : b = s1.heap.objs.size + 1 ∨ b = s1.heap.objs.size := by simpa using hb
    have hbs : s1.heap.objs.size ≤ b := by
      rcases hb' with rfl | rfl
      · exact Nat.le_succ _
      · exact Nat.le_refl _
    exact I1.fpOk hbs (I1.hok.fresh hbs)
end
section
variable {K : PySem.W.Frag} {a : Addr} {xs : List V} {g : TG} {tt : TT} {te : TE} {n : Nat} {fr : St} {D : Addr} {Q : Hp → Prop} {H1 : Hp}
theorem comp_enumT (Pv : Nat → List V → Hp → Prop) (h0 : Pv 0 [] H1) (hl : ∀ i acc H, i ≤ xs.length → Pv i acc H → SqT K H a xs ∧ H D = some (.lst acc) ∧ acc.length ≤ i) (hz : xs.length ≤ sizeLine)
    (hs : ∀ i x T acc H, xs[i]? = some x → Pv i acc H → H T = none → g (.ref T) (List.replicate n none ++ fr) (upd H T (.tup [.int (i : Int), x])) fun σ2 H2 => σ2.drop n = fr ∧ tt σ2 H2 fun b H3 =>
      if b = true then te σ2 H3 fun v H4 => H4 D = some (.lst acc) ∧ Pv (i + 1) (acc ++ [v]) (upd H4 D (.lst (acc ++ [v]))) else Pv (i + 1) acc H3)
    (hd : ∀ acc H, Pv xs.length acc H → Q H) : CompLoop (IteT K a) g tt te n fr D Q H1 := by
  refine ⟨fun i m acc H => m = xs.length - i ∧ i ≤ xs.length ∧ Pv i acc H, ⟨xs.length, by simp, Nat.zero_le _, h0⟩, ?_⟩
  rintro i m acc H ⟨rfl, hi, p⟩
  obtain ⟨q, hD, ha⟩ := hl i acc H hi p
  refine ⟨hD, ?_⟩
  by_cases hlt : i < xs.length
  · refine .inr ⟨⟨xs, xs[i], q, by simp [hlt]⟩, by (first | lia | omega), Pv (i + 1), fun acc' H' p' => ⟨xs.length - (i + 1), by (first | lia | omega), rfl, hlt, p'⟩, fun v H' y => ?_⟩
    obtain ⟨T, x, rfl, hT, rfl, y⟩ := y
    exact hs i x T acc _ (y xs q) p hT
  · have e : i = xs.length := by (first | lia | omega)
    subst e
    exact .inl ⟨⟨xs, q, rfl⟩, hd acc H p⟩
end
end L2

namespace RM
variable {N : Net}
def Net.cut (N : Net) (C : Nat → Bool) : Nat := Ring.maskOf (fun k => C (N.a k) ^^ C (N.b k)) N.n
def Net.par (N : Net) (q m : Nat) : Bool := xsum (fun k => q.testBit k && m.testBit k) N.n
theorem par_xor (q r m : Nat) : N.par (q ^^^ r) m = (N.par q m ^^ N.par r m) := by
  unfold Net.par
  rw [← xsum_xor]
  refine xsum_congr fun k _ => ?_
  rw [Nat.testBit_xor]
  cases q.testBit k <;> cases r.testBit k <;> cases m.testBit k <;> rfl
theorem par_zero (m : Nat) : N.par 0 m = false := xsum_none fun k _ => by simp
theorem par_pow {k : Nat} (h : k < N.n) (m : Nat) : N.par (2 ^ k) m = m.testBit k := by
  unfold Net.par
  rw [xsum_one h fun j _ hj => by simp [Nat.testBit_two_pow, Ne.symm hj]]
  simp [Nat.testBit_two_pow]
theorem cut_bit (C : Nat → Bool) (k : Nat) : (N.cut C).testBit k = (decide (k < N.n) && (C (N.a k) ^^ C (N.b k))) := Ring.mask_bit _ k _
theorem par_cut {q : Nat} (e : N.Even q) (C : Nat → Bool) : N.par q (N.cut C) = false := by
  have h : N.par q (N.cut C) = xsum (fun x => C x && N.bd q x) N.p := by
    have e1 : xsum (fun x => C x && N.bd q x) N.p = xsum (fun x => xsum (fun k => C x && (q.testBit k && N.inc k x)) N.n) N.p := xsum_congr fun x _ => (xsum_and _ _ _).symm
    rw [e1, xsum_comm]
    unfold Net.par
    refine xsum_congr fun k hk => ?_
    rw [cut_bit, decide_eq_true hk, Bool.true_and]
    have e2 : xsum (fun x => C x && (q.testBit k && N.inc k x)) N.p = (q.testBit k && (C (N.a k) ^^ C (N.b k))) := by
      have e3 : ∀ x, (C x && (q.testBit k && N.inc k x)) = ((q.testBit k && (C x && decide (N.a k = x))) ^^ (q.testBit k && (C x && decide (N.b k = x)))) := fun x => by
        unfold Net.inc
        cases C x <;> cases q.testBit k <;> cases decide (N.a k = x) <;> cases decide (N.b k = x) <;> rfl
      rw [xsum_congr fun x _ => e3 x, xsum_xor, xsum_and, xsum_and, xsum_point C (N.al k hk), xsum_point C (N.bl k hk)]
      cases q.testBit k <;> rfl
    exact e2.symm
  rw [h]
  exact xsum_none fun x hx => by rw [e x hx, Bool.and_false]
end RM

namespace Ring
def orM (ks : List Nat) : Nat := ks.foldl (fun m k => m ||| 2 ^ k) 0
theorem orM_from (ks : List Nat) (j : Nat) : ∀ m, (ks.foldl (fun m k => m ||| 2 ^ k) m).testBit j = (m.testBit j || decide (j ∈ ks)) := by
  induction ks with
  | nil => intro m; simp
  | cons k r ih =>
    intro m
    rw [List.foldl_cons, ih, Nat.testBit_or, Nat.testBit_two_pow]
    by_cases h : k = j
    · subst h
      simp
    · have h' : ¬ j = k := fun z => h z.symm
      simp [h, h']
theorem orM_bit (ks : List Nat) (j : Nat) : (orM ks).testBit j = decide (j ∈ ks) := by
  unfold orM
  rw [orM_from]
  simp
theorem orM_snoc (ks : List Nat) {t : Nat} (h : t ∉ ks) : orM (ks ++ [t]) = orM ks ^^^ 2 ^ t := Nat.eq_of_testBit_eq fun j => by
  rw [Nat.testBit_xor, orM_bit, orM_bit, Nat.testBit_two_pow]
  by_cases e : t = j
  · subst e
    simp [h]
  · have e' : ¬ j = t := fun z => e z.symm
    simp [e, e']
theorem orM_filter (f : Nat → Bool) (n : Nat) : orM ((List.range n).filter f) = maskOf f n := Nat.eq_of_testBit_eq fun j => by
  rw [orM_bit, mask_bit, Bool.eq_iff_iff]
  simp
end Ring
namespace RM
variable {N : Net}
inductive Net.Walk (N : Net) : List Nat → Nat → List Nat → Prop
  | one {v : Nat} : Net.Walk N [] v []
  | snoc {pre ks : List Nat} {v w t : Nat} (h : Net.Walk N pre v ks) (ht : t < N.n) (hn : t ∉ ks) (j : (N.a t = v ∧ N.b t = w) ∨ (N.b t = v ∧ N.a t = w)) : Net.Walk N (pre ++ [v]) w (ks ++ [t])
theorem Net.Walk.len {pre ks : List Nat} {v : Nat} (h : N.Walk pre v ks) : pre.length = ks.length := by
  induction h with
  | one => rfl
  | snoc _ _ _ _ ih => rw [List.length_append, List.length_append, ih]; rfl
theorem Net.Walk.lt {pre ks : List Nat} {v : Nat} (h : N.Walk pre v ks) : ∀ t ∈ ks, t < N.n := by
  induction h with
  | one => exact fun t ht => nomatch ht
  | snoc _ ht _ _ ih =>
    intro s hs
    rcases List.mem_append.mp hs with q | q
    · exact ih s q
    · have e := List.mem_singleton.mp q
      rw [e]
      exact ht
theorem Net.Walk.bd {pre ks : List Nat} {v : Nat} (h : N.Walk pre v ks) : ∀ i u, (pre ++ [v])[i]? = some u → ∀ x, N.bd (Ring.orM (ks.drop i)) x = (decide (u = x) ^^ decide (v = x)) := by
  induction h with
  | one =>
    rename_i v
    intro i u hu x
    match i, hu with
    | 0, hu =>
      have e : v = u := Option.some.inj hu
      subst e
      show N.bd 0 x = _
      rw [bd_zero]
      simp
    | i + 1, hu => simp at hu
  | snoc hw ht hn j ih =>
    rename_i pre ks v w t
    intro i u hu x
    have hl := hw.len
    by_cases hi : i < (pre ++ [v]).length
    · rw [List.getElem?_append_left hi] at hu
      have hi' : i ≤ ks.length := by rw [List.length_append] at hi; simp at hi; (first | lia | omega)
      rw [List.drop_append_of_le_length hi', Ring.orM_snoc _ (fun z => hn (List.mem_of_mem_drop z)), bd_xor, ih i u hu x, bd_pow ht]
      have e : N.inc t x = (decide (v = x) ^^ decide (w = x)) := by
        unfold Net.inc
        rcases j with ⟨j1, j2⟩ | ⟨j1, j2⟩
        · rw [j1, j2]
        · rw [j1, j2]
          exact Bool.xor_comm _ _
      rw [e]
      cases decide (u = x) <;> cases decide (v = x) <;> cases decide (w = x) <;> rfl
    · have hi2 : i = (pre ++ [v]).length := by
        have := (List.getElem?_eq_some_iff.mp hu).1
        rw [List.length_append] at this
        simp at this hi ⊢
        (first | lia | omega)
      rw [hi2, List.getElem?_append_right (Nat.le_refl _), Nat.sub_self] at hu
      have e : w = u := Option.some.inj hu
      subst e
      have : (ks ++ [t]).drop i = [] := List.drop_eq_nil_of_le (by rw [hi2, List.length_append, List.length_append]; simp; (first | lia | omega))
      rw [this]
      show N.bd 0 x = _
      rw [bd_zero]
      simp
structure Way (N : Net) (even : Nat) (pre : List Nat) (v : Nat) (ks : List Nat) (left : Nat) : Prop where
  w : N.Walk pre v ks
  lt : even < 2 ^ N.n
  ev : N.Even even
  sub : ∀ t ∈ ks, even.testBit t = true
  left_is : left = even ^^^ Ring.orM ks
  nd : pre.Nodup
  inp : ∀ x ∈ pre ++ [v], x < N.p
  st : pre = [] → ∃ t, t < N.n ∧ even.testBit t = true ∧ N.a t = v
section
variable {even left v : Nat} {pre ks : List Nat}
theorem Way.start {t : Nat} (lt : even < 2 ^ N.n) (ev : N.Even even) (hb : even.testBit t = true) : Way N even [] (N.a t) [] even := by
  have ht := bits_lt lt hb
  refine ⟨.one, lt, ev, (fun _ z => nomatch z), ?_, List.Pairwise.nil, fun x hx => ?_, fun _ => ⟨t, ht, hb, rfl⟩⟩
  · show even = even ^^^ 0
    simp
  · have e : x = N.a t := by simpa using hx
    rw [e]
    exact N.al t ht
theorem Way.left_bit (h : Way N even pre v ks left) (t : Nat) : left.testBit t = (even.testBit t && !decide (t ∈ ks)) := by
  rw [h.left_is, Nat.testBit_xor, Ring.orM_bit]
  by_cases hm : t ∈ ks
  · rw [h.sub t hm, decide_eq_true hm]
    rfl
  · rw [decide_eq_false hm]
    simp
theorem Way.left_lt (h : Way N even pre v ks left) : left < 2 ^ N.n := lt_of_bits fun k hk => by
  rw [h.left_bit, Bool.and_eq_true] at hk
  exact bits_lt h.lt hk.1
theorem Way.on (h : Way N even pre v ks left) (hv : v ∉ pre) : ∃ t, left.testBit t = true ∧ (N.a t = v ∨ N.b t = v) := by
  cases pre with
  | nil =>
    obtain ⟨t, ht, hb, e⟩ := h.st rfl
    have hk : ks = [] := List.length_eq_zero_iff.mp (by rw [← h.w.len]; rfl)
    refine ⟨t, ?_, .inl e⟩
    rw [h.left_bit, hb, hk]
    simp
  | cons u r =>
    have hb := h.w.bd 0 u rfl v
    rw [List.drop_zero] at hb
    have hu : ¬ u = v := fun z => hv (by rw [z]; exact List.mem_cons_self)
    rw [decide_eq_false hu, decide_eq_true rfl] at hb
    have hvp : v < N.p := h.inp v (List.mem_append_right _ (List.mem_singleton.mpr rfl))
    have hl : N.bd left v = true := by
      rw [h.left_is, bd_xor, h.ev v hvp, hb]
      rfl
    rw [bd_dg] at hl
    have hp := of_decide_eq_true hl
    obtain ⟨k, hk, hkb, hx⟩ := dg_some (N := N) (m := left) (x := v) (by (first | lia | omega))
    exact ⟨k, hkb, hx⟩
theorem Way.go (h : Way N even pre v ks left) (hv : v ∉ pre) {t w : Nat} (hb : left.testBit t = true) (j : (N.a t = v ∧ N.b t = w) ∨ (N.b t = v ∧ N.a t = w)) :
    Way N even (pre ++ [v]) w (ks ++ [t]) (left ^^^ 2 ^ t) := by
  rw [h.left_bit, Bool.and_eq_true] at hb
  have hn : t ∉ ks := by simpa using hb.2
  have ht := bits_lt h.lt hb.1
  refine ⟨.snoc h.w ht hn j, h.lt, h.ev, fun s hs => ?_, ?_, ?_, fun x hx => ?_, fun z => ?_⟩
  · rcases List.mem_append.mp hs with q | q
    · exact h.sub s q
    · rw [List.mem_singleton.mp q]
      exact hb.1
  · rw [Ring.orM_snoc _ hn, h.left_is, Nat.xor_assoc]
  · refine List.nodup_append.mpr ⟨h.nd, by simp, fun x hx y hy => ?_⟩
    have e : y = v := by simpa using hy
    rw [e]
    exact fun z => hv (z ▸ hx)
  · rcases List.mem_append.mp hx with q | q
    · exact h.inp x q
    · have e : x = w := by simpa using q
      rw [e]
      rcases j with ⟨_, j2⟩ | ⟨_, j2⟩
      · rw [← j2]; exact N.bl t ht
      · rw [← j2]; exact N.al t ht
  · simp at z
theorem Way.closes (h : Way N even pre v ks left) {i : Nat} (hi : pre[i]? = some v) : Ring.orM (ks.drop i) ≠ 0 ∧ N.Even (Ring.orM (ks.drop i)) ∧ Ring.orM (ks.drop i) < 2 ^ N.n ∧ ∀ k, (Ring.orM (ks.drop i)).testBit k = true → even.testBit k = true := by
  have hil := (List.getElem?_eq_some_iff.mp hi).1
  have hl := h.w.len
  have hbit : ∀ k, (Ring.orM (ks.drop i)).testBit k = true → k ∈ ks := fun k hk => by
    rw [Ring.orM_bit] at hk
    exact List.mem_of_mem_drop (of_decide_eq_true hk)
  refine ⟨fun z => ?_, fun x _ => ?_, lt_of_bits fun k hk => h.w.lt k (hbit k hk), fun k hk => h.sub k (hbit k hk)⟩
  · have hne : ks.drop i ≠ [] := fun q => by
      have := List.drop_eq_nil_iff.mp q
      (first | lia | omega)
    obtain ⟨k, hk⟩ := List.exists_mem_of_ne_nil _ hne
    have := Ring.orM_bit (ks.drop i) k
    rw [z, decide_eq_true hk] at this
    simp at this
  · rw [h.w.bd i v (by rw [List.getElem?_append_left hil]; exact hi) x]
    simp
end
end RM

namespace Ring
open PySem L2
theorem par_len {p : Nat} {ts : List Tie} {g : GoodWeb p ts} {q m : Nat} (hm : m < 2 ^ ts.length) : decide ((tiesOf ((q &&& m : Nat) : Int)).length % 2 = 1) = (netOf p ts g).par q m := by
  rw [ties_cnt (n := ts.length) (Nat.and_lt_two_pow q hm)]
  unfold RM.Net.par
  rw [RM.xsum_cnt]
  have e : RM.cnt (fun k => (q &&& m).testBit k) ts.length = RM.cnt (fun k => q.testBit k && m.testBit k) (netOf p ts g).n := RM.cnt_congr fun k _ => by rw [Nat.testBit_and]
  rw [e]
end Ring

namespace Ring
open PySem L2
end Ring

namespace L2
open PySem PySem.Spec PyProof.Rows
end L2

namespace Ring
end Ring

namespace Ring
open PySem L2
end Ring
namespace Ring
open PySem L2
end Ring

namespace Ring
open PySem L2
end Ring

namespace L2
open PySem PySem.Spec PyProof.Rows
section
variable {X : Cx}
end

section
variable {X : Cx} {elt iter tg : Expr} {ifs : List Expr} {scope : Scope} {xc : Str} {pos : Pos} {own frees : List Str} {js : List Nat} {wi : TI} {g : TG} {tt : TT} {te : TE}
end

def relabelS (scope osc : Scope) : Scope := { kind := scope.kind, names := scope.names.map (fun (n, k) => if (k == NameKind.free && osc.kind == .function && osc.names.lookup n == some .cell) then (n, NameKind.cell) else (n, k)), isGenerator := scope.isGenerator, isCoroutine := scope.isCoroutine, more := scope.more }
end L2

namespace L2
open PySem PySem.Spec PyProof.Rows
section
variable {X : Cx} {E : XK} {pins : List (Addr × Obj)} {σ : St} {H : Hp} {s : Shared} {N : List Str} {scope : Scope} {C : Addr} {fp : List Addr}
end
section
variable {X : Cx} {EE : XK} {elt iter tg : Expr} {ifs : List Expr} {scope : Scope} {pos : Pos} {own frees : List Str} {js : List Nat} {wi : TI} {g : TG} {tt : TT} {te : TE}
end
end L2

namespace L2
open PySem PySem.Spec PyProof.Rows
section
variable {X : Cx}
end
end L2

namespace L2
open PySem PySem.Spec PyProof.Rows
theorem for_enumT {K : PySem.W.Frag} {a : Addr} {xs : List V} {g : TG} {tb : TS} {D : Ends} {σ : St} {H : Hp} (Pv : Nat → St → Hp → Prop) (h0 : Pv 0 σ H) (hl : ∀ i σ H, i ≤ xs.length → Pv i σ H → SqT K H a xs)
    (hs : ∀ i x T σ H, xs[i]? = some x → Pv i σ H → H T = none → g (.ref T) σ (upd H T (.tup [.int (i : Int), x])) fun σ2 H2 => tb { D with nx := Pv (i + 1), ct := Pv (i + 1), bk := D.nx } σ2 H2) (hd : ∀ σ H, Pv xs.length σ H → D.nx σ H) :
    ∃ W : Nat → Nat → St → Hp → Prop, (∃ m, W 0 m σ H) ∧ ∀ i m σ H, W i m σ H →
      ((IteT K a).stop i H ∧ D.nx σ H) ∨ ((IteT K a).go i H ∧ ∃ N : St → Hp → Prop, (∀ σ' H', N σ' H' → ∃ m', m' < m ∧ W (i + 1) m' σ' H') ∧ ∀ x H', (IteT K a).yld i H x H' → g x σ H' fun σ2 H2 => tb { D with nx := N, ct := N, bk := D.nx } σ2 H2) := by
  refine ⟨fun i m σ H => m = xs.length - i ∧ i ≤ xs.length ∧ Pv i σ H, ⟨xs.length, by simp, Nat.zero_le _, h0⟩, ?_⟩
  rintro i m σ H ⟨rfl, hi, p⟩
  have q := hl i σ H hi p
  by_cases hlt : i < xs.length
  · refine .inr ⟨⟨xs, xs[i], q, by simp [hlt]⟩, Pv (i + 1), fun σ' H' p' => ⟨xs.length - (i + 1), by (first | lia | omega), rfl, hlt, p'⟩, fun v H' y => ?_⟩
    obtain ⟨T, x, rfl, hT, rfl, y1⟩ := y
    exact hs i x T σ _ (y1 xs q) p hT
  · have e : i = xs.length := by (first | lia | omega)
    subst e
    exact .inl ⟨⟨xs, q, rfl⟩, hd σ H p⟩
end L2
namespace Ring
open PySem L2
def oV : Option Int → V
  | none => .non
  | some i => .int i
abbrev Pr := Option Int × Option Int
def sel (q : Pr) (u : Bool) : Option Int := if u = true then q.2 else q.1
def nearB : Option Int → Option Int → Int → Bool
  | none, none, _ => true
  | none, some _, _ => false
  | some _, none, _ => false
  | some x, some y, l => decide ((if x - y < 0 then -(x - y) else x - y) ≤ l)
def prAt (R : List Pr) (i : Nat) : Pr := R.getD i (none, none)
def tieB (R : List Pr) (t : Tie) (u : Bool) : Bool := nearB (prAt R t.1.toNat).1 (sel (prAt R t.2.1.toNat) u) t.2.2 && nearB (prAt R t.1.toNat).2 (sel (prAt R t.2.1.toNat) (!u)) t.2.2
def StRow (ts : List Tie) (m i : Nat) (R : List Pr) : Prop := (prAt R i).1 = some 0 ∧ ∀ k, k < ts.length → tieB R (tieAt ts k) (m.testBit k) = true
def Stands (p : Nat) (ts : List Tie) (m : Nat) (W : List (List Pr)) : Prop := ∀ i, i < p → StRow ts m i (W.getD i [])
def PairAt (H : Hp) (x : V) (q : Pr) : Prop := ∃ b, x = .ref b ∧ H b = some (.tup [oV q.1, oV q.2])
def RowW (H : Hp) (x : V) (R : List Pr) : Prop := ∃ b ys, x = .ref b ∧ H b = some (.tup ys) ∧ Paired (PairAt H) ys R
def WorthsAt (H : Hp) (b : Addr) (W : List (List Pr)) : Prop := ∃ ys, H b = some (.tup ys) ∧ Paired (RowW H) ys W
def Sqr (p : Nat) (W : List (List Pr)) : Prop := W.length = p ∧ ∀ R ∈ W, R.length = p
theorem PairAt.same {H H' : Hp} (s : Same H H') {x : V} {q : Pr} (h : PairAt H x q) : PairAt H' x q := let ⟨b, e, z⟩ := h; ⟨b, e, s _ _ z⟩
theorem RowW.same {H H' : Hp} (s : Same H H') {x : V} {R : List Pr} (h : RowW H x R) : RowW H' x R := let ⟨b, ys, e, z, pr⟩ := h; ⟨b, ys, e, s _ _ z, Paired.imp' (fun _ _ z => z.same s) pr⟩
theorem WorthsAt.same {H H' : Hp} (s : Same H H') {b : Addr} {W : List (List Pr)} (h : WorthsAt H b W) : WorthsAt H' b W := let ⟨ys, z, pr⟩ := h; ⟨ys, s _ _ z, Paired.imp' (fun _ _ z => z.same s) pr⟩
theorem PairAt.tups {H H' : Hp} (s : Tups H H') {x : V} {q : Pr} (h : PairAt H x q) : PairAt H' x q := let ⟨b, e, z⟩ := h; ⟨b, e, s _ _ z⟩
theorem RowW.tups {H H' : Hp} (s : Tups H H') {x : V} {R : List Pr} (h : RowW H x R) : RowW H' x R := let ⟨b, ys, e, z, pr⟩ := h; ⟨b, ys, e, s _ _ z, Paired.imp' (fun _ _ z => z.tups s) pr⟩
theorem paired_at {α β : Type} {F : α → β → Prop} {l : List α} {r : List β} (pr : Paired F l r) {i : Nat} (h : i < r.length) (d : β) : ∃ x, l[i]? = some x ∧ F x (r.getD i d) := by
  have hl : i < l.length := by rw [pr.length]; exact h
  obtain ⟨y, hy, hf⟩ := Paired.getP pr (i := i) (x := l[i]) (by simp [hl])
  refine ⟨l[i], by simp [hl], ?_⟩
  rw [List.getD_eq_getElem?_getD, hy]
  exact hf
theorem RowW.at {H : Hp} {ys : List V} {R : List Pr} (pr : Paired (PairAt H) ys R) {i : Nat} (h : i < R.length) : ∃ b, ys[i]? = some (.ref b) ∧ H b = some (.tup [oV (prAt R i).1, oV (prAt R i).2]) := by
  obtain ⟨x, hx, b, rfl, hb⟩ := paired_at pr h (none, none)
  exact ⟨b, hx, hb⟩
theorem oV_zero (a : Option Int) : decide (oV a = V.int 0) = decide (a = some 0) := by
  cases a with
  | none => rw [Bool.eq_iff_iff]; simp [oV]
  | some i => rw [Bool.eq_iff_iff]; simp [oV]
theorem Sqr.row {p : Nat} {W : List (List Pr)} (h : Sqr p W) {i : Nat} (hi : i < p) : (W.getD i []).length = p := by
  have hl : i < W.length := by rw [h.1]; exact hi
  rw [List.getD_eq_getElem?_getD]
  simp only [hl, List.getElem?_eq_getElem, Option.getD_some]
  exact h.2 _ (List.getElem_mem hl)
theorem sel_at (q : Pr) (u : Bool) : ([oV q.1, oV q.2] : List V)[u.toNat]? = some (oV (sel q u)) := by
  cases u <;> rfl
end Ring

namespace L2
open PySem PySem.Spec PyProof.Rows
end L2

namespace RM
variable {N : Net} {m t0 : Nat}
def Net.far (N : Net) (t v : Nat) : Nat := if N.a t = v then N.b t else N.a t
def Net.tiesAt (N : Net) (left v : Nat) : List Nat := (List.range N.n).filter fun t => left.testBit t && (decide (N.a t = v) || decide (N.b t = v))
theorem tiesAt_mem {left v t : Nat} : t ∈ N.tiesAt left v ↔ t < N.n ∧ left.testBit t = true ∧ (N.a t = v ∨ N.b t = v) := by
  unfold Net.tiesAt
  rw [List.mem_filter, List.mem_range, Bool.and_eq_true, Bool.or_eq_true, decide_eq_true_eq, decide_eq_true_eq]
inductive Wk (N : Net) (m t0 : Nat) : List (Nat × Int) → Nat → Nat → Prop
  | start : Wk N m t0 [(t0, 1)] (N.b t0) (m ^^^ 2 ^ t0)
  | next {acc : List (Nat × Int)} {v left t : Nat} (h : Wk N m t0 acc v left) (h0 : left ≠ 0) (ht : (N.tiesAt left v)[0]? = some t) : Wk N m t0 (acc ++ [(t, if N.a t = v then 1 else -1)]) (N.far t v) (left ^^^ 2 ^ t)
theorem far_join {t v : Nat} (h : N.a t = v ∨ N.b t = v) : (N.a t = v ∧ N.b t = N.far t v) ∨ (N.b t = v ∧ N.a t = N.far t v) := by
  unfold Net.far
  by_cases e : N.a t = v
  · rw [if_pos e]
    exact .inl ⟨e, rfl⟩
  · rw [if_neg e]
    rcases h with h | h
    · exact absurd h e
    · exact .inr ⟨h, rfl⟩
theorem way_left {pre ks : List Nat} {v left : Nat} (h : Way N m pre v ks left) (hz : ∀ k, m.testBit k = true → k ∈ ks) : left = 0 := by
  apply Nat.eq_of_testBit_eq
  intro k
  rw [h.left_bit, Nat.zero_testBit]
  cases hb : m.testBit k with
  | false => rfl
  | true => rw [decide_eq_true (hz k hb)]; rfl
theorem ring_open {pre ks : List Nat} {v left : Nat} (r : N.Ring m) (h : Way N m pre v ks left) (h0 : left ≠ 0) : v ∉ pre := fun hv => by
  obtain ⟨i, hi⟩ := List.getElem?_of_mem hv
  obtain ⟨q0, qe, _, qs⟩ := h.closes hi
  rcases r.2.2 _ qs qe with z | z
  · exact q0 z
  · refine h0 (way_left h fun k hk => ?_)
    rw [← z, Ring.orM_bit] at hk
    exact List.mem_of_mem_drop (of_decide_eq_true hk)
theorem wk_way (hm : m < 2 ^ N.n) (r : N.Ring m) (hb : m.testBit t0 = true) {acc : List (Nat × Int)} {v left : Nat} (h : Wk N m t0 acc v left) : ∃ pre, Way N m pre v (acc.map (·.1)) left ∧ pre[0]? = some (N.a t0) := by
  induction h with
  | start =>
    refine ⟨[N.a t0], ?_, rfl⟩
    exact (Way.start hm r.2.1 hb).go (by simp) hb (.inl ⟨rfl, rfl⟩)
  | next h h0 ht ih =>
    obtain ⟨pre, w, p0⟩ := ih
    have hm2 := tiesAt_mem.mp (List.mem_of_getElem? ht)
    refine ⟨_, by rw [List.map_append]; exact w.go (ring_open r w h0) hm2.2.1 (far_join hm2.2.2), ?_⟩
    rw [List.getElem?_append_left (by have := (List.getElem?_eq_some_iff.mp p0).1; exact this)]
    exact p0
theorem wk_on (hm : m < 2 ^ N.n) (r : N.Ring m) (hb : m.testBit t0 = true) {acc : List (Nat × Int)} {v left : Nat} (h : Wk N m t0 acc v left) (h0 : left ≠ 0) : ∃ t, (N.tiesAt left v)[0]? = some t := by
  obtain ⟨pre, w, _⟩ := wk_way hm r hb h
  obtain ⟨t, h1, h2⟩ := w.on (ring_open r w h0)
  have ht : t < N.n := bits_lt w.left_lt h1
  have hmem : t ∈ N.tiesAt left v := tiesAt_mem.mpr ⟨ht, h1, h2⟩
  cases e : N.tiesAt left v with
  | nil => rw [e] at hmem; cases hmem
  | cons x l => exact ⟨x, rfl⟩
theorem cnt_less {left t n : Nat} (ht : t < n) (hb : left.testBit t = true) : cnt (fun j => left.testBit j) n = cnt (fun j => (left ^^^ 2 ^ t).testBit j) n + 1 :=
  cnt_drop (h := t) hb ht fun x _ => by
    rw [Nat.testBit_xor, Nat.testBit_two_pow]
    by_cases e : x = t
    · subst e
      simp [hb]
    · rw [decide_eq_false e, decide_eq_false (fun z => e z.symm)]
      simp
theorem wk_len (hm : m < 2 ^ N.n) (hb : m.testBit t0 = true) {acc : List (Nat × Int)} {v left : Nat} (h : Wk N m t0 acc v left) : acc.length + cnt (fun j => left.testBit j) N.n = cnt (fun j => m.testBit j) N.n := by
  induction h with
  | start =>
    have := cnt_less (bits_lt hm hb) hb
    show 1 + _ = _
    (first | lia | omega)
  | next h h0 ht ih =>
    have hm2 := tiesAt_mem.mp (List.mem_of_getElem? ht)
    have := cnt_less hm2.1 hm2.2.1
    rw [List.length_append, List.length_singleton]
    (first | lia | omega)
end RM

namespace RM
variable {N : Net} {m t0 : Nat}
theorem tiesAt_len (m x : Nat) : (N.tiesAt m x).length = N.dg m x := by
  unfold Net.tiesAt Net.dg
  rw [cnt_range]
  refine cnt_congr fun k hk => ?_
  congr 1
  apply Bool.eq_iff_iff.mpr
  rw [Bool.or_eq_true, decide_eq_true_eq, decide_eq_true_eq]
  exact (inc_iff hk).symm
def Net.D2 (N : Net) (m : Nat) : Prop := ∀ x, x < N.p → N.dg m x = 0 ∨ N.dg m x = 2
theorem D2.even (h : N.D2 m) : N.Even m := fun x hx => by
  rw [bd_dg]
  refine decide_eq_false ?_
  rcases h x hx with e | e <;> (first | lia | omega)
theorem sm_two (C : Nat → Bool) : ∀ n, sm (fun x => if C x = true then 2 else 0) n = 2 * cnt C n := fun n => by
  rw [cnt_sm]
  have : sm (fun k => if C k = true then 2 else 0) n = sm (fun k => (if C k = true then 1 else 0) + (if C k = true then 1 else 0)) n := sm_congr fun k _ => by
    by_cases h : C k = true
    · rw [if_pos h, if_pos h]
    · rw [if_neg h, if_neg h]
  rw [this, sm_add]
  (first | lia | omega)
theorem ring_d2 (hm : m < 2 ^ N.n) (r : N.Ring m) : N.D2 m := by
  obtain ⟨k0, hk0, hb0, hall⟩ := ring_piece hm r
  generalize hs : N.labs (fun k => m.testBit k) N.n (N.a k0) = s at hall
  have hC : ∀ x, x < N.p → (fun x => decide (N.labs (fun k => m.testBit k) N.n x = s)) x = decide (N.labs (fun k => m.testBit k) N.n x = s) := fun x _ => rfl
  obtain ⟨h2, hl, solo⟩ := ring_len (s := s) hm r _ hC (fun k hk hb => decide_eq_true (hall k hk hb))
  generalize hCC : (fun x => decide (N.labs (fun k => m.testBit k) N.n x = s)) = C at hC h2 hl solo
  have none : ∀ x, x < N.p → C x = false → N.dg m x = 0 := fun x hx hc => by
    cases hz : N.dg m x with
    | zero => rfl
    | succ d =>
      exfalso
      obtain ⟨k, hk, hb, hx2⟩ := dg_some (N := N) (m := m) (x := x) (by (first | lia | omega))
      rw [hC x hx] at hc
      refine of_decide_eq_false hc ?_
      rcases hx2 with e | e
      · rw [← e]
        exact hall k hk hb
      · rw [← e, ← labs_tie (S := fun k => m.testBit k) hk hb]
        exact hall k hk hb
  have pos : ∀ x, x < N.p → C x = true → 0 < N.dg m x := fun x hx hc => by
    cases hz : N.dg m x with
    | succ d => (first | lia | omega)
    | zero =>
      exfalso
      obtain ⟨y, hy, hcy, hne⟩ : ∃ y, y < N.p ∧ C y = true ∧ y ≠ x := by
        obtain ⟨c, d, h1, h3, h4, h5⟩ := cnt_two h2
        by_cases e : c = x
        · exact ⟨d, h3, h5, by (first | lia | omega)⟩
        · exact ⟨c, by (first | lia | omega), h4, e⟩
      rw [hC x hx] at hc
      rw [hC y hy] at hcy
      exact hne (alone hz (labs_conn _ _ _ ((of_decide_eq_true hc).trans (of_decide_eq_true hcy).symm)))
  have hle : ∀ x, x < N.p → (if C x = true then 2 else 0) ≤ N.dg m x := fun x hx => by
    by_cases hc : C x = true
    · rw [if_pos hc]
      have h1 := pos x hx hc
      have h3 := even_dg r.2.1 hx
      (first | lia | omega)
    · rw [if_neg hc]
      exact Nat.zero_le _
  have he : sm (fun x => if C x = true then 2 else 0) N.p = sm (fun x => N.dg m x) N.p := by
    rw [sm_two, dg_sum, hl]
  intro x hx
  have := sm_eq hle he x hx
  by_cases hc : C x = true
  · rw [if_pos hc] at this
    exact .inr this.symm
  · rw [if_neg hc] at this
    exact .inl this.symm
theorem wk_bd (hm : m < 2 ^ N.n) (hb : m.testBit t0 = true) {acc : List (Nat × Int)} {v left : Nat} (h : Wk N m t0 acc v left) : ∀ x, N.bd (m ^^^ left) x = (decide (N.a t0 = x) ^^ decide (v = x)) := by
  induction h with
  | start =>
    intro x
    rw [← Nat.xor_assoc, Nat.xor_self, Nat.zero_xor, bd_pow (bits_lt hm hb)]
    rfl
  | @next acc v left t h h0 ht ih =>
    intro x
    have hm2 := tiesAt_mem.mp (List.mem_of_getElem? ht)
    rw [← Nat.xor_assoc, bd_xor, ih x, bd_pow hm2.1]
    unfold Net.inc
    rcases far_join hm2.2.2 with ⟨e1, e2⟩ | ⟨e1, e2⟩
    · rw [e1, e2]
      cases decide (N.a t0 = x) <;> cases decide (v = x) <;> cases decide (N.far t v = x) <;> rfl
    · rw [e1, e2]
      cases decide (N.a t0 = x) <;> cases decide (v = x) <;> cases decide (N.far t v = x) <;> rfl
theorem wk_left (hb : m.testBit t0 = true) {acc : List (Nat × Int)} {v left : Nat} (h : Wk N m t0 acc v left) : ∀ k, left.testBit k = (m.testBit k && !decide (k ∈ acc.map (·.1))) := by
  induction h with
  | start =>
    intro k
    rw [Nat.testBit_xor, Nat.testBit_two_pow]
    by_cases e : t0 = k
    · subst e
      simp [hb]
    · have e' : ¬ k = t0 := fun z => e z.symm
      simp [e, e']
  | @next acc v left t h h0 ht ih =>
    intro k
    have hm2 := tiesAt_mem.mp (List.mem_of_getElem? ht)
    have hin := hm2.2.1
    rw [ih t] at hin
    rw [Nat.testBit_xor, Nat.testBit_two_pow, ih k, List.map_append]
    by_cases e : t = k
    · subst e
      rw [hin]
      simp
    · have e' : ¬ k = t := fun z => e z.symm
      have e3 : (k ∈ acc.map (·.1) ++ [(t, if N.a t = v then (1 : Int) else -1)].map (·.1)) ↔ k ∈ acc.map (·.1) := by simp [e']
      rw [show decide (k ∈ acc.map (·.1) ++ [(t, if N.a t = v then (1 : Int) else -1)].map (·.1)) = decide (k ∈ acc.map (·.1)) from decide_eq_decide.mpr e3]
      simp [e]
theorem wk_left_lt (hm : m < 2 ^ N.n) (hb : m.testBit t0 = true) {acc : List (Nat × Int)} {v left : Nat} (h : Wk N m t0 acc v left) : left < 2 ^ N.n := lt_of_bits fun k hk => by
  rw [wk_left hb h k, Bool.and_eq_true] at hk
  exact bits_lt hm hk.1
theorem wk_last (hm : m < 2 ^ N.n) (hb : m.testBit t0 = true) {acc : List (Nat × Int)} {v left : Nat} (h : Wk N m t0 acc v left) : v < N.p ∧ ∃ acc' l y, acc = acc' ++ [(l, y)] ∧ l < N.n ∧ m.testBit l = true ∧ (N.a l = v ∨ N.b l = v) ∧ left.testBit l = false := by
  have hl := wk_left hb h
  have key : v < N.p ∧ ∃ acc' l y, acc = acc' ++ [(l, y)] ∧ l < N.n ∧ (N.a l = v ∨ N.b l = v) := by
    cases h with
    | start => exact ⟨N.bl t0 (bits_lt hm hb), [], t0, 1, rfl, bits_lt hm hb, .inr rfl⟩
    | @next acc v left t h h0 ht =>
      have hm2 := tiesAt_mem.mp (List.mem_of_getElem? ht)
      rcases far_join hm2.2.2 with ⟨e1, e2⟩ | ⟨e1, e2⟩
      · exact ⟨by rw [← e2]; exact N.bl t hm2.1, acc, t, _, rfl, hm2.1, .inr e2⟩
      · exact ⟨by rw [← e2]; exact N.al t hm2.1, acc, t, _, rfl, hm2.1, .inl e2⟩
  obtain ⟨hv, acc', l, y, rfl, h1, h2⟩ := key
  refine ⟨hv, acc', l, y, rfl, h1, ?_, h2, ?_⟩
  · -- a tie gone is one of the set
    clear hl
    have : ∀ {acc : List (Nat × Int)} {v left : Nat}, Wk N m t0 acc v left → ∀ q ∈ acc, m.testBit q.1 = true := fun {acc v left} h => by
      induction h with
      | start =>
        intro q hq
        rw [List.mem_singleton.mp hq]
        exact hb
      | @next acc v left t h h0 ht ih =>
        intro q hq
        rcases List.mem_append.mp hq with z | z
        · exact ih q z
        · rw [List.mem_singleton.mp z]
          have hm2 := (tiesAt_mem.mp (List.mem_of_getElem? ht)).2.1
          rw [wk_left hb h t, Bool.and_eq_true] at hm2
          exact hm2.1
    exact this h (l, y) (by simp)
  · rw [hl l]
    simp
theorem tiesAt_sub {q : Nat} (hq : ∀ k, q.testBit k = true → m.testBit k = true) {x k : Nat} (h : k ∈ N.tiesAt q x) : k ∈ N.tiesAt m x := by
  obtain ⟨h1, h2, h3⟩ := tiesAt_mem.mp h
  exact tiesAt_mem.mpr ⟨h1, hq k h2, h3⟩
theorem len_two {l : List Nat} (h : l.length = 2) : ∃ x y, l = [x, y] := by
  match l, h with
  | [x, y], _ => exact ⟨x, y, rfl⟩
theorem tiesAt_pair {x l : Nat} (h : N.D2 m) (hx : x < N.p) (hl : l ∈ N.tiesAt m x) : ∃ t, t ≠ l ∧ (N.tiesAt m x = [l, t] ∨ N.tiesAt m x = [t, l]) := by
  have hd := h x hx
  rw [← tiesAt_len] at hd
  have h0 : (N.tiesAt m x).length ≠ 0 := fun z => by
    rw [List.length_eq_zero_iff] at z
    rw [z] at hl
    cases hl
  obtain ⟨u, w, e⟩ := len_two (hd.resolve_left h0)
  have hnd : (N.tiesAt m x).Nodup := List.Nodup.sublist (List.filter_sublist) List.nodup_range
  rw [e] at hl hnd
  have hne : u ≠ w := by simpa using hnd
  rcases List.mem_cons.mp hl with z | z
  · subst z
    exact ⟨w, Ne.symm hne, .inl e⟩
  · rw [List.mem_singleton] at z
    subst z
    exact ⟨u, hne, .inr e⟩
theorem both {q x l t : Nat} (h : N.D2 m) (hx : x < N.p) (hq : ∀ k, q.testBit k = true → m.testBit k = true) (ev : N.Even q) (hl : l ∈ N.tiesAt m x) (ht : t ∈ N.tiesAt m x) (hb : q.testBit l = true) : q.testBit t = true := by
  by_cases e : t = l
  · rw [e]
    exact hb
  obtain ⟨u, hu, hp⟩ := tiesAt_pair h hx hl
  have hut : u = t := by
    rcases hp with z | z <;> · rw [z] at ht; simp at ht; (first | lia | omega)
  subst hut
  have hlm := tiesAt_mem.mp hl
  have h1 := dg_at (N := N) hlm.1 hb hlm.2.2
  have h3 := even_dg ev hx
  obtain ⟨c, d, hcd, hd, fc, fd⟩ := cnt_two (show 2 ≤ cnt (fun k => q.testBit k && N.inc k x) N.n from (by have : N.dg q x = cnt (fun k => q.testBit k && N.inc k x) N.n := rfl; (first | lia | omega)))
  rw [Bool.and_eq_true] at fc fd
  have hcm : c ∈ N.tiesAt m x := tiesAt_mem.mpr ⟨by (first | lia | omega), hq c fc.1, (inc_iff (by (first | lia | omega))).mp fc.2⟩
  have hdm : d ∈ N.tiesAt m x := tiesAt_mem.mpr ⟨hd, hq d fd.1, (inc_iff hd).mp fd.2⟩
  have hz : c = u ∨ d = u := by
    rcases hp with z | z <;> · rw [z] at hcm hdm; simp at hcm hdm; (first | lia | omega)
  rcases hz with z | z
  · rw [← z]
    exact fc.1
  · rw [← z]
    exact fd.1
theorem d2_on (hm : m < 2 ^ N.n) (h : N.D2 m) (hb : m.testBit t0 = true) {acc : List (Nat × Int)} {v left : Nat} (w : Wk N m t0 acc v left) (hv : v ≠ N.a t0) : ∃ acc' l y t, acc = acc' ++ [(l, y)] ∧ t < N.n ∧ (N.tiesAt m v = [l, t] ∨ N.tiesAt m v = [t, l]) ∧ left ≠ 0 ∧ (N.tiesAt left v)[0]? = some t := by
  obtain ⟨hvp, acc', l, y, e, hl, hlm, hlv, hll⟩ := wk_last hm hb w
  have hlin : l ∈ N.tiesAt m v := tiesAt_mem.mpr ⟨hl, hlm, hlv⟩
  obtain ⟨t, hne, hp⟩ := tiesAt_pair h hvp hlin
  have htin : t ∈ N.tiesAt m v := by rcases hp with z | z <;> rw [z] <;> simp
  have htm := tiesAt_mem.mp htin
  have hbit : left.testBit t = true := by
    cases hz : left.testBit t with
    | true => rfl
    | false =>
      exfalso
      have hbd := wk_bd hm hb w v
      rw [decide_eq_false (fun z => hv z.symm), decide_eq_true rfl] at hbd
      have hsub : ∀ k, (m ^^^ left).testBit k = true → m.testBit k = true := fun k hk => by
        rw [Nat.testBit_xor, wk_left hb w k] at hk
        cases hmk : m.testBit k with
        | true => rfl
        | false =>
          rw [hmk] at hk
          simp at hk
      have h2 := dg_le (N := N) hsub v
      have h3 : 2 ≤ N.dg (m ^^^ left) v := two_cnt (u := l) (v := t) (by rw [Nat.testBit_xor, hlm, hll]; exact (inc_iff hl).mpr hlv) (by rw [Nat.testBit_xor, htm.2.1, hz]; exact (inc_iff htm.1).mpr htm.2.2) (Ne.symm hne) hl htm.1
      have h4 := h v hvp
      rw [bd_dg] at hbd
      have := of_decide_eq_true hbd
      (first | lia | omega)
  have hmem : t ∈ N.tiesAt left v := tiesAt_mem.mpr ⟨htm.1, hbit, htm.2.2⟩
  refine ⟨acc', l, y, t, e, htm.1, hp, (fun z => by rw [z, Nat.zero_testBit] at hbit; cases hbit), ?_⟩
  cases hc : N.tiesAt left v with
  | nil => rw [hc] at hmem; cases hmem
  | cons x r =>
    have hx : x ∈ N.tiesAt left v := by rw [hc]; exact List.mem_cons_self
    have hxm : x ∈ N.tiesAt m v := tiesAt_sub (fun k hk => by rw [wk_left hb w k, Bool.and_eq_true] at hk; exact hk.1) hx
    have hxl : x ≠ l := fun z => by
      have := (tiesAt_mem.mp hx).2.1
      rw [z, hll] at this
      cases this
    have : x = t := by rcases hp with z | z <;> · rw [z] at hxm; simp at hxm; (first | lia | omega)
    rw [this]
    rfl
theorem wk_mem0 {acc : List (Nat × Int)} {v left : Nat} (w : Wk N m t0 acc v left) : t0 ∈ acc.map (·.1) := by
  induction w with
  | start => simp
  | next h h0 ht ih => rw [List.map_append]; exact List.mem_append_left _ ih
theorem d2_ring (hm : m < 2 ^ N.n) (h : N.D2 m) (hb : m.testBit t0 = true) {acc : List (Nat × Int)} {left : Nat} (w : Wk N m t0 acc (N.a t0) left) : N.Ring m ↔ left = 0 := by
  constructor
  · intro r
    have ev : N.Even (m ^^^ left) := fun x _ => by rw [wk_bd hm hb w x]; cases decide (N.a t0 = x) <;> rfl
    have hsub : ∀ k, (m ^^^ left).testBit k = true → m.testBit k = true := fun k hk => by
      rw [Nat.testBit_xor, wk_left hb w k] at hk
      cases hmk : m.testBit k with
      | true => rfl
      | false =>
        rw [hmk] at hk
        simp at hk
    rcases r.2.2 _ hsub ev with z | z
    · exfalso
      have h1 : (m ^^^ left).testBit t0 = true := by
        rw [Nat.testBit_xor, wk_left hb w t0, hb, decide_eq_true (wk_mem0 w)]
        rfl
      rw [z, Nat.zero_testBit] at h1
      cases h1
    · have e2 : m ^^^ (m ^^^ left) = m ^^^ m := by rw [z]
      rw [← Nat.xor_assoc, Nat.xor_self, Nat.zero_xor] at e2
      exact e2
  · rintro rfl
    refine ⟨fun z => ?_, D2.even h, fun q hq ev => ?_⟩
    · rw [z, Nat.zero_testBit] at hb
      cases hb
    · have key : ∀ {acc : List (Nat × Int)} {v left : Nat}, Wk N m t0 acc v left → ∀ k ∈ acc.map (·.1), (q.testBit k = true ↔ q.testBit t0 = true) := fun {acc v left} w => by
        induction w with
        | start =>
          intro k hk
          have : k = t0 := by simpa using hk
          rw [this]
        | @next acc v left t w h0 ht ih =>
          intro k hk
          rw [List.map_append] at hk
          rcases List.mem_append.mp hk with z | z
          · exact ih k z
          · have e : k = t := by simpa using z
            subst e
            obtain ⟨hvp, acc', l, y, rfl, hl, hlm, hlv, hll⟩ := wk_last hm hb w
            have h1 : l ∈ N.tiesAt m v := tiesAt_mem.mpr ⟨hl, hlm, hlv⟩
            have hkm := tiesAt_mem.mp (List.mem_of_getElem? ht)
            have h2 : k ∈ N.tiesAt m v := tiesAt_mem.mpr ⟨hkm.1, by have := hkm.2.1; rw [wk_left hb w k, Bool.and_eq_true] at this; exact this.1, hkm.2.2⟩
            rw [← ih l (by simp)]
            exact ⟨fun z => both h hvp hq ev h2 h1 z, fun z => both h hvp hq ev h1 h2 z⟩
      have hall : ∀ k, m.testBit k = true → k ∈ acc.map (·.1) := fun k hk => by
        have := wk_left hb w k
        rw [Nat.zero_testBit, hk, Bool.true_and] at this
        cases hd : decide (k ∈ acc.map (·.1)) with
        | true => exact of_decide_eq_true hd
        | false => rw [hd] at this; cases this
      cases h0 : q.testBit t0 with
      | false =>
        left
        apply Nat.eq_of_testBit_eq
        intro k
        rw [Nat.zero_testBit]
        cases hk : q.testBit k with
        | false => rfl
        | true =>
          have := (key w k (hall k (hq k hk))).mp hk
          rw [h0] at this
          cases this
      | true =>
        right
        apply Nat.eq_of_testBit_eq
        intro k
        cases hk : m.testBit k with
        | true => exact (key w k (hall k hk)).mpr h0
        | false =>
          cases hk2 : q.testBit k with
          | false => rfl
          | true => rw [hq k hk2] at hk; cases hk
theorem cnt_zero {left n : Nat} (hl : left < 2 ^ n) : cnt (fun j => left.testBit j) n = 0 ↔ left = 0 := by
  constructor
  · intro h
    apply Classical.byContradiction
    intro h0
    obtain ⟨j, hj⟩ := Nat.exists_testBit_of_ne_zero h0
    have := cnt_pos (f := fun j => left.testBit j) hj (bits_lt hl hj)
    (first | lia | omega)
  · rintro rfl
    rw [cnt_sm]
    refine (sm_congr fun k _ => ?_).trans (sm_zero n)
    rw [if_neg (by rw [Nat.zero_testBit]; simp)]
theorem wk_full (hm : m < 2 ^ N.n) (hb : m.testBit t0 = true) {acc : List (Nat × Int)} {v left : Nat} (h : Wk N m t0 acc v left) : acc.length = cnt (fun j => m.testBit j) N.n ↔ left = 0 := by
  have := wk_len hm hb h
  rw [← cnt_zero (wk_left_lt hm hb h)]
  (first | lia | omega)
end RM

namespace Ring
open PySem L2
def PrA (H : Hp) (x : V) (q : Nat × Int) : Prop := ∃ b, x = .ref b ∧ H b = some (.tup [.int (q.1 : Int), .int q.2])
def WalkAt (H : Hp) (D : Addr) (acc : List (Nat × Int)) : Prop := ∃ xs, H D = some (.lst xs) ∧ Paired (PrA H) xs acc
theorem PrA.same {H H' : Hp} (s : Same H H') {x : V} {q : Nat × Int} (h : PrA H x q) : PrA H' x q := by
  obtain ⟨b, e, hb⟩ := h
  exact ⟨b, e, s _ _ hb⟩
theorem paired_snoc {α β : Type} {F : α → β → Prop} {x : α} {y : β} (h : F x y) : ∀ {l : List α} {r : List β}, Paired F l r → Paired F (l ++ [x]) (r ++ [y])
  | _, _, .nil => .cons h .nil
  | _, _, .cons h1 h2 => .cons h1 (paired_snoc h h2)
theorem PrA.put {H : Hp} {D : Addr} {xs ys : List V} (hD : H D = some (.lst xs)) {x : V} {q : Nat × Int} (h : PrA H x q) : PrA (upd H D (.lst ys)) x q := by
  obtain ⟨b, e, hb⟩ := h
  have : b ≠ D := fun z => by
    rw [z, hD] at hb
    cases hb
  exact ⟨b, e, by rw [upd_ne this]; exact hb⟩
theorem WalkAt.push {H : Hp} {D b : Addr} {acc : List (Nat × Int)} {xs : List V} {q : Nat × Int} (hD : H D = some (.lst xs)) (h : Paired (PrA H) xs acc) (hb : H b = some (.tup [.int (q.1 : Int), .int q.2])) : WalkAt (upd H D (.lst (xs ++ [.ref b]))) D (acc ++ [q]) :=
  ⟨xs ++ [.ref b], upd_same, paired_snoc (PrA.put hD ⟨b, rfl, hb⟩) (Paired.imp' (fun _ _ z => PrA.put hD z) h)⟩
structure Rows (H0 : Hp) (D : Addr) (es : List Addr) (f : Nat → List Nat) (H : Hp) : Prop where
  same : Same H0 H
  nd : es.Nodup
  ne : D ∉ es
  fr : ∀ b ∈ es, H0 b = none
  Dn : H0 D = none
  lst : H D = some (.lst (es.map V.ref))
  at_ : ∀ i b, es[i]? = some b → H b = some (.lst (natsV (f i)))
theorem Rows.go {H0 H H' : Hp} {D : Addr} {es : List Addr} {f : Nat → List Nat} (h : Rows H0 D es f H) (s : Same H H') : Rows H0 D es f H' :=
  ⟨h.same.trans s, h.nd, h.ne, h.fr, h.Dn, s _ _ h.lst, fun i b e => s _ _ (h.at_ i b e)⟩
theorem Rows.push {H0 H : Hp} {D b : Addr} {es : List Addr} {f : Nat → List Nat} {i k : Nat} (h : Rows H0 D es f H) (hb : es[i]? = some b) : Rows H0 D es (fun j => if j = i then f j ++ [k] else f j) (upd H b (.lst (natsV (f i) ++ [.int (k : Int)]))) := by
  have hm := List.mem_of_getElem? hb
  have hne : D ≠ b := fun z => h.ne (z ▸ hm)
  refine ⟨h.same.put (h.fr b hm), h.nd, h.ne, h.fr, h.Dn, by rw [upd_ne hne]; exact h.lst, fun j c hc => ?_⟩
  by_cases e : j = i
  · subst e
    rw [hb] at hc
    cases hc
    rw [upd_same, if_pos rfl, natsV_snoc]
  · have : c ≠ b := fun z => by
      subst z
      obtain ⟨h1, h2⟩ := List.getElem?_eq_some_iff.mp hc
      obtain ⟨h3, h4⟩ := List.getElem?_eq_some_iff.mp hb
      exact e ((List.getElem_inj h.nd).mp (h2.trans h4.symm))
    rw [upd_ne this, if_neg e]
    exact h.at_ j c hc
theorem Rows.get {H0 H : Hp} {D : Addr} {es : List Addr} {f : Nat → List Nat} {i : Nat} (h : Rows H0 D es f H) (hi : i < es.length) : ∃ b, (es.map V.ref)[i]? = some (.ref b) ∧ es[i]? = some b ∧ H b = some (.lst (natsV (f i))) := by
  have e : es[i]? = some es[i] := List.getElem?_eq_getElem hi
  exact ⟨es[i], by rw [List.getElem?_map, e]; rfl, e, h.at_ i _ e⟩
def RowsC (H0 : Hp) (D : Addr) (i : Nat) (acc : List V) (H : Hp) : Prop := ∃ es, acc = es.map V.ref ∧ es.length = i ∧ Rows H0 D es (fun _ => []) H
theorem RowsC.start {H0 : Hp} {D : Addr} (hD : H0 D = none) : RowsC H0 D 0 [] (upd H0 D (.lst [])) :=
  ⟨[], rfl, rfl, Same.new hD, List.nodup_nil, List.not_mem_nil, fun _ h => (List.not_mem_nil h).elim, hD, upd_same, fun i b e => by cases e⟩
theorem RowsC.len {H0 H : Hp} {D : Addr} {i : Nat} {acc : List V} (h : RowsC H0 D i acc H) : H D = some (.lst acc) ∧ acc.length ≤ i := by
  obtain ⟨es, rfl, e, r⟩ := h
  exact ⟨r.lst, by rw [List.length_map]; (first | lia | omega)⟩
theorem RowsC.next {H0 H : Hp} {D b : Addr} {i : Nat} {acc : List V} (h : RowsC H0 D i acc H) (hb : H b = none) : upd H b (.lst []) D = some (.lst acc) ∧ RowsC H0 D (i + 1) (acc ++ [.ref b]) (upd (upd H b (.lst [])) D (.lst (acc ++ [.ref b]))) := by
  obtain ⟨es, rfl, e, r⟩ := h
  have hDb : D ≠ b := fun z => by
    have := r.lst
    rw [z, hb] at this
    cases this
  have hbn : b ∉ es := fun hm => by
    obtain ⟨j, hj⟩ := List.getElem?_of_mem hm
    have := r.at_ j b hj
    rw [hb] at this
    cases this
  have hb0 : H0 b = none := r.same.free hb
  refine ⟨by rw [upd_ne hDb]; exact r.lst, es ++ [b], by simp, by simp [e], (r.same.put hb0).put r.Dn, ?_, ?_, fun c hc => ?_, r.Dn, by rw [upd_same]; simp, fun j c hc => ?_⟩
  · exact List.nodup_append.mpr ⟨r.nd, by simp, fun x hx y hy => by rw [List.mem_singleton.mp hy]; exact fun z => hbn (z ▸ hx)⟩
  · intro hm
    rcases List.mem_append.mp hm with z | z
    · exact r.ne z
    · exact hDb (List.mem_singleton.mp z)
  · rcases List.mem_append.mp hc with z | z
    · exact r.fr c z
    · rw [List.mem_singleton.mp z]
      exact hb0
  · have hcm := List.mem_of_getElem? hc
    have hcD : c ≠ D := fun z => by
      rcases List.mem_append.mp hcm with y | y
      · exact r.ne (z ▸ y)
      · exact hDb (z ▸ (List.mem_singleton.mp y))
    rw [upd_ne hcD]
    rcases Nat.lt_or_ge j es.length with hj | hj
    · rw [List.getElem?_append_left hj] at hc
      have : c ≠ b := fun z => hbn (z ▸ List.mem_of_getElem? hc)
      rw [upd_ne this]
      exact r.at_ j c hc
    · rcases List.mem_append.mp hcm with y | y
      · have hx : (es ++ [b])[j]? = some c := hc
        rw [List.getElem?_append_right hj] at hx
        have : c = b := by
          have := List.mem_of_getElem? hx
          exact List.mem_singleton.mp this
        rw [this, upd_same]
        rfl
      · rw [List.mem_singleton.mp y, upd_same]
        rfl
theorem tie_in {H : Hp} {xs : List V} {p : Nat} {ts : List Tie} {g : GoodWeb p ts} {k : Nat} (h3 : Paired (TupAt H) xs ts) (hk : k < ts.length) : ∃ c, xs[k]? = some (.ref c) ∧ H c = some (.tup [.int (((netOf p ts g).a k : Nat) : Int), .int (((netOf p ts g).b k : Nat) : Int), .int (tieAt ts k).2.2]) := by
  have hkx : k < xs.length := by rw [h3.length]; exact hk
  obtain ⟨t, ht, c, hc, hct⟩ := Paired.getP h3 (i := k) (x := xs[k]) (by simp [hkx])
  have htt : t = tieAt ts k := by
    have z := tieAt_get hk
    rw [ht] at z
    exact Option.some.inj z
  refine ⟨c, by rw [← hc]; simp [hkx], ?_⟩
  rw [hct, ← net_a hk, ← net_b hk, htt]
  rfl
theorem first_tie {m : Nat} (h : m ≠ 0) : ∃ c, (tiesOf (m : Int))[0]? = some c ∧ m.testBit c = true := by
  obtain ⟨k, hk⟩ := Nat.exists_testBit_of_ne_zero h
  have hm : k ∈ tiesOf (m : Int) := by
    unfold tiesOf
    refine List.mem_filter.mpr ⟨List.mem_range.mpr (Nat.lt_of_not_le fun z => ?_), by rw [bit_nat]; exact hk⟩
    have := bit_high z
    rw [bit_nat, hk] at this
    cases this
  cases e : tiesOf (m : Int) with
  | nil =>
    rw [e] at hm
    cases hm
  | cons c r =>
    have hc : c ∈ tiesOf (m : Int) := by rw [e]; exact List.mem_cons_self
    unfold tiesOf at hc
    have := (List.mem_filter.mp hc).2
    rw [bit_nat] at this
    exact ⟨c, rfl, this⟩
section
variable {α : Type} {f : α → Int} {l : List α} {H H2 H3 : Hp} {D : Addr} {i : Nat} {k : α} {acc : List V} {v : V}
end
end Ring

namespace RM
variable {N : Net} {row : Nat → Int}
end RM

namespace Ring
open PySem L2
section
variable {H H2 H3 : Hp} {D : Addr} {i : Nat} {acc : List V}
end
end Ring

namespace RM
variable {N : Net} {row : Nat → Int}
end RM

namespace RM
variable {N : Net} {row row' : Nat → Int}
theorem wk_exists {m t0 : Nat} (hm : m < 2 ^ N.n) (r : N.Ring m) (hb : m.testBit t0 = true) : ∃ acc v, Wk N m t0 acc v 0 := by
  have key : ∀ (k : Nat) (acc : List (Nat × Int)) (v left : Nat), Wk N m t0 acc v left → cnt (fun j => left.testBit j) N.n = k → ∃ acc v, Wk N m t0 acc v 0 := by
    intro k
    induction k with
    | zero =>
      intro acc v left h e
      have hl := wk_len hm hb h
      rw [e] at hl
      have h0 := (wk_full hm hb h).mp hl
      subst h0
      exact ⟨acc, v, h⟩
    | succ k ih =>
      intro acc v left h e
      by_cases h0 : left = 0
      · subst h0
        exact ⟨acc, v, h⟩
      · obtain ⟨t, ht⟩ := wk_on hm r hb h h0
        have h' := Wk.next h h0 ht
        have l1 := wk_len hm hb h
        have l2 := wk_len hm hb h'
        rw [List.length_append] at l2
        refine ih _ _ _ h' ?_
        have e1 : [((t : Nat), (if N.a t = v then (1 : Int) else -1))].length = 1 := rfl
        (first | lia | omega)
  exact key _ _ _ _ .start rfl
variable {N' : Net}
end RM

namespace RM
variable {N : Net} {m t0 : Nat}
end RM

namespace RM
variable {N : Net}
end RM

namespace L2
open PySem PySem.Spec PyProof.Rows
section
variable {X : Cx}
theorem vals_bl : ∀ {bs : List Bool} {its : List Value}, Vals (bs.map V.bl) its → its = bs.map Value.bool
  | [], _, .nil => rfl
  | b :: bs, _, .cons r rr => by
    cases r
    rw [vals_bl rr]
    rfl
theorem range_alls : ∀ bs : List Bool, ((List.range bs.length).all fun i => (bs[i]?).getD true) = bs.all id := fun bs => by
  rw [Bool.eq_iff_iff, List.all_eq_true, List.all_eq_true]
  constructor
  · intro h b hb
    obtain ⟨i, hi, e⟩ := List.getElem_of_mem hb
    have := h i (List.mem_range.mpr hi)
    rw [List.getElem?_eq_getElem hi, e] at this
    exact this
  · intro h i hi
    have hi := List.mem_range.mp hi
    rw [List.getElem?_eq_getElem hi]
    exact h _ (List.getElem_mem hi)
theorem allK (K : PySem.W.Frag) (hc : X.calm = true) (hK : X.K = K := by rfl) : CallR X (.builtin "all") (fun xs H Q => ∃ (p : Addr) (bs : List Bool), xs = [.ref p] ∧ SqL K H p (bs.map V.bl) ∧ Q (.bl (bs.all id)) H) := by
  subst hK
  intro pins s σ H xs us Q I r h
  obtain ⟨p, bs, rfl, hq, q⟩ := h
  obtain ⟨u, rfl, rx⟩ := vals1 r
  cases rx
  obtain ⟨its, rv, pl, hz⟩ := I.list hq
  obtain rfl := vals_bl rv
  have lt : p < s.heap.objs.size := by obtain ⟨_, e, _⟩ := pl.isList; exact Heap.lt_size e
  refine call_all_walk (wpAny_pyIter_list pl.isList ⟨_, [_, p], [_], _, _, _, fun i => (bs[i]?).getD true, rfl, Walks.list (A := X.A.in1) (I.ok.hd hc) _ p (Nat.ne_of_lt lt) _,
    ⟨⟨_, Heap.get?_push_size _ rfl, rfl, rfl⟩, pl.isList.push _⟩, fun i v s' Q' E' hP hQ => ?_, fun h' tk hk => ?_⟩)
  · have hP : (bs.map Value.bool)[i]? = some v := by simpa using hP
    rw [List.getElem?_map] at hP
    obtain ⟨b, e, rfl⟩ := Option.map_eq_some_iff.mp hP
    simp only [e, Option.getD_some] at hQ
    exact wpAny_truthy_bool hQ
  · have z : (bs.map Value.bool).toArray.size = bs.length := by simp
    rw [z, range_alls]
    refine ⟨.bl _, H, I.kept fun b o e => hk b o (fun hm => ?_) (Heap.get?_push_of_some _ e), rfl, q⟩
    rw [List.mem_singleton.mp hm] at e
    exact Nat.lt_irrefl _ (Heap.lt_size e)
end
section
variable {X : Cx} {tg : Expr}
end
section
variable {X : Cx}
end
end L2

namespace RM
def lsum (L : Nat → Int) (f : Nat → Bool) : Nat → Int
  | 0 => 0
  | n + 1 => lsum L f n + (if f n = true then L n else 0)
section
variable {L : Nat → Int}
theorem lsum_congr {f g : Nat → Bool} : ∀ {n : Nat}, (∀ k, k < n → f k = g k) → lsum L f n = lsum L g n
  | 0, _ => rfl
  | n + 1, h => by
    unfold lsum
    rw [lsum_congr fun k hk => h k (by (first | lia | omega)), h n (by (first | lia | omega))]
theorem lsum_none {f : Nat → Bool} : ∀ {n : Nat}, (∀ k, k < n → f k = false) → lsum L f n = 0
  | 0, _ => rfl
  | n + 1, h => by
    unfold lsum
    rw [lsum_none fun k hk => h k (by (first | lia | omega)), h n (by (first | lia | omega))]
    simp
theorem lsum_one {f : Nat → Bool} {a : Nat} : ∀ {n : Nat}, a < n → (∀ k, k < n → f k = decide (k = a)) → lsum L f n = L a
  | 0, h, _ => by (first | lia | omega)
  | n + 1, ha, h => by
    unfold lsum
    by_cases e : a = n
    · subst e
      rw [lsum_none fun k hk => by rw [h k (by (first | lia | omega))]; exact decide_eq_false (by (first | lia | omega)), h a (by (first | lia | omega)), decide_eq_true rfl]
      simp
    · rw [lsum_one (show a < n by (first | lia | omega)) fun k hk => h k (by (first | lia | omega)), h n (by (first | lia | omega)), decide_eq_false (by (first | lia | omega))]
      simp
theorem lsum_mono {f g : Nat → Bool} : ∀ {n : Nat}, (∀ k, k < n → 0 ≤ L k) → (∀ k, k < n → f k = true → g k = true) → lsum L f n ≤ lsum L g n
  | 0, _, _ => Int.le_refl _
  | n + 1, hL, h => by
    unfold lsum
    have ih := lsum_mono (n := n) (fun k hk => hL k (by (first | lia | omega))) fun k hk => h k (by (first | lia | omega))
    have h0 := hL n (by (first | lia | omega))
    have hn := h n (by (first | lia | omega))
    cases hf : f n with
    | false => cases g n <;> simp <;> (first | lia | omega)
    | true => rw [hn hf]; simp; (first | lia | omega)
theorem lsum_xor {f g : Nat → Bool} : ∀ {n : Nat}, (∀ k, k < n → 0 ≤ L k) → lsum L (fun k => f k ^^ g k) n ≤ lsum L f n + lsum L g n
  | 0, _ => Int.le_refl _
  | n + 1, hL => by
    unfold lsum
    have ih := lsum_xor (f := f) (g := g) (n := n) fun k hk => hL k (by (first | lia | omega))
    have h0 := hL n (by (first | lia | omega))
    cases f n <;> cases g n <;> simp <;> (first | lia | omega)
theorem lsum_apart {f g : Nat → Bool} : ∀ {n : Nat}, (∀ k, k < n → f k = true → g k = false) → lsum L (fun k => f k ^^ g k) n = lsum L f n + lsum L g n
  | 0, _ => rfl
  | n + 1, h => by
    unfold lsum
    rw [lsum_apart (f := f) (g := g) (n := n) fun k hk => h k (by (first | lia | omega))]
    have hn := h n (by (first | lia | omega))
    cases hf : f n with
    | false => cases g n <;> simp <;> (first | lia | omega)
    | true => rw [hn hf]; simp; (first | lia | omega)
theorem lsum_pow {k n : Nat} (h : k < n) : lsum L (fun j => (2 ^ k).testBit j) n = L k := lsum_one h fun j _ => by
  rw [Nat.testBit_two_pow]
  exact decide_eq_decide.mpr eq_comm
end
theorem bit_lt {m n k : Nat} (h : m < 2 ^ n) (hb : m.testBit k = true) : k < n := by
  apply Classical.byContradiction
  intro hk
  rw [Nat.testBit_lt_two_pow (Nat.lt_of_lt_of_le h (Nat.pow_le_pow_right (by decide) (by (first | lia | omega))))] at hb
  cases hb
def cd (x : Nat) (s : Bool) : Nat := 2 * x + s.toNat
theorem cd_inj {x y : Nat} {s t : Bool} (h : cd x s = cd y t) : x = y ∧ s = t := by
  unfold cd at h
  cases s <;> cases t <;> simp at h ⊢ <;> (first | lia | omega)
def Jn (N : Net) (k v w : Nat) : Prop := (N.a k = v ∧ N.b k = w) ∨ (N.b k = v ∧ N.a k = w)
theorem Jn.lt {N : Net} {k v w : Nat} (hk : k < N.n) (h : Jn N k v w) : w < N.p := by
  rcases h with ⟨_, rfl⟩ | ⟨_, rfl⟩
  · exact N.bl k hk
  · exact N.al k hk
inductive Wl (N : Net) (L : Nat → Int) (m u : Nat) : List Nat → Nat → Bool → Int → Nat → Prop
  | nil : Wl N L m u [] u false 0 0
  | go {pre : List Nat} {v w k e : Nat} {s : Bool} {z : Int} (h : Wl N L m u pre v s z e) (hk : k < N.n) (hj : Jn N k v w) : Wl N L m u (pre ++ [cd v s]) w (s ^^ m.testBit k) (z + L k) (e ^^^ 2 ^ k)
def Wy (N : Net) (L : Nat → Int) (m u x : Nat) (s : Bool) (z : Int) : Prop := ∃ pre e, Wl N L m u pre x s z e
section
variable {N : Net} {L : Nat → Int} {m u : Nat}
theorem Wy.nil : Wy N L m u u false 0 := ⟨_, _, .nil⟩
theorem Wy.go {v w k : Nat} {s : Bool} {z : Int} (h : Wy N L m u v s z) (hk : k < N.n) (hj : Jn N k v w) : Wy N L m u w (s ^^ m.testBit k) (z + L k) := let ⟨_, _, h⟩ := h; ⟨_, _, h.go hk hj⟩
theorem wl_facts (hL : ∀ k, k < N.n → 0 ≤ L k) (hu : u < N.p) {pre : List Nat} {v e : Nat} {s : Bool} {z : Int} (h : Wl N L m u pre v s z e) :
    v < N.p ∧ e < 2 ^ N.n ∧ (∀ x, N.bd e x = (decide (u = x) ^^ decide (v = x))) ∧ N.par e m = s ∧ lsum L (fun k => e.testBit k) N.n ≤ z ∧ 0 ≤ z := by
  induction h with
  | nil =>
    refine ⟨hu, Nat.two_pow_pos _, fun x => ?_, par_zero m, ?_, Int.le_refl _⟩
    · rw [bd_zero]
      cases decide (u = x) <;> rfl
    · rw [lsum_none fun k _ => Nat.zero_testBit k]
      exact Int.le_refl _
  | @go pre v w k e s z h hk hj ih =>
    obtain ⟨i1, i2, i3, i4, i5, i6⟩ := ih
    have h0 := hL k hk
    refine ⟨hj.lt hk, Nat.xor_lt_two_pow i2 (Nat.pow_lt_pow_right (by decide) hk), fun x => ?_, ?_, ?_, by (first | lia | omega)⟩
    · rw [bd_xor, i3, bd_pow hk]
      unfold Net.inc
      rcases hj with ⟨rfl, rfl⟩ | ⟨rfl, rfl⟩
      · cases decide (u = x) <;> cases decide (N.a k = x) <;> cases decide (N.b k = x) <;> rfl
      · cases decide (u = x) <;> cases decide (N.a k = x) <;> cases decide (N.b k = x) <;> rfl
    · rw [par_xor, i4, par_pow hk]
    · have := lsum_xor (L := L) (f := fun j => e.testBit j) (g := fun j => (2 ^ k).testBit j) hL
      rw [lsum_pow hk] at this
      rw [lsum_congr (g := fun j => e.testBit j ^^ (2 ^ k).testBit j) fun j _ => Nat.testBit_xor ..]
      (first | lia | omega)
theorem wl_pre (hL : ∀ k, k < N.n → 0 ≤ L k) {pre : List Nat} {v e : Nat} {s : Bool} {z : Int} (h : Wl N L m u pre v s z e) : ∀ i c, (pre ++ [cd v s])[i]? = some c → ∃ v' s' z' e', Wl N L m u ((pre ++ [cd v s]).take i) v' s' z' e' ∧ cd v' s' = c ∧ z' ≤ z := by
  induction h with
  | nil =>
    intro i c hc
    cases i with
    | zero => exact ⟨u, false, 0, 0, .nil, Option.some.inj hc, Int.le_refl _⟩
    | succ i => cases hc
  | @go pre v w k e s z h hk hj ih =>
    intro i c hc
    have h0 := hL k hk
    by_cases hi : i < (pre ++ [cd v s]).length
    · rw [List.getElem?_append_left hi] at hc
      obtain ⟨v', s', z', e', w', ec, hz⟩ := ih i c hc
      exact ⟨v', s', z', e', by rw [List.take_append_of_le_length (Nat.le_of_lt hi)]; exact w', ec, by (first | lia | omega)⟩
    · have hl := (List.getElem?_eq_some_iff.mp hc).1
      rw [List.length_append] at hl
      have e1 : i = (pre ++ [cd v s]).length := by
        have : ([cd w (s ^^ m.testBit k)] : List Nat).length = 1 := rfl
        (first | lia | omega)
      subst e1
      rw [List.getElem?_append_right (Nat.le_refl _), Nat.sub_self] at hc
      exact ⟨w, _, _, _, by rw [List.take_left' rfl]; exact h.go hk hj, Option.some.inj hc, Int.le_refl _⟩
theorem wl_short (hL : ∀ k, k < N.n → 0 ≤ L k) {pre : List Nat} {v e : Nat} {s : Bool} {z : Int} (h : Wl N L m u pre v s z e) : ∃ pre' z' e', Wl N L m u pre' v s z' e' ∧ z' ≤ z ∧ (pre' ++ [cd v s]).Nodup := by
  induction h with
  | nil => exact ⟨_, _, _, .nil, Int.le_refl _, by simp⟩
  | @go pre v w k e s z h hk hj ih =>
    obtain ⟨pre', z', e', w', hz, nd⟩ := ih
    have h0 := hL k hk
    by_cases hc : cd w (s ^^ m.testBit k) ∈ pre' ++ [cd v s]
    · obtain ⟨i, hi⟩ := List.getElem?_of_mem hc
      obtain ⟨v2, s2, z2, e2, w2, ec, hz2⟩ := wl_pre hL w' i _ hi
      obtain ⟨rfl, rfl⟩ := cd_inj ec
      refine ⟨_, _, _, w2, by (first | lia | omega), ?_⟩
      have : (pre' ++ [cd v s]).take i ++ [cd v2 (s ^^ m.testBit k)] = (pre' ++ [cd v s]).take (i + 1) := by
        rw [List.take_add_one, hi]
        rfl
      rw [this]
      exact List.Sublist.nodup (List.take_sublist _ _) nd
    · exact ⟨_, _, _, w'.go hk hj, by (first | lia | omega), List.nodup_append.mpr ⟨nd, by simp, fun x hx y hy => by
        have e : y = cd w (s ^^ m.testBit k) := by simpa using hy
        rw [e]
        rintro rfl
        exact hc hx⟩⟩
theorem wl_codes (hu : u < N.p) {pre : List Nat} {v e : Nat} {s : Bool} {z : Int} (h : Wl N L m u pre v s z e) : v < N.p ∧ ∀ c ∈ pre ++ [cd v s], c < 2 * N.p := by
  have one : ∀ {x : Nat} {s : Bool}, x < N.p → cd x s < 2 * N.p := fun {x s} hx => by
    unfold cd
    have : s.toNat ≤ 1 := by cases s <;> decide
    (first | lia | omega)
  induction h with
  | nil => exact ⟨hu, fun c hc => by
      have e : c = cd u false := by simpa using hc
      rw [e]
      exact one hu⟩
  | @go pre v w k e s z h hk hj ih =>
    have hw := hj.lt hk
    refine ⟨hw, fun c hc => ?_⟩
    rcases List.mem_append.mp hc with hc | hc
    · exact ih.2 c hc
    · have e : c = cd w (s ^^ m.testBit k) := by simpa using hc
      rw [e]
      exact one hw
def Best (N : Net) (L : Nat → Int) (m u x : Nat) (s : Bool) : Option Int → Prop
  | none => ∀ z, ¬ Wy N L m u x s z
  | some d => Wy N L m u x s d ∧ ∀ z, Wy N L m u x s z → d ≤ z
theorem Best.uniq {x : Nat} {s : Bool} {o o' : Option Int} (h : Best N L m u x s o) (h' : Best N L m u x s o') : o = o' := by
  cases o with
  | none => cases o' with
    | none => rfl
    | some d => exact absurd h'.1 (h d)
  | some d => cases o' with
    | none => exact absurd h.1 (h' d)
    | some d' =>
      have h1 := h.2 _ h'.1
      have h2 := h'.2 _ h.1
      rw [show d = d' by (first | lia | omega)]
theorem Wy.nonneg (hL : ∀ k, k < N.n → 0 ≤ L k) (hu : u < N.p) {x : Nat} {s : Bool} {z : Int} (h : Wy N L m u x s z) : 0 ≤ z := let ⟨_, _, h⟩ := h; (wl_facts hL hu h).2.2.2.2.2
theorem best_own (hL : ∀ k, k < N.n → 0 ≤ L k) (hu : u < N.p) {o : Option Int} (h : Best N L m u u false o) : o = some 0 := h.uniq ⟨.nil, fun _ hz => hz.nonneg hL hu⟩
theorem best_near (_hL : ∀ k, k < N.n → 0 ≤ L k) {k : Nat} {s : Bool} {o o' : Option Int} (hk : k < N.n) (h : Best N L m u (N.a k) s o) (h' : Best N L m u (N.b k) (s ^^ m.testBit k) o') : Ring.nearB o o' (L k) = true := by
  have fore : ∀ {z}, Wy N L m u (N.a k) s z → Wy N L m u (N.b k) (s ^^ m.testBit k) (z + L k) := fun hz => hz.go hk (.inl ⟨rfl, rfl⟩)
  have back : ∀ {z}, Wy N L m u (N.b k) (s ^^ m.testBit k) z → Wy N L m u (N.a k) s (z + L k) := fun hz => by
    have := hz.go hk (.inr ⟨rfl, rfl⟩)
    rwa [Bool.xor_assoc, Bool.xor_self, Bool.xor_false] at this
  cases o with
  | none => cases o' with
    | none => rfl
    | some d => exact absurd (back h'.1) (h _)
  | some d => cases o' with
    | none => exact absurd (fore h.1) (h' _)
    | some d' =>
      have h1 := h'.2 _ (fore h.1)
      have h2 := h.2 _ (back h'.1)
      unfold Ring.nearB
      rw [decide_eq_true_eq]
      split <;> (first | lia | omega)
theorem stands_way {F : Nat → Bool → Option Int} (h0 : F u false = some 0) (hn : ∀ k, k < N.n → ∀ s, Ring.nearB (F (N.a k) s) (F (N.b k) (s ^^ m.testBit k)) (L k) = true) {v : Nat} {s : Bool} {z : Int} (h : Wy N L m u v s z) : ∃ d, F v s = some d ∧ d ≤ z := by
  obtain ⟨pre, e, h⟩ := h
  induction h with
  | nil => exact ⟨0, h0, Int.le_refl _⟩
  | @go pre v w k e s z h hk hj ih =>
    obtain ⟨d, hd, hz⟩ := ih
    rcases hj with ⟨rfl, rfl⟩ | ⟨rfl, rfl⟩
    · have := hn k hk s
      rw [hd] at this
      cases hF : F (N.b k) (s ^^ m.testBit k) with
      | none => rw [hF] at this; cases this
      | some d' =>
        rw [hF] at this
        unfold Ring.nearB at this
        rw [decide_eq_true_eq] at this
        refine ⟨d', rfl, ?_⟩
        split at this <;> (first | lia | omega)
    · have := hn k hk (s ^^ m.testBit k)
      rw [Bool.xor_assoc, Bool.xor_self, Bool.xor_false, hd] at this
      cases hF : F (N.a k) (s ^^ m.testBit k) with
      | none => rw [hF] at this; cases this
      | some d' =>
        rw [hF] at this
        unfold Ring.nearB at this
        rw [decide_eq_true_eq] at this
        refine ⟨d', rfl, ?_⟩
        split at this <;> (first | lia | omega)
def Snd (N : Net) (L : Nat → Int) (m u : Nat) (F : Nat → Bool → Option Int) : Prop := ∀ x s d, F x s = some d → Wy N L m u x s d
def Cov (N : Net) (L : Nat → Int) (m u t : Nat) (F : Nat → Bool → Option Int) : Prop := ∀ pre v s z e, Wl N L m u pre v s z e → pre.length ≤ t → ∃ d, F v s = some d ∧ d ≤ z
def en (N : Net) (q : Nat) : Nat := if q / 2 % 2 = 0 then N.a (q / 4) else N.b (q / 4)
def ot (N : Net) (q : Nat) : Nat := if q / 2 % 2 = 0 then N.b (q / 4) else N.a (q / 4)
def od (q : Nat) : Bool := decide (q % 2 = 1)
structure Rl (N : Net) (L : Nat → Int) (m u : Nat) (F0 F : Nat → Bool → Option Int) (q : Nat) : Prop where
  snd : Snd N L m u F
  low : ∀ x s d, F0 x s = some d → ∃ d', F x s = some d' ∧ d' ≤ d
  dn : ∀ j, j < q → ∀ d, F0 (en N j) (od j) = some d → ∃ d', F (ot N j) (od j ^^ m.testBit (j / 4)) = some d' ∧ d' ≤ d + L (j / 4)
def putF (F : Nat → Bool → Option Int) (x : Nat) (s : Bool) (d : Int) : Nat → Bool → Option Int := fun y t => if y = x ∧ t = s then some d else F y t
def lst : Option Int → Int → Int
  | none, y => y
  | some x, y => if y < x then y else x
theorem Rl.start {F : Nat → Bool → Option Int} (h : Snd N L m u F) : Rl N L m u F F 0 := ⟨h, fun _ _ d hd => ⟨d, hd, Int.le_refl _⟩, fun j hj => by (first | lia | omega)⟩
theorem Rl.skip {F0 F : Nat → Bool → Option Int} {q : Nat} (h : Rl N L m u F0 F q) (hn : F (en N q) (od q) = none) : Rl N L m u F0 F (q + 1) := ⟨h.snd, h.low, fun j hj d hd => by
  by_cases e : j = q
  · subst e
    obtain ⟨d', hd', _⟩ := h.low _ _ _ hd
    rw [hn] at hd'
    cases hd'
  · exact h.dn j (by (first | lia | omega)) d hd⟩
theorem en_ot {q : Nat} : Jn N (q / 4) (en N q) (ot N q) := by
  unfold en ot
  by_cases e : q / 2 % 2 = 0
  · rw [if_pos e, if_pos e]
    exact .inl ⟨rfl, rfl⟩
  · rw [if_neg e, if_neg e]
    exact .inr ⟨rfl, rfl⟩
theorem lst_le (o : Option Int) (y : Int) : lst o y ≤ y ∧ ∀ x, o = some x → lst o y ≤ x := by
  cases o with
  | none => exact ⟨Int.le_refl _, fun x hx => nomatch hx⟩
  | some x =>
    show (if y < x then y else x) ≤ y ∧ ∀ x', some x = some x' → (if y < x then y else x) ≤ x'
    by_cases h : y < x
    · rw [if_pos h]
      exact ⟨Int.le_refl _, fun x' hx => by have := Option.some.inj hx; (first | lia | omega)⟩
    · rw [if_neg h]
      exact ⟨by (first | lia | omega), fun x' hx => by have := Option.some.inj hx; (first | lia | omega)⟩
theorem lst_or (o : Option Int) (y : Int) : lst o y = y ∨ o = some (lst o y) := by
  cases o with
  | none => exact .inl rfl
  | some x =>
    show (if y < x then y else x) = y ∨ some x = some (if y < x then y else x)
    by_cases h : y < x
    · rw [if_pos h]
      exact .inl rfl
    · rw [if_neg h]
      exact .inr rfl
theorem Rl.put {F0 F : Nat → Bool → Option Int} {q : Nat} {d : Int} (h : Rl N L m u F0 F q) (hq : q / 4 < N.n) (hd : F (en N q) (od q) = some d) : Rl N L m u F0 (putF F (ot N q) (od q ^^ m.testBit (q / 4)) (lst (F (ot N q) (od q ^^ m.testBit (q / 4))) (d + L (q / 4)))) (q + 1) := by
  generalize hx : ot N q = x
  generalize hs : (od q ^^ m.testBit (q / 4)) = s
  have l1 := lst_le (F x s) (d + L (q / 4))
  have l2 := lst_or (F x s) (d + L (q / 4))
  generalize lst (F x s) (d + L (q / 4)) = y at l1 l2
  have low : ∀ a t d0, F a t = some d0 → ∃ d', putF F x s y a t = some d' ∧ d' ≤ d0 := fun a t d0 ha => by
    unfold putF
    by_cases e : a = x ∧ t = s
    · rw [if_pos e]
      rw [e.1, e.2] at ha
      exact ⟨y, rfl, l1.2 _ ha⟩
    · rw [if_neg e]
      exact ⟨d0, ha, Int.le_refl _⟩
  refine ⟨fun a t d0 ha => ?_, fun a t d0 ha => ?_, fun j hj d0 ha => ?_⟩
  · unfold putF at ha
    by_cases e : a = x ∧ t = s
    · rw [if_pos e] at ha
      cases ha
      rw [e.1, e.2]
      rcases l2 with l2 | l2
      · rw [l2, ← hx, ← hs]
        exact (h.snd _ _ _ hd).go hq en_ot
      · exact h.snd _ _ _ l2
    · rw [if_neg e] at ha
      exact h.snd _ _ _ ha
  · obtain ⟨d1, h1, h2⟩ := h.low _ _ _ ha
    obtain ⟨d2, h3, h4⟩ := low _ _ _ h1
    exact ⟨d2, h3, by (first | lia | omega)⟩
  · by_cases e : j = q
    · subst e
      obtain ⟨d1, h1, h2⟩ := h.low _ _ _ ha
      rw [hd] at h1
      cases h1
      rw [hx, hs]
      exact ⟨y, if_pos ⟨rfl, rfl⟩, by have := l1.1; (first | lia | omega)⟩
    · obtain ⟨d1, h1, h2⟩ := h.dn j (by (first | lia | omega)) _ ha
      obtain ⟨d2, h3, h4⟩ := low _ _ _ h1
      exact ⟨d2, h3, by (first | lia | omega)⟩
theorem Rl.cov {F0 F : Nat → Bool → Option Int} {t : Nat} (h : Rl N L m u F0 F (4 * N.n)) (c : Cov N L m u t F0) : Cov N L m u (t + 1) F := by
  intro pre x s z e wl hl
  cases wl with
  | nil =>
    obtain ⟨d, hd, hz⟩ := c _ _ _ _ _ .nil (Nat.zero_le _)
    obtain ⟨d', hd', hz'⟩ := h.low _ _ _ hd
    exact ⟨d', hd', by (first | lia | omega)⟩
  | @go pre v w k e s z wl hk hj =>
    rw [List.length_append] at hl
    obtain ⟨d, hd, hz⟩ := c _ _ _ _ _ wl (by have : ([cd v s] : List Nat).length = 1 := rfl; (first | lia | omega))
    have hsN : s.toNat = if s = true then 1 else 0 := by cases s <;> rfl
    have fin : ∀ j, j < 4 * N.n → j / 4 = k → en N j = v → ot N j = x → od j = s → ∃ d, F x (s ^^ m.testBit k) = some d ∧ d ≤ z + L k := by
      intro j hj e1 e2 e3 e4
      obtain ⟨d', hd', hz'⟩ := h.dn j hj d (by rw [e2, e4]; exact hd)
      rw [e3, e4, e1] at hd'
      rw [e1] at hz'
      exact ⟨d', hd', by (first | lia | omega)⟩
    have hs1 : s.toNat ≤ 1 := by cases s <;> decide
    have hod : ∀ q, q % 2 = s.toNat → od q = s := fun q hq => by
      unfold od
      rw [hq]
      cases s <;> rfl
    rcases hj with ⟨e1, e2⟩ | ⟨e1, e2⟩
    · have hk4 : (4 * k + s.toNat) / 4 = k := by (first | lia | omega)
      have hk2 : (4 * k + s.toNat) / 2 % 2 = 0 := by (first | lia | omega)
      refine fin (4 * k + s.toNat) (by (first | lia | omega)) hk4 ?_ ?_ (hod _ (by (first | lia | omega)))
      · unfold en
        rw [if_pos hk2, hk4]
        exact e1
      · unfold ot
        rw [if_pos hk2, hk4]
        exact e2
    · have hk4 : (4 * k + 2 + s.toNat) / 4 = k := by (first | lia | omega)
      have hk2 : ¬ (4 * k + 2 + s.toNat) / 2 % 2 = 0 := by (first | lia | omega)
      refine fin (4 * k + 2 + s.toNat) (by (first | lia | omega)) hk4 ?_ ?_ (hod _ (by (first | lia | omega)))
      · unfold en
        rw [if_neg hk2, hk4]
        exact e1
      · unfold ot
        rw [if_neg hk2, hk4]
        exact e2
theorem Cov.start : Cov N L m u 0 (putF (fun _ _ => none) u false 0) := by
  intro pre v s z e w hl
  cases w with
  | nil => exact ⟨0, if_pos ⟨rfl, rfl⟩, Int.le_refl _⟩
  | go => rw [List.length_append] at hl; have : ∀ x : Nat, ([x] : List Nat).length = 1 := fun _ => rfl; simp at hl
theorem Snd.start : Snd N L m u (putF (fun _ _ => none) u false 0) := by
  intro x s d h
  unfold putF at h
  by_cases e : x = u ∧ s = false
  · rw [if_pos e] at h
    cases h
    rw [e.1, e.2]
    exact .nil
  · rw [if_neg e] at h
    cases h
theorem cov_best (hL : ∀ k, k < N.n → 0 ≤ L k) (hu : u < N.p) {F : Nat → Bool → Option Int} (c : Cov N L m u (2 * N.p) F) (sn : Snd N L m u F) (x : Nat) (s : Bool) : Best N L m u x s (F x s) := by
  have all : ∀ z, Wy N L m u x s z → ∃ d, F x s = some d ∧ d ≤ z := by
    rintro z ⟨pre, e, w⟩
    obtain ⟨pre', z', e', w', hz, nd⟩ := wl_short hL w
    have hl := nodup_le nd (wl_codes hu w').2
    rw [List.length_append] at hl
    obtain ⟨d, hd, hdz⟩ := c _ _ _ _ _ w' (by (first | lia | omega))
    exact ⟨d, hd, by (first | lia | omega)⟩
  cases h : F x s with
  | none =>
    intro z hz
    obtain ⟨d, hd, _⟩ := all z hz
    rw [h] at hd
    cases hd
  | some d =>
    refine ⟨sn _ _ _ h, fun z hz => ?_⟩
    obtain ⟨d', hd', hz'⟩ := all z hz
    rw [h] at hd'
    cases hd'
    exact hz'
theorem ring_way (hL : ∀ k, k < N.n → 0 ≤ L k) (m : Nat) {r : Nat} (hr : N.Ring r) (hm : r < 2 ^ N.n) : ∃ x, x < N.p ∧ Wy N L m x x (N.par r m) (lsum L (fun k => r.testBit k) N.n) := by
  obtain ⟨t0, hb⟩ : ∃ t0, r.testBit t0 = true := by
    apply Classical.byContradiction
    intro h
    exact hr.1 (Nat.eq_of_testBit_eq fun i => by
      rw [Nat.zero_testBit]
      cases e : r.testBit i with
      | false => rfl
      | true => exact absurd ⟨i, e⟩ h)
  have ht0 : t0 < N.n := bit_lt hm hb
  obtain ⟨acc, v, w⟩ := wk_exists hm hr hb
  have key : ∀ {acc v left}, Wk N r t0 acc v left → (∀ k, left.testBit k = true → r.testBit k = true) ∧ ∃ pre s, Wl N L m (N.a t0) pre v s (lsum L (fun k => (r ^^^ left).testBit k) N.n) (r ^^^ left) := by
    intro acc v left w
    induction w with
    | start =>
      have e : r ^^^ (r ^^^ 2 ^ t0) = 2 ^ t0 := by rw [← Nat.xor_assoc, Nat.xor_self, Nat.zero_xor]
      refine ⟨fun k hk => ?_, [] ++ [cd (N.a t0) false], false ^^ m.testBit t0, ?_⟩
      · rw [Nat.testBit_xor, Nat.testBit_two_pow] at hk
        by_cases e : t0 = k
        · rw [← e]; exact hb
        · rw [decide_eq_false e, Bool.xor_false] at hk
          exact hk
      · rw [e, lsum_pow ht0]
        have := Wl.go (m := m) (L := L) (.nil (u := N.a t0)) ht0 (.inl ⟨rfl, rfl⟩)
        rwa [Int.zero_add, Nat.zero_xor] at this
    | @next acc v left t w h0 ht ih =>
      obtain ⟨sub, pre, s, wl⟩ := ih
      have hm2 := tiesAt_mem.mp (List.mem_of_getElem? ht)
      have htr := sub t hm2.2.1
      have htn := bit_lt hm htr
      refine ⟨fun k hk => ?_, pre ++ [cd v s], s ^^ m.testBit t, ?_⟩
      · rw [Nat.testBit_xor, Nat.testBit_two_pow] at hk
        by_cases e : t = k
        · rw [← e]; exact htr
        · rw [decide_eq_false e, Bool.xor_false] at hk
          exact sub k hk
      · have e : r ^^^ (left ^^^ 2 ^ t) = r ^^^ left ^^^ 2 ^ t := by rw [Nat.xor_assoc]
        have hs : lsum L (fun k => (r ^^^ left ^^^ 2 ^ t).testBit k) N.n = lsum L (fun k => (r ^^^ left).testBit k) N.n + L t := by
          rw [lsum_congr (g := fun j => (r ^^^ left).testBit j ^^ (2 ^ t).testBit j) fun j _ => Nat.testBit_xor .., lsum_apart, lsum_pow htn]
          intro k _ hk
          rw [Nat.testBit_two_pow]
          refine decide_eq_false fun e => ?_
          subst e
          rw [Nat.testBit_xor, htr, hm2.2.1] at hk
          cases hk
        rw [e, hs]
        exact wl.go htn (far_join hm2.2.2)
  obtain ⟨_, pre, s, wl⟩ := key w
  rw [Nat.xor_zero] at wl
  have f := wl_facts hL (N.al t0 ht0) wl
  have hv : N.a t0 = v := by
    have := f.2.2.1 v
    rw [hr.2.1 v f.1, decide_eq_true (rfl : v = v)] at this
    cases h : decide (N.a t0 = v) with
    | true => exact of_decide_eq_true h
    | false => rw [h] at this; cases this
  refine ⟨N.a t0, N.al t0 ht0, pre, r, ?_⟩
  have hs := f.2.2.2.1
  rw [hs]
  rw [← hv] at wl
  exact wl
theorem odd_within {m : Nat} : ∀ (c e : Nat), cnt (fun k => e.testBit k) N.n = c → e < 2 ^ N.n → N.Even e → N.par e m = true → ∃ r, N.Ring r ∧ (∀ k, r.testBit k = true → e.testBit k = true) ∧ N.par r m = true := by
  intro c
  induction c using Nat.strongRecOn with
  | _ c ih =>
    intro e hc he ev hp
    by_cases hr : N.Ring e
    · exact ⟨e, hr, fun _ h => h, hp⟩
    have h0 : e ≠ 0 := fun z => by rw [z, par_zero] at hp; cases hp
    obtain ⟨q, hq, evq, q0, qe⟩ : ∃ q, (∀ k, q.testBit k = true → e.testBit k = true) ∧ N.Even q ∧ q ≠ 0 ∧ q ≠ e := by
      apply Classical.byContradiction
      intro h
      refine hr ⟨h0, ev, fun q hq evq => ?_⟩
      apply Classical.byContradiction
      intro h2
      exact h ⟨q, hq, evq, fun z => h2 (.inl z), fun z => h2 (.inr z)⟩
    have small : ∀ q, (∀ k, q.testBit k = true → e.testBit k = true) → q ≠ e → cnt (fun k => q.testBit k) N.n < c := by
      intro q hq qe
      have h1 := cnt_le (f := fun k => q.testBit k) (g := fun k => e.testBit k) (n := N.n) fun k _ h => hq k h
      have h2 : cnt (fun k => q.testBit k) N.n ≠ cnt (fun k => e.testBit k) N.n := fun h => qe (Nat.eq_of_testBit_eq fun k => by
        by_cases hk : k < N.n
        · have := cnt_same (f := fun k => q.testBit k) (g := fun k => e.testBit k) (fun k _ h => hq k h) h k hk
          cases h3 : e.testBit k with
          | true => exact this h3
          | false => cases h4 : q.testBit k with
            | false => rfl
            | true => rw [hq k h4] at h3; cases h3
        · cases h3 : e.testBit k with
          | true => exact absurd (bit_lt he h3) hk
          | false => cases h4 : q.testBit k with
            | false => rfl
            | true => rw [hq k h4] at h3; cases h3)
      (first | lia | omega)
    have lt : ∀ q, (∀ k, q.testBit k = true → e.testBit k = true) → q < 2 ^ N.n := fun q hq => lt_of_bits fun k hk => bit_lt he (hq k hk)
    have hq2 : ∀ k, (e ^^^ q).testBit k = true → e.testBit k = true := fun k hk => by
      rw [Nat.testBit_xor] at hk
      cases h3 : e.testBit k with
      | true => rfl
      | false =>
        cases h4 : q.testBit k with
        | false => rw [h3, h4] at hk; cases hk
        | true => rw [hq k h4] at h3; cases h3
    have fin : ∀ q, (∀ k, q.testBit k = true → e.testBit k = true) → q ≠ e → N.Even q → N.par q m = true → ∃ r, N.Ring r ∧ (∀ k, r.testBit k = true → e.testBit k = true) ∧ N.par r m = true := by
      intro q hq qe evq hpq
      obtain ⟨r, h1, h2, h3⟩ := ih _ (small q hq qe) q rfl (lt q hq) evq hpq
      exact ⟨r, h1, fun k hk => hq k (h2 k hk), h3⟩
    cases hpq : N.par q m with
    | true => exact fin q hq qe evq hpq
    | false =>
      refine fin (e ^^^ q) hq2 (fun z => q0 ?_) (Even.xor ev evq) (by rw [par_xor, hp, hpq]; rfl)
      have : e ^^^ (e ^^^ q) = e ^^^ e := by rw [z]
      rwa [← Nat.xor_assoc, Nat.xor_self, Nat.zero_xor] at this
theorem way_ring (hL : ∀ k, k < N.n → 0 ≤ L k) (hu : u < N.p) {z : Int} (h : Wy N L m u u true z) : ∃ r, N.Ring r ∧ r < 2 ^ N.n ∧ N.par r m = true ∧ lsum L (fun k => r.testBit k) N.n ≤ z := by
  obtain ⟨pre, e, h⟩ := h
  obtain ⟨_, h2, h3, h4, h5, _⟩ := wl_facts hL hu h
  obtain ⟨r, r1, r2, r3⟩ := odd_within _ e rfl h2 (fun x _ => by rw [h3, Bool.xor_self]) h4
  refine ⟨r, r1, lt_of_bits fun k hk => bit_lt h2 (r2 k hk), r3, ?_⟩
  have := lsum_mono (L := L) (f := fun k => r.testBit k) (g := fun k => e.testBit k) hL fun k _ hk => r2 k hk
  (first | lia | omega)
end
end RM

namespace Ring
open PySem L2
def lenAt (ts : List Tie) (k : Nat) : Int := (tieAt ts k).2.2
theorem lenR_lsum (ts : List Tie) (f : Nat → Bool) : ∀ n, lenR ts f n = RM.lsum (lenAt ts) f n
  | 0 => rfl
  | n + 1 => by
    show lenR ts f n + _ = RM.lsum (lenAt ts) f n + _
    rw [lenR_lsum ts f n]
    rfl
theorem lenOf_lsum {ts : List Tie} {m : Nat} (hm : m < 2 ^ ts.length) : lenOf ts m = RM.lsum (lenAt ts) (fun k => m.testBit k) ts.length := by
  rw [len_range hm, lenR_lsum]
theorem lenAt_pos {p : Nat} {ts : List Tie} (g : GoodWeb p ts) : ∀ k, k < (netOf p ts g).n → 0 ≤ lenAt ts k := fun k hk => by
  have := (g.ties _ (tieAt_mem hk)).l0
  unfold lenAt
  (first | lia | omega)
structure FarV (H0 : Hp) (D : Addr) (es : List Addr) (F : Nat → Bool → Option Int) (H : Hp) : Prop where
  same : Same H0 H
  nd : es.Nodup
  ne : D ∉ es
  fr : ∀ b ∈ es, H0 b = none
  Dn : H0 D = none
  lst : H D = some (.lst (es.map V.ref))
  at_ : ∀ i b, es[i]? = some b → H b = some (.lst [oV (F i false), oV (F i true)])
theorem FarV.go {H0 H H' : Hp} {D : Addr} {es : List Addr} {F : Nat → Bool → Option Int} (h : FarV H0 D es F H) (s : Same H H') : FarV H0 D es F H' :=
  ⟨h.same.trans s, h.nd, h.ne, h.fr, h.Dn, s _ _ h.lst, fun i b e => s _ _ (h.at_ i b e)⟩
theorem far_at (F : Nat → Bool → Option Int) (i : Nat) (s : Bool) : ([oV (F i false), oV (F i true)] : List V)[s.toNat]? = some (oV (F i s)) := by
  cases s <;> rfl
theorem far_set (F : Nat → Bool → Option Int) (i : Nat) (s : Bool) (d : Int) : ([oV (F i false), oV (F i true)] : List V).set s.toNat (.int d) = [oV (RM.putF F i s d i false), oV (RM.putF F i s d i true)] := by
  unfold RM.putF
  cases s with
  | false =>
    rw [if_pos ⟨rfl, rfl⟩, if_neg (fun z => by cases z.2)]
    rfl
  | true =>
    rw [if_neg (fun z => by cases z.2), if_pos ⟨rfl, rfl⟩]
    rfl
theorem putG_ne {F : Nat → Bool → Option Int} {i j : Nat} {s t : Bool} {d : Int} (h : j ≠ i) : RM.putF F i s d j t = F j t := if_neg fun z => h z.1
theorem FarV.put {H0 H : Hp} {D b : Addr} {es : List Addr} {F : Nat → Bool → Option Int} {i : Nat} (h : FarV H0 D es F H) (hb : es[i]? = some b) (s : Bool) (d : Int) : FarV H0 D es (RM.putF F i s d) (upd H b (.lst (([oV (F i false), oV (F i true)] : List V).set s.toNat (.int d)))) := by
  have hm := List.mem_of_getElem? hb
  have hne : D ≠ b := fun z => h.ne (z ▸ hm)
  refine ⟨h.same.put (h.fr b hm), h.nd, h.ne, h.fr, h.Dn, by rw [upd_ne hne]; exact h.lst, fun j c hc => ?_⟩
  by_cases e : j = i
  · subst e
    rw [hb] at hc
    cases hc
    rw [upd_same, far_set]
  · have : c ≠ b := fun z => by
      subst z
      obtain ⟨h1, h2⟩ := List.getElem?_eq_some_iff.mp hc
      obtain ⟨h3, h4⟩ := List.getElem?_eq_some_iff.mp hb
      exact e ((List.getElem_inj h.nd).mp (h2.trans h4.symm))
    rw [upd_ne this, putG_ne e, putG_ne e]
    exact h.at_ j c hc
theorem FarV.get {H0 H : Hp} {D : Addr} {es : List Addr} {F : Nat → Bool → Option Int} {i : Nat} (h : FarV H0 D es F H) (hi : i < es.length) : ∃ b, (es.map V.ref)[i]? = some (.ref b) ∧ es[i]? = some b ∧ H b = some (.lst [oV (F i false), oV (F i true)]) := by
  have e : es[i]? = some es[i] := List.getElem?_eq_getElem hi
  exact ⟨es[i], by rw [List.getElem?_map, e]; rfl, e, h.at_ i _ e⟩
theorem FarV.off {H0 H : Hp} {D L : Addr} {es : List Addr} {F : Nat → Bool → Option Int} (h : FarV H0 D es F H) (hL : H L = none) : L ∉ es := fun z => by
  obtain ⟨j, hj⟩ := List.getElem?_of_mem z
  have := h.at_ j L hj
  rw [hL] at this
  cases this
def FarC (H0 : Hp) (D : Addr) (i : Nat) (acc : List V) (H : Hp) : Prop := ∃ es, acc = es.map V.ref ∧ es.length = i ∧ FarV H0 D es (fun _ _ => none) H
theorem FarC.start {H0 : Hp} {D : Addr} (hD : H0 D = none) : FarC H0 D 0 [] (upd H0 D (.lst [])) :=
  ⟨[], rfl, rfl, Same.new hD, List.nodup_nil, List.not_mem_nil, fun _ h => (List.not_mem_nil h).elim, hD, upd_same, fun i b e => by cases e⟩
theorem FarC.len {H0 H : Hp} {D : Addr} {i : Nat} {acc : List V} (h : FarC H0 D i acc H) : H D = some (.lst acc) ∧ acc.length ≤ i := by
  obtain ⟨es, rfl, e, r⟩ := h
  exact ⟨r.lst, by rw [List.length_map]; (first | lia | omega)⟩
theorem FarC.next {H0 H : Hp} {D b : Addr} {i : Nat} {acc : List V} (h : FarC H0 D i acc H) (hb : H b = none) : upd H b (.lst [.non, .non]) D = some (.lst acc) ∧ FarC H0 D (i + 1) (acc ++ [.ref b]) (upd (upd H b (.lst [.non, .non])) D (.lst (acc ++ [.ref b]))) := by
  obtain ⟨es, rfl, e, r⟩ := h
  have hDb : D ≠ b := fun z => by
    have := r.lst
    rw [z, hb] at this
    cases this
  have hbn : b ∉ es := r.off hb
  have hb0 : H0 b = none := r.same.free hb
  refine ⟨by rw [upd_ne hDb]; exact r.lst, es ++ [b], by simp, by simp [e], (r.same.put hb0).put r.Dn, ?_, ?_, fun c hc => ?_, r.Dn, by rw [upd_same]; simp, fun j c hc => ?_⟩
  · exact List.nodup_append.mpr ⟨r.nd, by simp, fun x hx y hy => by rw [List.mem_singleton.mp hy]; exact fun z => hbn (z ▸ hx)⟩
  · intro hm
    rcases List.mem_append.mp hm with z | z
    · exact r.ne z
    · exact hDb (List.mem_singleton.mp z)
  · rcases List.mem_append.mp hc with z | z
    · exact r.fr c z
    · rw [List.mem_singleton.mp z]
      exact hb0
  · have hcD : c ≠ D := fun z => by
      subst z
      rcases List.mem_append.mp (List.mem_of_getElem? hc) with z | z
      · exact r.ne z
      · exact hDb (List.mem_singleton.mp z)
    rw [upd_ne hcD]
    by_cases ec : c = b
    · rw [ec, upd_same]
      rfl
    · rw [upd_ne ec]
      by_cases hj : j < es.length
      · rw [List.getElem?_append_left hj] at hc
        exact r.at_ j c hc
      · rw [List.getElem?_append_right (by (first | lia | omega))] at hc
        have := List.mem_of_getElem? hc
        exact absurd (List.mem_singleton.mp this) ec
def prsOf (F : Nat → Bool → Option Int) (p : Nat) : List Pr := (List.range p).map fun i => (F i false, F i true)
theorem prs_at {F : Nat → Bool → Option Int} {p x : Nat} (h : x < p) (s : Bool) : sel (prAt (prsOf F p) x) s = F x s := by
  unfold prAt prsOf
  rw [List.getD_eq_getElem?_getD, List.getElem?_map, List.getElem?_range h]
  cases s <;> rfl
theorem prs_succ (F : Nat → Bool → Option Int) (i : Nat) : prsOf F (i + 1) = prsOf F i ++ [(F i false, F i true)] := by
  unfold prsOf
  rw [List.range_succ, List.map_append]
  rfl
theorem prs_len (F : Nat → Bool → Option Int) (i : Nat) : (prsOf F i).length = i := by
  unfold prsOf
  rw [List.length_map, List.length_range]
end Ring
namespace RM
variable {N : Net} {L : Nat → Int} {m u : Nat}
theorem Rl.put' {F0 F : Nat → Bool → Option Int} {q k x y : Nat} {s : Bool} {d : Int} (h : Rl N L m u F0 F q) (e4 : q / 4 = k) (e1 : en N q = x) (e2 : ot N q = y) (e3 : od q = s) (hk : k < N.n) (hd : F x s = some d) :
    Rl N L m u F0 (putF F y (s ^^ m.testBit k) (lst (F y (s ^^ m.testBit k)) (d + L k))) (q + 1) := by
  subst e4 e1 e2 e3
  exact h.put hk hd
theorem q_facts {k j n : Nat} (hj : j < 2) (hn : n < 2) : (4 * k + 2 * j + n) / 4 = k ∧ od (4 * k + 2 * j + n) = decide (n = 1) ∧ en N (4 * k + 2 * j + n) = (if j = 0 then N.a k else N.b k) ∧ ot N (4 * k + 2 * j + n) = (if j = 0 then N.b k else N.a k) := by
  have h1 : (4 * k + 2 * j + n) / 4 = k := by (first | lia | omega)
  have h2 : (4 * k + 2 * j + n) / 2 % 2 = j := by (first | lia | omega)
  refine ⟨h1, ?_, ?_, ?_⟩
  · unfold od
    exact decide_eq_decide.mpr (by (first | lia | omega))
  · unfold en
    rw [h1, h2]
  · unfold ot
    rw [h1, h2]
end RM

namespace Ring
open PySem L2
theorem tieB_all (R : List Pr) (t : Tie) (u : Bool) : tieB R t u = true ↔ ∀ sb : Bool, nearB (sel (prAt R t.1.toNat) sb) (sel (prAt R t.2.1.toNat) (sb ^^ u)) t.2.2 = true := by
  unfold tieB
  rw [Bool.and_eq_true]
  constructor
  · rintro ⟨h1, h2⟩ sb
    cases sb with
    | false => rw [Bool.false_xor]; exact h1
    | true => rw [Bool.true_xor]; exact h2
  · intro h
    have h1 := h false
    have h2 := h true
    rw [Bool.false_xor] at h1
    rw [Bool.true_xor] at h2
    exact ⟨h1, h2⟩
variable {p : Nat} {ts : List Tie} {g : GoodWeb p ts} {m : Nat} {W : List (List Pr)}
def BestW (p : Nat) (ts : List Tie) (g : GoodWeb p ts) (m : Nat) (W : List (List Pr)) : Prop := ∀ i, i < p → ∀ x s, x < p → RM.Best (netOf p ts g) (lenAt ts) m i x s (sel (prAt (W.getD i []) x) s)
theorem BestW.stands (h : BestW p ts g m W) : Stands p ts m W := fun i hi => by
  refine ⟨RM.best_own (lenAt_pos g) (show i < (netOf p ts g).p from hi) (h i hi i false hi), fun k hk => ?_⟩
  rw [tieB_all]
  exact fun s => RM.best_near (lenAt_pos g) (show k < (netOf p ts g).n from hk) (h i hi _ s ((netOf p ts g).al k hk)) (h i hi _ _ ((netOf p ts g).bl k hk))
theorem stands_on (st : Stands p ts m W) {i x : Nat} {s : Bool} {z : Int} (hi : i < p) (h : RM.Wy (netOf p ts g) (lenAt ts) m i x s z) : ∃ d, sel (prAt (W.getD i []) x) s = some d ∧ d ≤ z := by
  obtain ⟨h0, hn⟩ := st i hi
  exact RM.stands_way (F := fun x s => sel (prAt (W.getD i []) x) s) h0 (fun k hk s => (tieB_all _ _ _).mp (hn k hk) s) h
theorem stands_least (st : Stands p ts m W) {l : Int} (ns : ∀ i, i < p → ∀ d, (prAt (W.getD i []) i).2 = some d → l ≤ d) {r : Nat} (hr : r < 2 ^ ts.length) (rg : (netOf p ts g).Ring r) (ho : (netOf p ts g).par r m = true) : l ≤ RM.lsum (lenAt ts) (fun k => r.testBit k) ts.length := by
  obtain ⟨x, hx, w⟩ := RM.ring_way (lenAt_pos g) m rg hr
  rw [ho] at w
  obtain ⟨d, hd, hz⟩ := stands_on st hx w
  have := ns x hx d hd
  exact Int.le_trans this hz
theorem best_none (h : BestW p ts g m W) {l : Int} (hl : ∀ r, r < 2 ^ ts.length → (netOf p ts g).Ring r → (netOf p ts g).par r m = true → l ≤ RM.lsum (lenAt ts) (fun k => r.testBit k) ts.length) : ∀ i, i < p → ∀ d, (prAt (W.getD i []) i).2 = some d → l ≤ d := by
  intro i hi d hd
  have b := h i hi i true hi
  have e : sel (prAt (W.getD i []) i) true = some d := hd
  rw [e] at b
  obtain ⟨r, r1, r2, r3, r4⟩ := RM.way_ring (lenAt_pos g) (show i < (netOf p ts g).p from hi) b.1
  exact Int.le_trans (hl r r2 r1 r3) r4
theorem odd_par {r : Nat} (hm : m < 2 ^ ts.length) : (tiesOf ((r &&& m : Nat) : Int)).length % 2 = 1 ↔ (netOf p ts g).par r m = true := by
  rw [← par_len (g := g) hm, decide_eq_true_iff]
end Ring

namespace L2
open PySem
theorem for_range' {lo : Int} {n : Nat} {g : TG} {tb : TS} {D : Ends} {σ : St} {H : Hp} (Pv : Nat → St → Hp → Prop) (h0 : Pv 0 σ H)
    (hs : ∀ i, let D' : Ends := { D with nx := Pv (i + 1), ct := Pv (i + 1), bk := D.nx }; ∀ σ H, i < n → Pv i σ H → g (.int (lo + i)) σ H fun σ2 H2 => tb D' σ2 H2) (hd : ∀ σ H, Pv n σ H → D.nx σ H) :
    ∃ W : Nat → Nat → St → Hp → Prop, (∃ m, W 0 m σ H) ∧ ∀ i m σ H, W i m σ H →
      ((Itr lo n).stop i H ∧ D.nx σ H) ∨ ((Itr lo n).go i H ∧ ∃ N : St → Hp → Prop, (∀ σ' H', N σ' H' → ∃ m', m' < m ∧ W (i + 1) m' σ' H') ∧ ∀ x H', (Itr lo n).yld i H x H' → g x σ H' fun σ2 H2 => tb { D with nx := N, ct := N, bk := D.nx } σ2 H2) :=
  for_range Pv h0 (fun i σ H hi p => hs i σ H hi p) hd
theorem for_list' {K : PySem.W.Frag} {a : Addr} {xs : List V} {g : TG} {tb : TS} {D : Ends} {σ : St} {H : Hp} (Pv : Nat → St → Hp → Prop) (h0 : Pv 0 σ H) (hl : ∀ i σ H, i ≤ xs.length → Pv i σ H → SqL K H a xs)
    (hs : ∀ i x, let D' : Ends := { D with nx := Pv (i + 1), ct := Pv (i + 1), bk := D.nx }; ∀ σ H, xs[i]? = some x → Pv i σ H → g x σ H fun σ2 H2 => tb D' σ2 H2) (hd : ∀ σ H, Pv xs.length σ H → D.nx σ H) :
    ∃ W : Nat → Nat → St → Hp → Prop, (∃ m, W 0 m σ H) ∧ ∀ i m σ H, W i m σ H →
      ((Itl K a).stop i H ∧ D.nx σ H) ∨ ((Itl K a).go i H ∧ ∃ N : St → Hp → Prop, (∀ σ' H', N σ' H' → ∃ m', m' < m ∧ W (i + 1) m' σ' H') ∧ ∀ x H', (Itl K a).yld i H x H' → g x σ H' fun σ2 H2 => tb { D with nx := N, ct := N, bk := D.nx } σ2 H2) :=
  for_list Pv h0 hl (fun i x σ H hi p => hs i x σ H hi p) hd
theorem bmK {X : Cx} {e : Expr} {T : String} {r : V → List V → Hp → VK → Prop} {to : TE} {t : TA} (K : PySem.W.Frag) (p : PE X e (tBM X.K T r to t)) (h : X.K = K := by rfl) : PE X e (tBM K T r to t) := by subst h; exact p
end L2

namespace L2
open PySem
theorem ixq {K : PySem.W.Frag} {H : Hp} {a : Addr} {xs : List V} {k : Int} {v : V} {R : V → Prop} (hs : SqT K H a xs) (ha : atI xs k = some v) (q : R v) : ∃ p ys k' w, V.ref a = .ref p ∧ V.int k = .int k' ∧ SqT K H p ys ∧ atI ys k' = some w ∧ R w := ⟨a, xs, k, v, rfl, rfl, hs, ha, q⟩
theorem ixl {K : PySem.W.Frag} {H : Hp} {a : Addr} {xs : List V} {k : Int} {v : V} {R : V → Prop} (hs : SqL K H a xs) (ha : atI xs k = some v) (q : R v) : ∃ p ys k' w, V.ref a = .ref p ∧ V.int k = .int k' ∧ SqL K H p ys ∧ atI ys k' = some w ∧ R w := ⟨a, xs, k, v, rfl, rfl, hs, ha, q⟩
theorem ijq {i j : Int} {R : Int → Int → Prop} (h : R i j) : ∃ i' j', V.int i = .int i' ∧ V.int j = .int j' ∧ R i' j' := ⟨i, j, rfl, rfl, h⟩
end L2
namespace L2
open PySem
theorem lnq {K : PySem.W.Frag} {H : Hp} {a : Addr} {xs : List V} {E : Addr → Prop} {R : List V → Prop} (e : E a) (h : SqL K H a xs ∨ SqT K H a xs) (q : R xs) : ∃ p ys, E p ∧ (SqL K H p ys ∨ SqT K H p ys) ∧ R ys := ⟨a, xs, e, h, q⟩
theorem exq {α : Type} {A R : α → Prop} {x : α} (h : A x) (r : R x) : ∃ x, A x ∧ R x := ⟨x, h, r⟩
end L2

namespace L2
open PySem PySem.Spec PyProof.Rows
section
variable {P : Program} {w : World} {K : PySem.W.Frag} {mg : Str → Option Value} {base : Heap}
end
end L2

set_option Elab.async false
set_option maxRecDepth 100000
set_option maxHeartbeats 4000000
namespace K24
open PySem L2 Ring
def top (i : Nat) : Stmt := PySem.Challenge.pw_ringbase_k24_whole_what_stands_is_right.main.body.getD i (.Pass ⟨0, 0, 0, 0⟩)
abbrev s_has_tie : Stmt := top 5
theorem sc_has_tie : FnScope ["tie_set", "tie"] ["tie_set", "tie"] (defScope s_has_tie) := ⟨rfl, rfl, rfl, by decide +kernel, rfl, by decide +kernel, by decide +kernel⟩
abbrev s_ties_in : Stmt := top 6
theorem sc_ties_in : FnScope ["tie_set"] ["tie_set"] (defScope s_ties_in) := ⟨rfl, rfl, rfl, by decide +kernel, rfl, by decide +kernel, by decide +kernel⟩
abbrev s_set_of : Stmt := top 7
theorem sc_set_of : FnScope ["web", "ties", "found", "tie"] ["web", "ties"] (defScope s_set_of) := ⟨rfl, rfl, rfl, by decide +kernel, rfl, by decide +kernel, by decide +kernel⟩
theorem hd_set_of {sa0 sa1 sa2 sa3 : TS} {sc0 : TT} {si0 : TI} {sg0 : TG} {D : Ends} {σ : St} {H : Hp} (h : let zz0 : TS := sa0; let zz1 : TS := sa1; let zz2 : TS := sa2; let zz3 : TS := (tSeq (tIfS sc0 zz2 tNext) zz1); let zz4 : TS := (tSeq (tFor si0 sg0 zz3) zz0); (tSeq sa3 zz4) D σ H) : (tSeq sa3 (tSeq (tFor si0 sg0 (tSeq (tIfS sc0 sa2 tNext) sa1)) sa0)) D σ H := h
abbrev s_all_ties : Stmt := top 8
theorem sc_all_ties : FnScope ["web"] ["web"] (defScope s_all_ties) := ⟨rfl, rfl, rfl, by decide +kernel, rfl, by decide +kernel, by decide +kernel⟩
abbrev s_is_set : Stmt := top 9
theorem sc_is_set : FnScope ["web", "number"] ["web", "number"] (defScope s_is_set) := ⟨rfl, rfl, rfl, by decide +kernel, rfl, by decide +kernel, by decide +kernel⟩
abbrev s_check_set : Stmt := top 10
theorem sc_check_set : FnScope ["web", "tie_set"] ["web", "tie_set"] (defScope s_check_set) := ⟨rfl, rfl, rfl, by decide +kernel, rfl, by decide +kernel, by decide +kernel⟩
theorem hd_check_set {sa0 : TS} {sc0 : TT} {D : Ends} {σ : St} {H : Hp} (h : let zz0 : TS := sa0; (tIfS sc0 zz0 tNext) D σ H) : (tIfS sc0 sa0 tNext) D σ H := h
abbrev s_triples_in : Stmt := top 11
theorem sc_triples_in : FnScope ["web", "tie_set"] ["web", "tie_set"] (defScope s_triples_in) := ⟨rfl, rfl, rfl, by decide +kernel, rfl, by decide +kernel, by decide +kernel⟩
theorem hd_triples_in {sa0 sa1 : TS} {D : Ends} {σ : St} {H : Hp} (h : let zz0 : TS := sa0; (tSeq sa1 zz0) D σ H) : (tSeq sa1 sa0) D σ H := h
abbrev s_length_of : Stmt := top 12
theorem sc_length_of : FnScope ["web", "tie_set"] ["web", "tie_set"] (defScope s_length_of) := ⟨rfl, rfl, rfl, by decide +kernel, rfl, by decide +kernel, by decide +kernel⟩
abbrev s_odd_points : Stmt := top 13
theorem sc_odd_points : FnScope ["web", "tie_set", "ends", "one", "other", "length"] ["web", "tie_set"] (defScope s_odd_points) := ⟨rfl, rfl, rfl, by decide +kernel, rfl, by decide +kernel, by decide +kernel⟩
theorem hd_odd_points {sa0 sa1 sa2 sa3 : TS} {si0 : TI} {sg0 : TG} {D : Ends} {σ : St} {H : Hp} (h : let zz0 : TS := sa0; let zz1 : TS := sa1; let zz2 : TS := (tSeq sa2 zz1); let zz3 : TS := (tSeq (tFor si0 sg0 zz2) zz0); (tSeq sa3 zz3) D σ H) : (tSeq sa3 (tSeq (tFor si0 sg0 (tSeq sa2 sa1)) sa0)) D σ H := h
abbrev s_drawn_together : Stmt := top 14
theorem sc_drawn_together : FnScope ["leasts", "one", "other", "low", "high"] ["leasts", "one", "other"] (defScope s_drawn_together) := ⟨rfl, rfl, rfl, by decide +kernel, rfl, by decide +kernel, by decide +kernel⟩
theorem hd_drawn_together {sa0 sa1 sa2 : TS} {D : Ends} {σ : St} {H : Hp} (h : let zz0 : TS := sa0; let zz1 : TS := (tSeq sa1 zz0); (tSeq sa2 zz1) D σ H) : (tSeq sa2 (tSeq sa1 sa0)) D σ H := h
abbrev s_pieces : Stmt := top 15
theorem sc_pieces : FnScope ["web", "tie_set", "leasts", "one", "other", "length", "found", "start"] ["web", "tie_set"] (defScope s_pieces) := ⟨rfl, rfl, rfl, by decide +kernel, rfl, by decide +kernel, by decide +kernel⟩
theorem hd_pieces {sa0 sa1 sa2 sa3 sa4 : TS} {sc0 : TT} {si0 si1 : TI} {sg0 sg1 : TG} {D : Ends} {σ : St} {H : Hp} (h : let zz0 : TS := sa0; let zz1 : TS := sa1; let zz2 : TS := (tIfS sc0 zz1 tNext); let zz3 : TS := (tSeq (tFor si0 sg0 zz2) zz0); let zz4 : TS := (tSeq sa2 zz3); let zz5 : TS := sa3; let zz6 : TS := (tSeq (tFor si1 sg1 zz5) zz4); (tSeq sa4 zz6) D σ H) : (tSeq sa4 (tSeq (tFor si1 sg1 sa3) (tSeq sa2 (tSeq (tFor si0 sg0 (tIfS sc0 sa1 tNext)) sa0)))) D σ H := h
abbrev s_is_even : Stmt := top 17
theorem sc_is_even : FnScope ["web", "tie_set"] ["web", "tie_set"] (defScope s_is_even) := ⟨rfl, rfl, rfl, by decide +kernel, rfl, by decide +kernel, by decide +kernel⟩
abbrev s_is_ring : Stmt := top 19
theorem sc_is_ring : FnScope ["web", "tie_set", "touched"] ["web", "tie_set"] (defScope s_is_ring) := ⟨rfl, rfl, rfl, by decide +kernel, rfl, by decide +kernel, by decide +kernel⟩
theorem hd_is_ring {sa0 sa1 sa2 : TS} {sc0 : TT} {D : Ends} {σ : St} {H : Hp} (h : let zz0 : TS := sa0; let zz1 : TS := (tSeq sa1 zz0); let zz2 : TS := sa2; (tSeq (tIfS sc0 zz2 tNext) zz1) D σ H) : (tSeq (tIfS sc0 sa2 tNext) (tSeq sa1 sa0)) D σ H := h
abbrev s_is_ring_number : Stmt := top 20
theorem sc_is_ring_number : FnScope ["web", "number"] ["web", "number"] (defScope s_is_ring_number) := ⟨rfl, rfl, rfl, by decide +kernel, rfl, by decide +kernel, by decide +kernel⟩
abbrev s_common : Stmt := top 22
theorem sc_common : FnScope ["one", "other"] ["one", "other"] (defScope s_common) := ⟨rfl, rfl, rfl, by decide +kernel, rfl, by decide +kernel, by decide +kernel⟩
abbrev s_bears_oddly : Stmt := top 23
theorem sc_bears_oddly : FnScope ["tie_set", "marks"] ["tie_set", "marks"] (defScope s_bears_oddly) := ⟨rfl, rfl, rfl, by decide +kernel, rfl, by decide +kernel, by decide +kernel⟩
abbrev s_is_side : Stmt := top 24
theorem sc_is_side : FnScope ["web", "side", "ahead", "point"] ["web", "side"] (defScope s_is_side) := ⟨rfl, rfl, rfl, by decide +kernel, rfl, by decide +kernel, by decide +kernel⟩
theorem hd_is_side {sa0 sa1 sa2 sa3 : TS} {sc0 : TT} {si0 : TI} {sg0 : TG} {D : Ends} {σ : St} {H : Hp} (h : let zz0 : TS := sa0; let zz1 : TS := sa1; let zz2 : TS := sa2; let zz3 : TS := (tSeq (tIfS sc0 zz2 tNext) zz1); let zz4 : TS := (tSeq (tFor si0 sg0 zz3) zz0); (tSeq sa3 zz4) D σ H) : (tSeq sa3 (tSeq (tFor si0 sg0 (tSeq (tIfS sc0 sa2 tNext) sa1)) sa0)) D σ H := h
abbrev s_cut_of : Stmt := top 25
theorem sc_cut_of : FnScope ["web", "side"] ["web", "side"] (defScope s_cut_of) := ⟨rfl, rfl, rfl, by decide +kernel, rfl, by decide +kernel, by decide +kernel⟩
theorem hd_cut_of {sa0 sa1 : TS} {sc0 : TT} {D : Ends} {σ : St} {H : Hp} (h : let zz0 : TS := sa0; let zz1 : TS := sa1; (tSeq (tIfS sc0 zz1 tNext) zz0) D σ H) : (tSeq (tIfS sc0 sa1 tNext) sa0) D σ H := h
abbrev s_is_side_of : Stmt := top 26
theorem sc_is_side_of : FnScope ["web", "side", "tie_set"] ["web", "side", "tie_set"] (defScope s_is_side_of) := ⟨rfl, rfl, rfl, by decide +kernel, rfl, by decide +kernel, by decide +kernel⟩
abbrev s_near_enough : Stmt := top 28
theorem sc_near_enough : FnScope ["one", "other", "length"] ["one", "other", "length"] (defScope s_near_enough) := ⟨rfl, rfl, rfl, by decide +kernel, rfl, by decide +kernel, by decide +kernel⟩
theorem hd_near_enough {sa0 sa1 : TS} {sc0 : TT} {D : Ends} {σ : St} {H : Hp} (h : let zz0 : TS := sa0; let zz1 : TS := sa1; (tSeq (tIfS sc0 zz1 tNext) zz0) D σ H) : (tSeq (tIfS sc0 sa1 tNext) sa0) D σ H := h
abbrev s_tie_stands : Stmt := top 29
theorem sc_tie_stands : FnScope ["tie", "turn", "worths", "here", "there"] ["tie", "turn", "worths"] (defScope s_tie_stands) := ⟨rfl, rfl, rfl, by decide +kernel, rfl, by decide +kernel, by decide +kernel⟩
theorem hd_tie_stands {sa0 sa1 sa2 : TS} {D : Ends} {σ : St} {H : Hp} (h : let zz0 : TS := sa0; let zz1 : TS := (tSeq sa1 zz0); (tSeq sa2 zz1) D σ H) : (tSeq sa2 (tSeq sa1 sa0)) D σ H := h
abbrev s_worths_stand : Stmt := top 30
theorem sc_worths_stand : FnScope ["web", "marks", "worths", "point", "place", "tie"] ["web", "marks", "worths"] (defScope s_worths_stand) := ⟨rfl, rfl, rfl, by decide +kernel, rfl, by decide +kernel, by decide +kernel⟩
theorem hd_worths_stand {sa0 sa1 sa2 sa3 : TS} {sc0 sc1 : TT} {si0 si1 : TI} {sg0 sg1 : TG} {D : Ends} {σ : St} {H : Hp} (h : let zz0 : TS := sa0; let zz1 : TS := sa1; let zz2 : TS := (tIfS sc0 zz1 tNext); let zz3 : TS := (tFor si1 sg1 zz2); let zz4 : TS := sa2; let zz5 : TS := (tSeq (tIfS sc1 zz4 tNext) zz3); let zz6 : TS := (tSeq (tFor si0 sg0 zz5) zz0); (tSeq sa3 zz6) D σ H) : (tSeq sa3 (tSeq (tFor si0 sg0 (tSeq (tIfS sc1 sa2 tNext) (tFor si1 sg1 (tIfS sc0 sa1 tNext)))) sa0)) D σ H := h
abbrev s_none_shorter : Stmt := top 31
theorem sc_none_shorter : FnScope ["worths", "length", "rounds"] ["worths", "length"] (defScope s_none_shorter) := ⟨rfl, rfl, rfl, by decide +kernel, rfl, by decide +kernel, by decide +kernel⟩
theorem hd_none_shorter {sa0 sa1 : TS} {D : Ends} {σ : St} {H : Hp} (h : let zz0 : TS := sa0; (tSeq sa1 zz0) D σ H) : (tSeq sa1 sa0) D σ H := h
abbrev s_ring_stands : Stmt := top 32
theorem sc_ring_stands : FnScope ["web", "marks", "ring", "worths"] ["web", "marks", "ring", "worths"] (defScope s_ring_stands) := ⟨rfl, rfl, rfl, by decide +kernel, rfl, by decide +kernel, by decide +kernel⟩
theorem hd_ring_stands {sa0 sa1 : TS} {sc0 : TT} {D : Ends} {σ : St} {H : Hp} (h : let zz0 : TS := sa0; let zz1 : TS := sa1; (tSeq (tIfS sc0 zz1 tNext) zz0) D σ H) : (tSeq (tIfS sc0 sa1 tNext) sa0) D σ H := h
abbrev s_odd_judged : Stmt := top 33
theorem sc_odd_judged : FnScope ["web", "marks", "answer"] ["web", "marks", "answer"] (defScope s_odd_judged) := ⟨rfl, rfl, rfl, by decide +kernel, rfl, by decide +kernel, by decide +kernel⟩
theorem hd_odd_judged {sa0 sa1 sa2 : TS} {sc0 : TT} {D : Ends} {σ : St} {H : Hp} (h : let zz0 : TS := sa0; let zz1 : TS := sa1; let zz2 : TS := (tSeq (tIfS sc0 zz1 tNext) zz0); (tSeq sa2 zz2) D σ H) : (tSeq sa2 (tSeq (tIfS sc0 sa1 tNext) sa0)) D σ H := h
abbrev s_law_cell_at : Stmt := top 35
theorem sc_law_cell_at : FnScope ["script", "k"] ["script", "k"] (defScope s_law_cell_at) := ⟨rfl, rfl, rfl, by decide +kernel, rfl, by decide +kernel, by decide +kernel⟩
theorem hd_law_cell_at {sa0 sa1 : TS} {sc0 : TT} {D : Ends} {σ : St} {H : Hp} (h : let zz0 : TS := sa0; let zz1 : TS := sa1; (tSeq (tIfS sc0 zz1 tNext) zz0) D σ H) : (tSeq (tIfS sc0 sa1 tNext) sa0) D σ H := h
abbrev s_law_left : Stmt := top 36
theorem sc_law_left : FnScope ["cell", "k", "way", "stir"] ["cell", "k", "way"] (defScope s_law_left) := ⟨rfl, rfl, rfl, by decide +kernel, rfl, by decide +kernel, by decide +kernel⟩
theorem hd_law_left {sa0 sa1 sa2 : TS} {sc0 : TT} {D : Ends} {σ : St} {H : Hp} (h : let zz0 : TS := sa0; let zz1 : TS := (tSeq sa1 zz0); let zz2 : TS := sa2; (tSeq (tIfS sc0 zz2 tNext) zz1) D σ H) : (tSeq (tIfS sc0 sa2 tNext) (tSeq sa1 sa0)) D σ H := h
abbrev s_law_tie : Stmt := top 37
theorem sc_law_tie : FnScope ["left", "points", "mode", "one", "other"] ["left", "points", "mode"] (defScope s_law_tie) := ⟨rfl, rfl, rfl, by decide +kernel, rfl, by decide +kernel, by decide +kernel⟩
theorem hd_law_tie {sa0 sa1 sa2 sa3 sa4 : TS} {D : Ends} {σ : St} {H : Hp} (h : let zz0 : TS := sa0; let zz1 : TS := (tSeq sa1 zz0); let zz2 : TS := (tSeq sa2 zz1); let zz3 : TS := (tSeq sa3 zz2); (tSeq sa4 zz3) D σ H) : (tSeq sa4 (tSeq sa3 (tSeq sa2 (tSeq sa1 sa0)))) D σ H := h
abbrev s_law_web : Stmt := top 38
theorem sc_law_web : FnScope ["script", "most_points", "most_ties", "way", "left", "points", "mode", "cells", "k", "ties"] ["script", "most_points", "most_ties"] (defScope s_law_web) := ⟨rfl, rfl, rfl, by decide +kernel, rfl, by decide +kernel, by decide +kernel⟩
theorem hd_law_web {sa0 sa1 sa2 sa3 sa4 sa5 sa6 sa7 sa8 sa9 : TS} {sc0 : TT} {si0 si1 : TI} {sg0 sg1 : TG} {D : Ends} {σ : St} {H : Hp} (h : let zz0 : TS := sa0; let zz1 : TS := sa1; let zz2 : TS := (tSeq (tFor si0 sg0 zz1) zz0); let zz3 : TS := (tSeq sa2 zz2); let zz4 : TS := sa3; let zz5 : TS := (tSeq (tIfS sc0 zz4 tNext) zz3); let zz6 : TS := sa4; let zz7 : TS := (tSeq (tFor si1 sg1 zz6) zz5); let zz8 : TS := (tSeq sa5 zz7); let zz9 : TS := (tSeq sa6 zz8); let zz10 : TS := (tSeq sa7 zz9); let zz11 : TS := (tSeq sa8 zz10); (tSeq sa9 zz11) D σ H) : (tSeq sa9 (tSeq sa8 (tSeq sa7 (tSeq sa6 (tSeq sa5 (tSeq (tFor si1 sg1 sa4) (tSeq (tIfS sc0 sa3 tNext) (tSeq sa2 (tSeq (tFor si0 sg0 sa1) sa0))))))))) D σ H := h
abbrev s_law_walk : Stmt := top 39
theorem sc_law_walk : FnScope ["web", "some", "ends", "ties", "k", "start", "at", "walk", "tie"] ["web", "some"] (defScope s_law_walk) := ⟨rfl, rfl, rfl, by decide +kernel, rfl, by decide +kernel, by decide +kernel⟩
theorem hd_law_walk {sa0 sa1 sa2 sa3 sa4 sa5 sa6 sa7 sa8 sa9 sa10 sa11 sa12 sa13 : TS} {sc0 sc1 sc2 sc3 : TT} {si0 : TI} {sg0 : TG} {D : Ends} {σ : St} {H : Hp} (h : let zz0 : TS := sa0; let zz1 : TS := sa1; let zz2 : TS := (tSeq (tIfS sc0 zz1 tNext) zz0); let zz3 : TS := sa2; let zz4 : TS := sa4; let zz5 : TS := (tSeq sa3 zz3); let zz6 : TS := (tSeq sa5 zz4); let zz7 : TS := (tIfS sc2 zz5 zz6); let zz8 : TS := (tSeq sa6 zz7); let zz9 : TS := (tSeq (tWhile sc1 zz8) zz2); let zz10 : TS := (tSeq sa7 zz9); let zz11 : TS := (tSeq sa8 zz10); let zz12 : TS := sa9; let zz13 : TS := (tSeq (tIfS sc3 zz12 tNext) zz11); let zz14 : TS := sa10; let zz15 : TS := (tSeq sa11 zz14); let zz16 : TS := (tSeq (tFor si0 sg0 zz15) zz13); let zz17 : TS := (tSeq sa12 zz16); (tSeq sa13 zz17) D σ H) : (tSeq sa13 (tSeq sa12 (tSeq (tFor si0 sg0 (tSeq sa11 sa10)) (tSeq (tIfS sc3 sa9 tNext) (tSeq sa8 (tSeq sa7 (tSeq (tWhile sc1 (tSeq sa6 (tIfS sc2 (tSeq sa3 sa2) (tSeq sa5 sa4)))) (tSeq (tIfS sc0 sa1 tNext) sa0)))))))) D σ H := h
abbrev s_law_least : Stmt := top 40
theorem sc_law_least : FnScope ["one", "more"] ["one", "more"] (defScope s_law_least) := ⟨rfl, rfl, rfl, by decide +kernel, rfl, by decide +kernel, by decide +kernel⟩
theorem hd_law_least {sa0 sa1 : TS} {sc0 : TT} {D : Ends} {σ : St} {H : Hp} (h : let zz0 : TS := sa0; let zz1 : TS := sa1; (tSeq (tIfS sc0 zz1 tNext) zz0) D σ H) : (tSeq (tIfS sc0 sa1 tNext) sa0) D σ H := h
abbrev s_law_worths : Stmt := top 41
theorem sc_law_worths : FnScope ["web", "marks", "point", "far", "turn", "k", "one", "other", "length", "bit", "a", "b", "s"] ["web", "marks", "point"] (defScope s_law_worths) := ⟨rfl, rfl, rfl, by decide +kernel, rfl, by decide +kernel, by decide +kernel⟩
theorem hd_law_worths {sa0 sa1 sa2 sa3 sa4 sa5 : TS} {sc0 : TT} {si0 si1 si2 si3 : TI} {sg0 sg1 sg2 sg3 : TG} {D : Ends} {σ : St} {H : Hp} (h : let zz0 : TS := sa0; let zz1 : TS := sa1; let zz2 : TS := (tIfS sc0 zz1 tNext); let zz3 : TS := (tFor si3 sg3 zz2); let zz4 : TS := (tFor si2 sg2 zz3); let zz5 : TS := (tSeq sa2 zz4); let zz6 : TS := (tSeq sa3 zz5); let zz7 : TS := (tFor si1 sg1 zz6); let zz8 : TS := (tSeq (tFor si0 sg0 zz7) zz0); let zz9 : TS := (tSeq sa4 zz8); (tSeq sa5 zz9) D σ H) : (tSeq sa5 (tSeq sa4 (tSeq (tFor si0 sg0 (tFor si1 sg1 (tSeq sa3 (tSeq sa2 (tFor si2 sg2 (tFor si3 sg3 (tIfS sc0 sa1 tNext))))))) sa0))) D σ H := h
abbrev s_law_length : Stmt := top 42
theorem sc_law_length : FnScope ["web", "some"] ["web", "some"] (defScope s_law_length) := ⟨rfl, rfl, rfl, by decide +kernel, rfl, by decide +kernel, by decide +kernel⟩
abbrev s_law_odd : Stmt := top 43
theorem sc_law_odd : FnScope ["number", "odd"] ["number"] (defScope s_law_odd) := ⟨rfl, rfl, rfl, by decide +kernel, rfl, by decide +kernel, by decide +kernel⟩
theorem hd_law_odd {sa0 sa1 sa2 sa3 : TS} {sc0 : TT} {D : Ends} {σ : St} {H : Hp} (h : let zz0 : TS := sa0; let zz1 : TS := sa1; let zz2 : TS := (tSeq sa2 zz1); let zz3 : TS := (tSeq (tWhile sc0 zz2) zz0); (tSeq sa3 zz3) D σ H) : (tSeq sa3 (tSeq (tWhile sc0 (tSeq sa2 sa1)) sa0)) D σ H := h
abbrev s_law_nearest : Stmt := top 44
theorem sc_law_nearest : FnScope ["web", "marks", "least", "some"] ["web", "marks"] (defScope s_law_nearest) := ⟨rfl, rfl, rfl, by decide +kernel, rfl, by decide +kernel, by decide +kernel⟩
theorem hd_law_nearest {sa0 sa1 sa2 : TS} {sc0 : TT} {si0 : TI} {sg0 : TG} {D : Ends} {σ : St} {H : Hp} (h : let zz0 : TS := sa0; let zz1 : TS := sa1; let zz2 : TS := (tIfS sc0 zz1 tNext); let zz3 : TS := (tSeq (tFor si0 sg0 zz2) zz0); (tSeq sa2 zz3) D σ H) : (tSeq sa2 (tSeq (tFor si0 sg0 (tIfS sc0 sa1 tNext)) sa0)) D σ H := h
abbrev s_law_cut : Stmt := top 45
theorem sc_law_cut : FnScope ["web", "side", "made", "k"] ["web", "side"] (defScope s_law_cut) := ⟨rfl, rfl, rfl, by decide +kernel, rfl, by decide +kernel, by decide +kernel⟩
theorem hd_law_cut {sa0 sa1 sa2 : TS} {sc0 : TT} {si0 : TI} {sg0 : TG} {D : Ends} {σ : St} {H : Hp} (h : let zz0 : TS := sa0; let zz1 : TS := sa1; let zz2 : TS := (tIfS sc0 zz1 tNext); let zz3 : TS := (tSeq (tFor si0 sg0 zz2) zz0); (tSeq sa2 zz3) D σ H) : (tSeq sa2 (tSeq (tFor si0 sg0 (tIfS sc0 sa1 tNext)) sa0)) D σ H := h
abbrev s_law_lowered : Stmt := top 47
theorem sc_law_lowered : FnScope ["web", "worths", "left", "made", "point", "row", "other", "less", "pair"] ["web", "worths", "left"] (defScope s_law_lowered) := ⟨rfl, rfl, rfl, by decide +kernel, rfl, by decide +kernel, by decide +kernel⟩
theorem hd_law_lowered {sa0 sa1 sa2 sa3 sa4 sa5 sa6 sa7 : TS} {si0 si1 : TI} {sg0 sg1 : TG} {D : Ends} {σ : St} {H : Hp} (h : let zz0 : TS := sa0; let zz1 : TS := sa1; let zz2 : TS := sa2; let zz3 : TS := (tSeq sa3 zz2); let zz4 : TS := (tSeq sa4 zz3); let zz5 : TS := (tSeq sa5 zz4); let zz6 : TS := (tSeq (tFor si1 sg1 zz5) zz1); let zz7 : TS := (tSeq sa6 zz6); let zz8 : TS := (tSeq (tFor si0 sg0 zz7) zz0); (tSeq sa7 zz8) D σ H) : (tSeq sa7 (tSeq (tFor si0 sg0 (tSeq sa6 (tSeq (tFor si1 sg1 (tSeq sa5 (tSeq sa4 (tSeq sa3 sa2)))) sa1))) sa0)) D σ H := h
abbrev s_law_any : Stmt := top 48
theorem sc_law_any : FnScope ["web", "left", "made", "point", "row", "other", "stir", "odd"] ["web", "left"] (defScope s_law_any) := ⟨rfl, rfl, rfl, by decide +kernel, rfl, by decide +kernel, by decide +kernel⟩
theorem hd_law_any {sa0 sa1 sa2 sa3 sa4 sa5 sa6 sa7 : TS} {sc0 : TT} {si0 si1 : TI} {sg0 sg1 : TG} {D : Ends} {σ : St} {H : Hp} (h : let zz0 : TS := sa0; let zz1 : TS := sa1; let zz2 : TS := sa2; let zz3 : TS := sa3; let zz4 : TS := (tSeq (tIfS sc0 zz3 tNext) zz2); let zz5 : TS := (tSeq sa4 zz4); let zz6 : TS := (tSeq sa5 zz5); let zz7 : TS := (tSeq (tFor si1 sg1 zz6) zz1); let zz8 : TS := (tSeq sa6 zz7); let zz9 : TS := (tSeq (tFor si0 sg0 zz8) zz0); (tSeq sa7 zz9) D σ H) : (tSeq sa7 (tSeq (tFor si0 sg0 (tSeq sa6 (tSeq (tFor si1 sg1 (tSeq sa5 (tSeq sa4 (tSeq (tIfS sc0 sa3 tNext) sa2)))) sa1))) sa0)) D σ H := h
abbrev s_law_raised : Stmt := top 49
theorem sc_law_raised : FnScope ["worths", "more"] ["worths", "more"] (defScope s_law_raised) := ⟨rfl, rfl, rfl, by decide +kernel, rfl, by decide +kernel, by decide +kernel⟩
abbrev s_law_tried : Stmt := top 50
theorem sc_law_tried : FnScope ["web", "worths", "script", "tried", "k", "cell"] ["web", "worths", "script"] (defScope s_law_tried) := ⟨rfl, rfl, rfl, by decide +kernel, rfl, by decide +kernel, by decide +kernel⟩
theorem hd_law_tried {sa0 sa1 sa2 sa3 : TS} {si0 : TI} {sg0 : TG} {D : Ends} {σ : St} {H : Hp} (h : let zz0 : TS := sa0; let zz1 : TS := sa1; let zz2 : TS := (tSeq sa2 zz1); let zz3 : TS := (tSeq (tFor si0 sg0 zz2) zz0); (tSeq sa3 zz3) D σ H) : (tSeq sa3 (tSeq (tFor si0 sg0 (tSeq sa2 sa1)) sa0)) D σ H := h
abbrev s_law : Stmt := top 51
theorem sc_law : FnScope ["script", "web", "left", "marks", "worths", "least", "rings", "tried", "ring", "near", "some", "k", "side"] ["script"] (defScope s_law) := ⟨rfl, rfl, rfl, by decide +kernel, rfl, by decide +kernel, by decide +kernel⟩
theorem hd_law {sa0 sa1 sa2 sa3 sa4 sa5 sa6 sa7 sa8 sa9 sa10 sa11 sa12 : TS} {sc0 sc1 sc2 sc3 : TT} {si0 si1 si2 : TI} {sg0 sg1 sg2 : TG} {D : Ends} {σ : St} {H : Hp} (h : let zz0 : TS := sa0; let zz1 : TS := sa1; let zz2 : TS := (tIfS sc0 zz1 tNext); let zz3 : TS := sa2; let zz4 : TS := (tSeq (tIfS sc1 zz3 tNext) zz2); let zz5 : TS := (tSeq sa3 zz4); let zz6 : TS := (tSeq (tFor si0 sg0 zz5) zz0); let zz7 : TS := sa4; let zz8 : TS := (tIfS sc2 zz7 tNext); let zz9 : TS := (tFor si2 sg2 zz8); let zz10 : TS := sa5; let zz11 : TS := (tSeq (tIfS sc3 zz10 tNext) zz9); let zz12 : TS := (tSeq sa6 zz11); let zz13 : TS := (tSeq (tFor si1 sg1 zz12) zz6); let zz14 : TS := (tSeq sa7 zz13); let zz15 : TS := (tSeq sa8 zz14); let zz16 : TS := (tSeq sa9 zz15); let zz17 : TS := (tSeq sa10 zz16); let zz18 : TS := (tSeq sa11 zz17); (tSeq sa12 zz18) D σ H) : (tSeq sa12 (tSeq sa11 (tSeq sa10 (tSeq sa9 (tSeq sa8 (tSeq sa7 (tSeq (tFor si1 sg1 (tSeq sa6 (tSeq (tIfS sc3 sa5 tNext) (tFor si2 sg2 (tIfS sc2 sa4 tNext))))) (tSeq (tFor si0 sg0 (tSeq sa3 (tSeq (tIfS sc1 sa2 tNext) (tIfS sc0 sa1 tNext)))) sa0)))))))) D σ H := h
set_option genInjectivity false
set_option genSizeOf false
structure Adr where
  f_has_tie : Addr
  d_has_tie : FuncData
  f_ties_in : Addr
  d_ties_in : FuncData
  f_set_of : Addr
  d_set_of : FuncData
  f_all_ties : Addr
  d_all_ties : FuncData
  f_is_set : Addr
  d_is_set : FuncData
  f_check_set : Addr
  d_check_set : FuncData
  f_triples_in : Addr
  d_triples_in : FuncData
  f_length_of : Addr
  d_length_of : FuncData
  f_odd_points : Addr
  d_odd_points : FuncData
  f_drawn_together : Addr
  d_drawn_together : FuncData
  f_pieces : Addr
  d_pieces : FuncData
  f_is_even : Addr
  d_is_even : FuncData
  f_is_ring : Addr
  d_is_ring : FuncData
  f_is_ring_number : Addr
  d_is_ring_number : FuncData
  f_common : Addr
  d_common : FuncData
  f_bears_oddly : Addr
  d_bears_oddly : FuncData
  f_is_side : Addr
  d_is_side : FuncData
  f_cut_of : Addr
  d_cut_of : FuncData
  f_is_side_of : Addr
  d_is_side_of : FuncData
  f_near_enough : Addr
  d_near_enough : FuncData
  f_tie_stands : Addr
  d_tie_stands : FuncData
  f_worths_stand : Addr
  d_worths_stand : FuncData
  f_none_shorter : Addr
  d_none_shorter : FuncData
  f_ring_stands : Addr
  d_ring_stands : FuncData
  f_odd_judged : Addr
  d_odd_judged : FuncData
  f_law_cell_at : Addr
  d_law_cell_at : FuncData
  f_law_left : Addr
  d_law_left : FuncData
  f_law_tie : Addr
  d_law_tie : FuncData
  f_law_web : Addr
  d_law_web : FuncData
  f_law_walk : Addr
  d_law_walk : FuncData
  f_law_least : Addr
  d_law_least : FuncData
  f_law_worths : Addr
  d_law_worths : FuncData
  f_law_length : Addr
  d_law_length : FuncData
  f_law_odd : Addr
  d_law_odd : FuncData
  f_law_nearest : Addr
  d_law_nearest : FuncData
  f_law_cut : Addr
  d_law_cut : FuncData
  f_law_lowered : Addr
  d_law_lowered : FuncData
  f_law_any : Addr
  d_law_any : FuncData
  f_law_raised : Addr
  d_law_raised : FuncData
  f_law_tried : Addr
  d_law_tried : FuncData
  f_law : Addr
  d_law : FuncData
  c_BadSet : Addr
  c_BadPoint : Addr
structure Txt (K : PySem.W.Frag) (mg : Str → Option Value) (a : Adr) : Prop where
  F_has_tie : Fun K "has_tie" "has_tie" s_has_tie a.f_has_tie a.d_has_tie
  m_has_tie : mg "has_tie" = some (.ref a.f_has_tie)
  b_has_tie : Binds K a.d_has_tie ["tie_set", "tie"] []
  F_ties_in : Fun K "ties_in" "ties_in" s_ties_in a.f_ties_in a.d_ties_in
  m_ties_in : mg "ties_in" = some (.ref a.f_ties_in)
  b_ties_in : Binds K a.d_ties_in ["tie_set"] []
  F_set_of : Fun K "set_of" "set_of" s_set_of a.f_set_of a.d_set_of
  m_set_of : mg "set_of" = some (.ref a.f_set_of)
  b_set_of : Binds K a.d_set_of ["web", "ties"] []
  F_all_ties : Fun K "all_ties" "all_ties" s_all_ties a.f_all_ties a.d_all_ties
  m_all_ties : mg "all_ties" = some (.ref a.f_all_ties)
  b_all_ties : Binds K a.d_all_ties ["web"] []
  F_is_set : Fun K "is_set" "is_set" s_is_set a.f_is_set a.d_is_set
  m_is_set : mg "is_set" = some (.ref a.f_is_set)
  b_is_set : Binds K a.d_is_set ["web", "number"] []
  F_check_set : Fun K "check_set" "check_set" s_check_set a.f_check_set a.d_check_set
  m_check_set : mg "check_set" = some (.ref a.f_check_set)
  b_check_set : Binds K a.d_check_set ["web", "tie_set"] []
  F_triples_in : Fun K "triples_in" "triples_in" s_triples_in a.f_triples_in a.d_triples_in
  m_triples_in : mg "triples_in" = some (.ref a.f_triples_in)
  b_triples_in : Binds K a.d_triples_in ["web", "tie_set"] []
  F_length_of : Fun K "length_of" "length_of" s_length_of a.f_length_of a.d_length_of
  m_length_of : mg "length_of" = some (.ref a.f_length_of)
  b_length_of : Binds K a.d_length_of ["web", "tie_set"] []
  F_odd_points : Fun K "odd_points" "odd_points" s_odd_points a.f_odd_points a.d_odd_points
  m_odd_points : mg "odd_points" = some (.ref a.f_odd_points)
  b_odd_points : Binds K a.d_odd_points ["web", "tie_set"] []
  F_drawn_together : Fun K "drawn_together" "drawn_together" s_drawn_together a.f_drawn_together a.d_drawn_together
  m_drawn_together : mg "drawn_together" = some (.ref a.f_drawn_together)
  b_drawn_together : Binds K a.d_drawn_together ["leasts", "one", "other"] []
  F_pieces : Fun K "pieces" "pieces" s_pieces a.f_pieces a.d_pieces
  m_pieces : mg "pieces" = some (.ref a.f_pieces)
  b_pieces : Binds K a.d_pieces ["web", "tie_set"] []
  F_is_even : Fun K "is_even" "is_even" s_is_even a.f_is_even a.d_is_even
  m_is_even : mg "is_even" = some (.ref a.f_is_even)
  b_is_even : Binds K a.d_is_even ["web", "tie_set"] []
  F_is_ring : Fun K "is_ring" "is_ring" s_is_ring a.f_is_ring a.d_is_ring
  m_is_ring : mg "is_ring" = some (.ref a.f_is_ring)
  b_is_ring : Binds K a.d_is_ring ["web", "tie_set"] []
  F_is_ring_number : Fun K "is_ring_number" "is_ring_number" s_is_ring_number a.f_is_ring_number a.d_is_ring_number
  m_is_ring_number : mg "is_ring_number" = some (.ref a.f_is_ring_number)
  b_is_ring_number : Binds K a.d_is_ring_number ["web", "number"] []
  F_common : Fun K "common" "common" s_common a.f_common a.d_common
  m_common : mg "common" = some (.ref a.f_common)
  b_common : Binds K a.d_common ["one", "other"] []
  F_bears_oddly : Fun K "bears_oddly" "bears_oddly" s_bears_oddly a.f_bears_oddly a.d_bears_oddly
  m_bears_oddly : mg "bears_oddly" = some (.ref a.f_bears_oddly)
  b_bears_oddly : Binds K a.d_bears_oddly ["tie_set", "marks"] []
  F_is_side : Fun K "is_side" "is_side" s_is_side a.f_is_side a.d_is_side
  m_is_side : mg "is_side" = some (.ref a.f_is_side)
  b_is_side : Binds K a.d_is_side ["web", "side"] []
  F_cut_of : Fun K "cut_of" "cut_of" s_cut_of a.f_cut_of a.d_cut_of
  m_cut_of : mg "cut_of" = some (.ref a.f_cut_of)
  b_cut_of : Binds K a.d_cut_of ["web", "side"] []
  F_is_side_of : Fun K "is_side_of" "is_side_of" s_is_side_of a.f_is_side_of a.d_is_side_of
  m_is_side_of : mg "is_side_of" = some (.ref a.f_is_side_of)
  b_is_side_of : Binds K a.d_is_side_of ["web", "side", "tie_set"] []
  F_near_enough : Fun K "near_enough" "near_enough" s_near_enough a.f_near_enough a.d_near_enough
  m_near_enough : mg "near_enough" = some (.ref a.f_near_enough)
  b_near_enough : Binds K a.d_near_enough ["one", "other", "length"] []
  F_tie_stands : Fun K "tie_stands" "tie_stands" s_tie_stands a.f_tie_stands a.d_tie_stands
  m_tie_stands : mg "tie_stands" = some (.ref a.f_tie_stands)
  b_tie_stands : Binds K a.d_tie_stands ["tie", "turn", "worths"] []
  F_worths_stand : Fun K "worths_stand" "worths_stand" s_worths_stand a.f_worths_stand a.d_worths_stand
  m_worths_stand : mg "worths_stand" = some (.ref a.f_worths_stand)
  b_worths_stand : Binds K a.d_worths_stand ["web", "marks", "worths"] []
  F_none_shorter : Fun K "none_shorter" "none_shorter" s_none_shorter a.f_none_shorter a.d_none_shorter
  m_none_shorter : mg "none_shorter" = some (.ref a.f_none_shorter)
  b_none_shorter : Binds K a.d_none_shorter ["worths", "length"] []
  F_ring_stands : Fun K "ring_stands" "ring_stands" s_ring_stands a.f_ring_stands a.d_ring_stands
  m_ring_stands : mg "ring_stands" = some (.ref a.f_ring_stands)
  b_ring_stands : Binds K a.d_ring_stands ["web", "marks", "ring", "worths"] []
  F_odd_judged : Fun K "odd_judged" "odd_judged" s_odd_judged a.f_odd_judged a.d_odd_judged
  m_odd_judged : mg "odd_judged" = some (.ref a.f_odd_judged)
  b_odd_judged : Binds K a.d_odd_judged ["web", "marks", "answer"] []
  F_law_cell_at : Fun K "_law_cell_at" "_law_cell_at" s_law_cell_at a.f_law_cell_at a.d_law_cell_at
  m_law_cell_at : mg "_law_cell_at" = some (.ref a.f_law_cell_at)
  b_law_cell_at : Binds K a.d_law_cell_at ["script", "k"] []
  F_law_left : Fun K "_law_left" "_law_left" s_law_left a.f_law_left a.d_law_left
  m_law_left : mg "_law_left" = some (.ref a.f_law_left)
  b_law_left : Binds K a.d_law_left ["cell", "k", "way"] []
  F_law_tie : Fun K "_law_tie" "_law_tie" s_law_tie a.f_law_tie a.d_law_tie
  m_law_tie : mg "_law_tie" = some (.ref a.f_law_tie)
  b_law_tie : Binds K a.d_law_tie ["left", "points", "mode"] []
  F_law_web : Fun K "_law_web" "_law_web" s_law_web a.f_law_web a.d_law_web
  m_law_web : mg "_law_web" = some (.ref a.f_law_web)
  b_law_web : Binds K a.d_law_web ["script", "most_points", "most_ties"] []
  F_law_walk : Fun K "_law_walk" "_law_walk" s_law_walk a.f_law_walk a.d_law_walk
  m_law_walk : mg "_law_walk" = some (.ref a.f_law_walk)
  b_law_walk : Binds K a.d_law_walk ["web", "some"] []
  F_law_least : Fun K "_law_least" "_law_least" s_law_least a.f_law_least a.d_law_least
  m_law_least : mg "_law_least" = some (.ref a.f_law_least)
  b_law_least : Binds K a.d_law_least ["one", "more"] []
  F_law_worths : Fun K "_law_worths" "_law_worths" s_law_worths a.f_law_worths a.d_law_worths
  m_law_worths : mg "_law_worths" = some (.ref a.f_law_worths)
  b_law_worths : Binds K a.d_law_worths ["web", "marks", "point"] []
  F_law_length : Fun K "_law_length" "_law_length" s_law_length a.f_law_length a.d_law_length
  m_law_length : mg "_law_length" = some (.ref a.f_law_length)
  b_law_length : Binds K a.d_law_length ["web", "some"] []
  F_law_odd : Fun K "_law_odd" "_law_odd" s_law_odd a.f_law_odd a.d_law_odd
  m_law_odd : mg "_law_odd" = some (.ref a.f_law_odd)
  b_law_odd : Binds K a.d_law_odd ["number"] []
  F_law_nearest : Fun K "_law_nearest" "_law_nearest" s_law_nearest a.f_law_nearest a.d_law_nearest
  m_law_nearest : mg "_law_nearest" = some (.ref a.f_law_nearest)
  b_law_nearest : Binds K a.d_law_nearest ["web", "marks"] []
  F_law_cut : Fun K "_law_cut" "_law_cut" s_law_cut a.f_law_cut a.d_law_cut
  m_law_cut : mg "_law_cut" = some (.ref a.f_law_cut)
  b_law_cut : Binds K a.d_law_cut ["web", "side"] []
  F_law_lowered : Fun K "_law_lowered" "_law_lowered" s_law_lowered a.f_law_lowered a.d_law_lowered
  m_law_lowered : mg "_law_lowered" = some (.ref a.f_law_lowered)
  b_law_lowered : Binds K a.d_law_lowered ["web", "worths", "left"] []
  F_law_any : Fun K "_law_any" "_law_any" s_law_any a.f_law_any a.d_law_any
  m_law_any : mg "_law_any" = some (.ref a.f_law_any)
  b_law_any : Binds K a.d_law_any ["web", "left"] []
  F_law_raised : Fun K "_law_raised" "_law_raised" s_law_raised a.f_law_raised a.d_law_raised
  m_law_raised : mg "_law_raised" = some (.ref a.f_law_raised)
  b_law_raised : Binds K a.d_law_raised ["worths", "more"] []
  F_law_tried : Fun K "_law_tried" "_law_tried" s_law_tried a.f_law_tried a.d_law_tried
  m_law_tried : mg "_law_tried" = some (.ref a.f_law_tried)
  b_law_tried : Binds K a.d_law_tried ["web", "worths", "script"] []
  F_law : Fun K "law" "law" s_law a.f_law a.d_law
  m_law : mg "law" = some (.ref a.f_law)
  b_law : Binds K a.d_law ["script"] []
  n_ValueError : mg "ValueError" = none
  n_abs : mg "abs" = none
  n_all : mg "all" = none
  n_enumerate : mg "enumerate" = none
  n_int : mg "int" = none
  n_len : mg "len" = none
  n_list : mg "list" = none
  n_max : mg "max" = none
  n_min : mg "min" = none
  n_range : mg "range" = none
  n_sum : mg "sum" = none
  n_tuple : mg "tuple" = none
  g_BadSet : mg "BadSet" = some (.ref a.c_BadSet)
  g_BadPoint : mg "BadPoint" = some (.ref a.c_BadPoint)
  x_BadSet : ∀ h : Heap, K.In h → h.Ns mainGlobals mg → PyProof.Rows.OwnCls "BadSet" a.c_BadSet [.type "ValueError", .type "Exception", .type "BaseException", .type "object"] "ValueError.__new__" mg h
section
variable {K : PySem.W.Frag} {mg : Str → Option Value} {a : Adr}
theorem Txt.k_has_tie (T : Txt K mg a) : PySem.W.keepIn K (.ref a.f_has_tie) = true := T.F_has_tie.kp
theorem Txt.k_ties_in (T : Txt K mg a) : PySem.W.keepIn K (.ref a.f_ties_in) = true := T.F_ties_in.kp
theorem Txt.k_set_of (T : Txt K mg a) : PySem.W.keepIn K (.ref a.f_set_of) = true := T.F_set_of.kp
theorem Txt.k_all_ties (T : Txt K mg a) : PySem.W.keepIn K (.ref a.f_all_ties) = true := T.F_all_ties.kp
theorem Txt.k_is_set (T : Txt K mg a) : PySem.W.keepIn K (.ref a.f_is_set) = true := T.F_is_set.kp
theorem Txt.k_check_set (T : Txt K mg a) : PySem.W.keepIn K (.ref a.f_check_set) = true := T.F_check_set.kp
theorem Txt.k_triples_in (T : Txt K mg a) : PySem.W.keepIn K (.ref a.f_triples_in) = true := T.F_triples_in.kp
theorem Txt.k_length_of (T : Txt K mg a) : PySem.W.keepIn K (.ref a.f_length_of) = true := T.F_length_of.kp
theorem Txt.k_odd_points (T : Txt K mg a) : PySem.W.keepIn K (.ref a.f_odd_points) = true := T.F_odd_points.kp
theorem Txt.k_drawn_together (T : Txt K mg a) : PySem.W.keepIn K (.ref a.f_drawn_together) = true := T.F_drawn_together.kp
theorem Txt.k_pieces (T : Txt K mg a) : PySem.W.keepIn K (.ref a.f_pieces) = true := T.F_pieces.kp
theorem Txt.k_is_even (T : Txt K mg a) : PySem.W.keepIn K (.ref a.f_is_even) = true := T.F_is_even.kp
theorem Txt.k_is_ring (T : Txt K mg a) : PySem.W.keepIn K (.ref a.f_is_ring) = true := T.F_is_ring.kp
theorem Txt.k_is_ring_number (T : Txt K mg a) : PySem.W.keepIn K (.ref a.f_is_ring_number) = true := T.F_is_ring_number.kp
theorem Txt.k_common (T : Txt K mg a) : PySem.W.keepIn K (.ref a.f_common) = true := T.F_common.kp
theorem Txt.k_bears_oddly (T : Txt K mg a) : PySem.W.keepIn K (.ref a.f_bears_oddly) = true := T.F_bears_oddly.kp
theorem Txt.k_is_side (T : Txt K mg a) : PySem.W.keepIn K (.ref a.f_is_side) = true := T.F_is_side.kp
theorem Txt.k_cut_of (T : Txt K mg a) : PySem.W.keepIn K (.ref a.f_cut_of) = true := T.F_cut_of.kp
theorem Txt.k_is_side_of (T : Txt K mg a) : PySem.W.keepIn K (.ref a.f_is_side_of) = true := T.F_is_side_of.kp
theorem Txt.k_near_enough (T : Txt K mg a) : PySem.W.keepIn K (.ref a.f_near_enough) = true := T.F_near_enough.kp
theorem Txt.k_tie_stands (T : Txt K mg a) : PySem.W.keepIn K (.ref a.f_tie_stands) = true := T.F_tie_stands.kp
theorem Txt.k_worths_stand (T : Txt K mg a) : PySem.W.keepIn K (.ref a.f_worths_stand) = true := T.F_worths_stand.kp
theorem Txt.k_none_shorter (T : Txt K mg a) : PySem.W.keepIn K (.ref a.f_none_shorter) = true := T.F_none_shorter.kp
theorem Txt.k_ring_stands (T : Txt K mg a) : PySem.W.keepIn K (.ref a.f_ring_stands) = true := T.F_ring_stands.kp
theorem Txt.k_odd_judged (T : Txt K mg a) : PySem.W.keepIn K (.ref a.f_odd_judged) = true := T.F_odd_judged.kp
theorem Txt.k_law_cell_at (T : Txt K mg a) : PySem.W.keepIn K (.ref a.f_law_cell_at) = true := T.F_law_cell_at.kp
theorem Txt.k_law_left (T : Txt K mg a) : PySem.W.keepIn K (.ref a.f_law_left) = true := T.F_law_left.kp
theorem Txt.k_law_tie (T : Txt K mg a) : PySem.W.keepIn K (.ref a.f_law_tie) = true := T.F_law_tie.kp
theorem Txt.k_law_web (T : Txt K mg a) : PySem.W.keepIn K (.ref a.f_law_web) = true := T.F_law_web.kp
theorem Txt.k_law_walk (T : Txt K mg a) : PySem.W.keepIn K (.ref a.f_law_walk) = true := T.F_law_walk.kp
theorem Txt.k_law_least (T : Txt K mg a) : PySem.W.keepIn K (.ref a.f_law_least) = true := T.F_law_least.kp
theorem Txt.k_law_worths (T : Txt K mg a) : PySem.W.keepIn K (.ref a.f_law_worths) = true := T.F_law_worths.kp
theorem Txt.k_law_length (T : Txt K mg a) : PySem.W.keepIn K (.ref a.f_law_length) = true := T.F_law_length.kp
theorem Txt.k_law_odd (T : Txt K mg a) : PySem.W.keepIn K (.ref a.f_law_odd) = true := T.F_law_odd.kp
theorem Txt.k_law_nearest (T : Txt K mg a) : PySem.W.keepIn K (.ref a.f_law_nearest) = true := T.F_law_nearest.kp
theorem Txt.k_law_cut (T : Txt K mg a) : PySem.W.keepIn K (.ref a.f_law_cut) = true := T.F_law_cut.kp
theorem Txt.k_law_lowered (T : Txt K mg a) : PySem.W.keepIn K (.ref a.f_law_lowered) = true := T.F_law_lowered.kp
theorem Txt.k_law_any (T : Txt K mg a) : PySem.W.keepIn K (.ref a.f_law_any) = true := T.F_law_any.kp
theorem Txt.k_law_raised (T : Txt K mg a) : PySem.W.keepIn K (.ref a.f_law_raised) = true := T.F_law_raised.kp
theorem Txt.k_law_tried (T : Txt K mg a) : PySem.W.keepIn K (.ref a.f_law_tried) = true := T.F_law_tried.kp
end
def sp_has_tie : Sp := fun vs H Q _ => ∃ (S : Int) (k : Nat), vs = [.int S, .int (k : Int)] ∧ Q (.bl (bit S k)) H
def sp_ties_in : Sp := fun vs H Q _ => ∃ m : Nat, vs = [.int (m : Int)] ∧ Builtin.Int.intBits (m : Int) ≤ 1000 ∧ ∀ D H', H D = none → Same H H' → H' D = some (.lst (natsV (tiesOf (m : Int)))) → Q (.ref D) H'
def sp_all_ties : Sp := fun vs H Q _ => ∃ w p ts, vs = [.ref w] ∧ WebAt H w p ts ∧ Web p ts ∧ Q (.int (2 ^ ts.length - 1)) H
def sp_is_set : Sp := fun vs H Q _ => ∃ w p ts S, vs = [.ref w, .int S] ∧ WebAt H w p ts ∧ Web p ts ∧ Q (.bl (decide (0 ≤ S ∧ S < 2 ^ ts.length))) H
def OrBad (ts : List Tie) (S : Int) (bad : Prop) (R : Nat → Prop) : Prop := (∃ m : Nat, S = (m : Int) ∧ m < 2 ^ ts.length ∧ R m) ∨ ((S < 0 ∨ 2 ^ ts.length ≤ S) ∧ bad)
def sp_check_set (C : Addr) : Sp := fun vs H Q E => ∃ w p ts S, vs = [.ref w, .int S] ∧ WebAt H w p ts ∧ Web p ts ∧ OrBad ts S (E (.ref C) none H) fun _ => Q .non H
def sp_triples_in (C : Addr) : Sp := fun vs H Q E => ∃ w p ts S, vs = [.ref w, .int S] ∧ WebAt H w p ts ∧ Web p ts ∧ OrBad ts S (E (.ref C) none H) fun m =>
  ∀ D ys H', H D = none → Same H H' → H' D = some (.lst ys) → Paired (TupAt H') ys ((tiesOf (m : Int)).map (tieAt ts)) → Q (.ref D) H'
def sp_odd_points (C : Addr) : Sp := fun vs H Q E => ∃ w p ts S, vs = [.ref w, .int S] ∧ WebAt H w p ts ∧ Web p ts ∧ OrBad ts S (∀ H', Same H H' → E (.ref C) none H') fun m =>
  ∀ D H', Same H H' → H' D = some (.lst (natsV (oddOf p ts (m : Int)))) → Q (.ref D) H'
def sp_is_even (C : Addr) : Sp := fun vs H Q E => ∃ w p ts S, vs = [.ref w, .int S] ∧ WebAt H w p ts ∧ Web p ts ∧ OrBad ts S (∀ H', Same H H' → E (.ref C) none H') fun m => ∀ H', Same H H' → Q (.bl (decide (oddOf p ts (m : Int) = []))) H'
section
variable {P : Program} {w : World} {K : PySem.W.Frag} {mg : Str → Option Value} {base : Heap} {a : Adr}
theorem G_has_tie (T : Txt K mg a) : FnOk P w K mg base CX0 1 a.f_has_tie a.d_has_tie ["tie_set", "tie"] sp_has_tie := by
  refine T.F_has_tie.ok sc_has_tie (fun vs H Q E h => ?_) (fun cdv A outer s H vs Q E hr h => ?_)
  · obtain ⟨S, k, rfl, _⟩ := h
    rfl
  · obtain ⟨S, k, rfl, q⟩ := h
    refine ⟨_, (@pss_one _ _ _ (@ps_ret _ _ _ _ (@pe_cmpR _ _ _ _ _ _ _ _ op_eq (@pe_op _ _ _ _ _ _ _ _ op_and (@pe_op _ _ _ _ _ _ _ _ op_shr (pv 0) (pv 1)) pe_int) pe_int (nomark _)))), ?_⟩
    refine (exq rfl (exq rfl (ijq ⟨(by (first | lia | omega)), ijq ⟨rfl, ?_⟩⟩)))
    rw [Int.toNat_natCast, has_eq]
    exact q
theorem G_ties_in (T : Txt K mg a) : FnOk P w K mg base CX0 2 a.f_ties_in a.d_ties_in ["tie_set"] sp_ties_in := by
  have G_has_tie : FnOk P w K mg base CX0 1 a.f_has_tie a.d_has_tie ["tie_set", "tie"] sp_has_tie := G_has_tie T
  refine T.F_ties_in.ok sc_ties_in (fun vs H Q E h => ?_) (fun cdv A outer s H vs Q E hr h => ?_)
  · obtain ⟨m, rfl, _⟩ := h
    rfl
  · obtain ⟨m, rfl, hm, k⟩ := h
    refine ⟨_, (@pss_one _ _ _ (@ps_ret _ _ _ _ (@pe_comp _ _ _ _ _ _ _ ["tie"] ["tie_set"] [0] _ _ _ _ (compText_of (defScope s_ties_in) ["tie_set"]) rfl (@pi_range1 _ _ _ _ _ _ (by rfl) T.n_range (@pa_cons _ _ _ _ _ (@pe_bm0 _ _ _ _ _ _ _ _ _ PySem.F.plainAttrs_int PyProof.Rows.slot_int_bit_length PyProof.Rows.type_int_bit_length mt_bits (pv 0) (by rfl) (by rfl)) pa_nil (by rfl)) (by rfl)) (fun _ _ _ _ => (pg_name (i := 0) (show (["tie", "tie_set"] : List Str).Nodup by decide +kernel) rfl (Or.inl rfl))) (fun _ _ _ _ => (pts_one (pt_val (pe_call G_has_tie (hr.mono (by decide)) (by rfl) T.m_has_tie T.k_has_tie T.b_has_tie .nil pass0 (pa_cons (pv 1) (pa_cons (pv 0) pa_nil)))))) (fun _ _ _ _ => (pv 0)) (by intro _; rfl)))), ?_⟩
    refine (exq rfl ⟨rfl, exq rfl ⟨rfl, exq rfl ⟨(by (first | lia | omega)), (by (first | lia | omega)), fun D hD => comp_range (lo := 0) (m := Builtin.Int.intBits (m : Int)) (Pick (bit (m : Int)) H D) (.start hD) (fun i acc H2 _ p => p.len) (dl (Nat.ble_eq.mpr hm)) ?_ ?_⟩⟩⟩)
    · intro i acc H2 hi p
      rw [Int.zero_add]
      refine ⟨rfl, exq rfl (exq rfl ⟨(m : Int), i, rfl, exq rfl (?_)⟩)⟩
      cases hb : bit (m : Int) i with
      | true => exact (exq rfl (p.yes hD (Same.refl _) hb))
      | false => exact p.no (Same.refl _) hb
    · intro acc H2 p
      exact k D H2 hD p.1 (by rw [p.2.1, p.2.2]; rfl)
theorem G_all_ties (T : Txt K mg a) : FnOk P w K mg base CX0 1 a.f_all_ties a.d_all_ties ["web"] sp_all_ties := by
  refine T.F_all_ties.ok sc_all_ties (fun vs H Q E h => ?_) (fun cdv A outer s H vs Q E hr h => ?_)
  · obtain ⟨w, p, ts, rfl, _⟩ := h
    rfl
  · obtain ⟨wb, p, ts, rfl, hw, W, q⟩ := h
    refine ⟨_, (@pss_one _ _ _ (@ps_ret _ _ _ _ (@pe_op _ _ _ _ _ _ _ _ op_sub (@pe_op _ _ _ _ _ _ _ _ op_shl pe_int (@pe_callB _ _ _ _ _ _ _ _ _ (lenK K) (by rfl) T.n_len PySem.boot_len (@pa_cons _ _ _ _ _ (@pe_ix _ _ _ _ _ _ _ (ixT K) (pv 0) pe_int (fun _ _ => rfl)) pa_nil (by rfl)) (by decide) (by decide) (by rfl) (by rfl))) pe_int))), ?_⟩
    obtain ⟨b, xs, h1, h2, h3⟩ := hw.ex
    have hl := h3.length
    have wl := W.len
    refine (exq rfl (ixq (SqT.of h1) (atI_nat (j := 1) rfl) (lnq rfl (.inr (SqT.of h2)) (ijq ⟨⟨by (first | lia | omega), by (first | lia | omega), by decide⟩, ijq (?_)⟩))))
    rw [Int.toNat_natCast, hl, Int.one_mul]
    exact q
theorem G_is_set (T : Txt K mg a) : FnOk P w K mg base CX0 2 a.f_is_set a.d_is_set ["web", "number"] sp_is_set := by
  have G_all_ties : FnOk P w K mg base CX0 1 a.f_all_ties a.d_all_ties ["web"] sp_all_ties := G_all_ties T
  refine T.F_is_set.ok sc_is_set (fun vs H Q E h => ?_) (fun cdv A outer s H vs Q E hr h => ?_)
  · obtain ⟨w, p, ts, S, rfl, _⟩ := h
    rfl
  · obtain ⟨wb, p, ts, S, rfl, hw, W, q⟩ := h
    refine ⟨_, (@pss_one _ _ _ (@ps_ret _ _ _ _ (@pe_and _ _ _ _ _ _ _ (@pe_cmpR _ _ _ _ _ _ _ _ op_ge (pv 1) pe_int (nomark _)) (@pe_one _ _ _ _ _ (@pe_cmpR _ _ _ _ _ _ _ _ op_le (pv 1) (@pe_call _ _ _ _ _ _ _ _ _ _ _ _ _ _ _ _ G_all_ties (hr.mono (by decide)) (by rfl) T.m_all_ties T.k_all_ties T.b_all_ties .nil pass0 (@pa_cons _ _ _ _ _ (pv 0) pa_nil (by rfl)) (by decide) (by rfl) (by rfl)) (nomark _)))))), ?_⟩
    refine (exq rfl (ijq (exq rfl (ite2 (fun hlt => ?_) (fun hlt => ?_)))))
    · have hlt : 0 ≤ S := of_decide_eq_true hlt
      refine (exq rfl (exq rfl ⟨wb, p, ts, rfl, hw, W, _, _, rfl, rfl, ?_⟩))
      have e : decide (S ≤ 2 ^ ts.length - 1) = decide (0 ≤ S ∧ S < 2 ^ ts.length) := decide_eq_decide.mpr ⟨fun z => ⟨hlt, by (first | lia | omega)⟩, fun z => by (first | lia | omega)⟩
      rw [← e] at q
      exact q
    · have hlt : ¬ 0 ≤ S := fun z => hlt (decide_eq_true z)
      rw [decide_eq_false (fun z => hlt z.1)] at q
      exact q
theorem G_check_set (T : Txt K mg a) : FnOk P w K mg base (CX1 P w) 3 a.f_check_set a.d_check_set ["web", "tie_set"] (sp_check_set a.c_BadSet) := by
  have G_is_set : FnOk P w K mg base CX0 2 a.f_is_set a.d_is_set ["web", "number"] sp_is_set := G_is_set T
  refine T.F_check_set.ok1 sc_check_set (fun vs H Q E h => ?_) (fun cdv A outer s H vs Q E hr h => ?_)
  · obtain ⟨w, p, ts, S, rfl, _⟩ := h
    rfl
  · obtain ⟨wb, p, ts, S, rfl, hw, W, q⟩ := h
    refine ⟨_, (@pss_one _ _ _ (@ps_if _ _ _ _ _ _ _ _ (@pt_not _ _ _ _ (@pt_val _ _ _ (@pe_call _ _ _ _ _ _ _ _ _ _ _ _ _ _ _ _ G_is_set (hr.mono (by decide)) (by rfl) T.m_is_set T.k_is_set T.b_is_set .nil pass0 (@pa_cons _ _ _ _ _ (pv 0) (@pa_cons _ _ _ _ _ (pv 1) pa_nil (by rfl)) (by rfl)) (by decide) (by rfl) (by rfl)) (by intro _; rfl))) (@pss_one _ _ _ (@ps_raise _ _ _ _ _ _ _ _ _ _ _ _ _ _ out_of.thr rfl (by rfl) T.x_BadSet PySem.F.excBase_ValueError (@pa_cons _ _ _ _ _ pe_str pa_nil (by rfl)) (by rfl) (by rfl) (by decide))) pss_nil)), ?_⟩
    refine hd_check_set ?_
    intro zz0
    refine (exq rfl (exq rfl ⟨wb, p, ts, S, rfl, hw, W, ?_⟩))
    have h2 : ((2 : Int) ^ ts.length) = ((2 ^ ts.length : Nat) : Int) := by simp
    rcases q with ⟨m, rfl, hm, q⟩ | ⟨hS, q⟩
    · rw [decide_eq_true ⟨by (first | lia | omega), by (first | lia | omega)⟩]
      exact (exq rfl (iteF q))
    · rw [decide_eq_false (by (first | lia | omega))]
      exact (exq rfl (iteT ⟨dl rfl, q⟩))
theorem G_triples_in (T : Txt K mg a) : FnOk P w K mg base (CX1 P w) 4 a.f_triples_in a.d_triples_in ["web", "tie_set"] (sp_triples_in a.c_BadSet) := by
  have G_check_set : FnOk P w K mg base (CX1 P w) 3 a.f_check_set a.d_check_set ["web", "tie_set"] (sp_check_set a.c_BadSet) := G_check_set T
  have G_ties_in : FnOk P w K mg base CX0 2 a.f_ties_in a.d_ties_in ["tie_set"] sp_ties_in := G_ties_in T
  refine T.F_triples_in.ok1 sc_triples_in (fun vs H Q E h => ?_) (fun cdv A outer s H vs Q E hr h => ?_)
  · obtain ⟨w, p, ts, S, rfl, _⟩ := h
    rfl
  · obtain ⟨wb, p, ts, S, rfl, hw, W, q⟩ := h
    refine ⟨_, (@pss_cons _ _ _ _ _ (@ps_expr _ _ _ _ (@pe_call _ _ _ _ _ _ _ _ _ _ _ _ _ _ _ _ G_check_set (hr.mono (by decide)) (by rfl) T.m_check_set T.k_check_set T.b_check_set .nil out_of.passes (@pa_cons _ _ _ _ _ (pv 0) (@pa_cons _ _ _ _ _ (pv 1) pa_nil (by rfl)) (by rfl)) (by decide) (by rfl) (by rfl)) (by rfl)) (@pss_one _ _ _ (@ps_ret _ _ _ _ (@pe_comp _ _ _ _ _ _ _ ["tie"] ["web"] [0] _ _ _ _ (compText_of (defScope s_triples_in) ["web", "tie_set"]) rfl (@piL _ _ _ _ K (@pe_call _ _ _ _ _ _ _ _ _ _ _ _ _ _ _ _ G_ties_in (hr.mono (by decide)) (by rfl) T.m_ties_in T.k_ties_in T.b_ties_in .nil pass0 (@pa_cons _ _ _ _ _ (pv 1) pa_nil (by rfl)) (by decide) (by rfl) (by rfl)) (by rfl)) (fun _ _ _ _ => (pg_name (i := 0) (show (["tie", "web"] : List Str).Nodup by decide +kernel) rfl (Or.inl rfl))) (fun _ _ _ _ => pts_nil) (fun _ _ _ _ => (pe_ix (ixT K) (pe_ix (ixT K) (pv 1) pe_int (fun _ _ => rfl)) (pv 0) (fun _ _ => rfl))) (by intro _; rfl))))), ?_⟩
    refine hd_triples_in ?_
    intro zz0
    refine (exq rfl (exq rfl ⟨wb, p, ts, S, rfl, hw, W, ?_⟩))
    rcases q with ⟨m, rfl, hm, q⟩ | ⟨hS, q⟩
    · refine .inl ⟨m, rfl, hm, ?_⟩
      have wl := W.len
      have hb : Builtin.Int.intBits (m : Int) ≤ ts.length := bits_le hm
      refine (exq rfl ⟨m, rfl, by (first | lia | omega), fun L H1 _ s1 hL => ⟨L, rfl, ⟨_, SqL.of hL⟩, fun D hD => ?_⟩⟩)
      obtain ⟨b, xs, h1, h2, h3⟩ := (hw.same s1).ex
      have hxl := h3.length
      refine comp_list (xs := natsV (tiesOf (m : Int))) (fun i acc H2 => Same H1 H2 ∧ H2 D = some (.lst acc) ∧ Paired (TupAt H2) acc (((tiesOf (m : Int)).take i).map (tieAt ts)) ∧ acc.length = i) ⟨Same.new hD, upd_same, .nil, rfl⟩ ?_ ?_ ?_ ?_
      · rintro i acc H2 _ ⟨s2, hd, pr, hac⟩
        exact ⟨SqL.of (s2 _ _ hL), hd, Nat.le_of_eq hac⟩
      · rw [natsV_len]
        refine dl (Nat.ble_eq.mpr (Nat.le_trans (List.length_filter_le _ _) ?_))
        rw [List.length_range]
        (first | lia | omega)
      · rintro i x acc H2 hx ⟨s2, hd, pr, hac⟩
        obtain ⟨k, hk, rfl⟩ := natsV_get hx
        have hkl : k < ts.length := ties_lt hm (List.mem_of_getElem? hk)
        have hkx : k < xs.length := by (first | lia | omega)
        obtain ⟨t, ht, c, hc, hct⟩ := Paired.getP h3 (i := k) (x := xs[k]) (by simp [hkx])
        have htt : tieAt ts k = t := by
          unfold tieAt
          rw [List.getD_eq_getElem?_getD, ht]
          rfl
        refine ⟨rfl, exq rfl (ixq (SqT.of (s2 _ _ h1)) (atI_nat (j := 1) rfl) (exq rfl (ixq (v := xs[k]) (SqT.of (s2 _ _ h2)) (atI_nat (j := k) (by simp [hkx])) (?_))))⟩
        rw [hc]
        refine ⟨hd, s2.put hD, upd_same, ?_, by rw [List.length_append, List.length_singleton, hac]⟩
        rw [List.take_add_one, hk, List.map_append]
        refine Paired.snoc (Paired.imp' (fun _ _ z => z.tups (Tups.put hd)) pr) ?_
        rw [htt]
        exact ⟨c, rfl, Tups.put hd _ _ (s2 _ _ hct)⟩
      · rintro acc H2 ⟨s2, hd, pr, hac⟩
        rw [natsV_len, List.take_length] at pr
        exact q D acc H2 (s1.free hD) (s1.trans s2) hd pr
    · exact .inr ⟨hS, q⟩
end

section
variable {P : Program} {w : World} {K : PySem.W.Frag} {mg : Str → Option Value} {base : Heap} {a : Adr}
theorem G_odd_points (T : Txt K mg a) : FnOk P w K mg base (CX1 P w) 5 a.f_odd_points a.d_odd_points ["web", "tie_set"] (sp_odd_points a.c_BadSet) := by
  have G_triples_in : FnOk P w K mg base (CX1 P w) 4 a.f_triples_in a.d_triples_in ["web", "tie_set"] (sp_triples_in a.c_BadSet) := G_triples_in T
  refine T.F_odd_points.ok1 sc_odd_points (fun vs H Q E h => ?_) (fun cdv A outer s H vs Q E hr h => ?_)
  · obtain ⟨w, p, ts, S, rfl, _⟩ := h
    rfl
  · obtain ⟨wb, p, ts, S, rfl, hw, W, q⟩ := h
    refine ⟨_, (@pss_cons _ _ _ _ _ (@ps_set _ _ 2 _ _ _ _ sc_odd_points.nd rfl (Or.inr rfl) (@pe_op _ _ _ _ _ _ _ _ op_rep (@pe_lst _ _ _ _ (@pa_cons _ _ _ _ _ pe_int pa_nil (by rfl))) (@pe_ix _ _ _ _ _ _ _ (ixT K) (pv 0) pe_int (fun _ _ => rfl))) (by rfl) (by first | exact .inl rfl | exact .inr rfl | assumption)) (@pss_cons _ _ _ _ _ (@ps_for1 _ _ _ _ _ _ _ _ rfl (@piL _ _ _ _ K (@pe_call _ _ _ _ _ _ _ _ _ _ _ _ _ _ _ _ G_triples_in (hr.mono (by decide)) (by rfl) T.m_triples_in T.k_triples_in T.b_triples_in .nil out_of.passes (@pa_cons _ _ _ _ _ (pv 0) (@pa_cons _ _ _ _ _ (pv 1) pa_nil (by rfl)) (by rfl)) (by decide) (by rfl) (by rfl)) (by rfl)) (@pgT _ _ K _ _ 3 _ rfl (@pgs_cons _ _ _ _ _ (pg_name (i := 3) sc_odd_points.nd rfl (Or.inl rfl)) (@pgs_cons _ _ _ _ _ (pg_name (i := 4) sc_odd_points.nd rfl (Or.inl rfl)) (@pgs_cons _ _ _ _ _ (pg_name (i := 5) sc_odd_points.nd rfl (Or.inl rfl)) pgs_nil (by rfl)) (by rfl)) (by rfl)) (by rfl) (by rfl) (by rfl)) (@pss_cons _ _ _ _ _ (@ps_augS _ _ _ _ _ _ _ _ _ _ _ _ _ (pv 2) (pv 3) (getL K) pe_int iop_add set_list (by intros; rfl)) (@pss_one _ _ _ (@ps_augS _ _ _ _ _ _ _ _ _ _ _ _ _ (pv 2) (pv 4) (getL K) pe_int iop_add set_list (by intros; rfl)))) (by intro _; rfl)) (@pss_one _ _ _ (@ps_ret _ _ _ _ (@pe_comp _ _ _ _ _ _ _ ["point"] ["ends"] [2] _ _ _ _ (compText_of (defScope s_odd_points) ["web", "tie_set", "ends", "one", "other", "length"]) rfl (@pi_range1 _ _ _ _ _ _ (by rfl) T.n_range (@pa_cons _ _ _ _ _ (@pe_ix _ _ _ _ _ _ _ (ixT K) (pv 0) pe_int (fun _ _ => rfl)) pa_nil (by rfl)) (by rfl)) (fun _ _ _ _ => (pg_name (i := 0) (show (["point", "ends"] : List Str).Nodup by decide +kernel) rfl (Or.inl rfl))) (fun _ _ _ _ => (pts_one (pt_cmpR op_eq (pe_op op_mod (pe_ix (ixL K) (pv 1) (pv 0) (fun _ _ => rfl)) pe_int) pe_int (nomark _)))) (fun _ _ _ _ => (pv 0)) (by intro _; rfl)))))), ?_⟩
    refine hd_odd_points ?_
    intro zz0 zz1 zz2 zz3
    obtain ⟨b, xs, h1, h2, h3⟩ := id hw.ex
    have wp := W.pts
    refine ⟨dl rfl, fun l0 hl0 => ?_⟩
    have s0 : Same H (upd H l0 (.lst [.int 0])) := Same.new hl0
    refine (exq rfl (ixq (SqT.of (s0 _ _ h1)) (atI_nat (j := 0) rfl) ⟨l0, (p : Int), exq rfl ⟨rfl, upd_same, by (first | lia | omega), by (first | lia | omega), (by rw [Int.toNat_natCast]; show 1 * p ≤ sizeLine; exact dl (Nat.ble_eq.mpr (by (first | lia | omega)))), fun e he => ?_⟩⟩))
    have s1 := s0.trans (Same.new (o := .lst (List.replicate (p : Int).toNat [V.int 0]).flatten) he)
    have he1 : upd (upd H l0 (.lst [.int 0])) e (.lst (List.replicate (p : Int).toNat [V.int 0]).flatten) e = some (.lst (intsV (List.replicate p 0))) := by
      rw [upd_same, Int.toNat_natCast, rep_zero]
    generalize upd (upd H l0 (.lst [.int 0])) e (.lst (List.replicate (p : Int).toNat [V.int 0]).flatten) = H1 at s1 he1
    have heH : H e = none := s0.free he
    refine (exq rfl (exq rfl ⟨wb, p, ts, S, rfl, hw.same s1, W, ?_⟩))
    rcases q with ⟨m, rfl, hm, q⟩ | ⟨hS, q⟩
    · refine .inl ⟨m, rfl, hm, fun L ys H2 hLn s2 hL pr => ⟨L, rfl, ⟨_, SqL.of hL⟩, ?_⟩⟩
      have s12 := s1.trans s2
      have heL : e ≠ L := ne_of_none he1 hLn
      have hyl : ys.length ≤ 24 := by
        rw [pr.length, List.length_map]
        have hb : Builtin.Int.intBits (m : Int) ≤ ts.length := bits_le hm
        have wl := W.len
        have := List.length_filter_le (bit (m : Int)) (List.range (Builtin.Int.intBits (m : Int)))
        rw [List.length_range] at this
        exact Nat.le_trans this (by (first | lia | omega))
      refine for_list' (K := K) (a := L) (xs := ys) (fun i σ H3 => ∃ v1 v2 v3, σ = [some (.ref wb), some (.int (m : Int)), some (.ref e), v1, v2, v3] ∧ (∀ x o, H2 x = some o → x ≠ e → H3 x = some o) ∧ H3 e = some (.lst (intsV ((((tiesOf (m : Int)).map (tieAt ts)).take i).foldl stepT (List.replicate p 0)))))
        ⟨none, none, none, rfl, fun _ _ z _ => z, s2 _ _ he1⟩ (fun i σ H3 _ ⟨_, _, _, _, z, _⟩ => SqL.of (z _ _ hL (Ne.symm heL))) ?_ ?_
      · rintro i y D' σ H3 hi ⟨v1, v2, v3, rfl, z3, he3⟩
        obtain ⟨t, ht, c, rfl, hc⟩ := Paired.getP pr hi
        have hce : c ≠ e := ne_of hc (s2 _ _ he1) (by intro z; cases z)
        have hc3 := z3 _ _ hc hce
        have htm : t ∈ ts := by
          obtain ⟨k, hk, rfl⟩ := List.mem_map.mp (List.mem_of_getElem? ht)
          unfold tieAt
          have hkl := ties_lt hm hk
          rw [List.getD_eq_getElem?_getD]
          simp [hkl]
        obtain ⟨a0, a1, b0, b1⟩ := W.inw.ends t htm
        obtain ⟨t1, t2, t3⟩ := t
        dsimp only at a0 a1 b0 b1
        obtain ⟨j1, rfl⟩ := Int.eq_ofNat_of_zero_le a0
        obtain ⟨j2, rfl⟩ := Int.eq_ofNat_of_zero_le b0
        generalize hE : (((tiesOf (m : Int)).map (tieAt ts)).take i).foldl stepT (List.replicate p 0) = EE at he3
        have hEl : EE.length = p := by rw [← hE, foldT_len, List.length_replicate]
        have hj1 : j1 < EE.length := by (first | lia | omega)
        have hj2 : j2 < (bump EE (j1 : Int)).length := by rw [bump_len]; (first | lia | omega)
        refine ⟨c, _, rfl, SqT.of hc3, rfl, _, _, rfl, _, _, rfl, _, _, rfl, rfl, ?_⟩
        refine (exq rfl (exq rfl ⟨e, _, j1, _, rfl, rfl, SqL.of he3, intsV_get hj1, _, _, rfl, rfl, e, _, _, j1, rfl, rfl, he3, ixN_nat (by rw [intsV, List.length_map]; exact hj1), ?_⟩))
        rw [intsV_bump]
        refine (exq rfl (exq rfl ⟨e, _, j2, _, rfl, rfl, SqL.of upd_same, intsV_get hj2, _, _, rfl, rfl, e, _, _, j2, rfl, rfl, upd_same, ixN_nat (by rw [intsV, List.length_map]; exact hj2), ?_⟩))
        rw [intsV_bump]
        refine ⟨_, _, _, rfl, fun x o z hx => by rw [upd_ne hx, upd_ne hx]; exact z3 x o z hx, ?_⟩
        rw [upd_same, List.take_add_one, ht, List.foldl_append, hE]
        rfl
      · rintro σ H3 ⟨v1, v2, v3, rfl, z3, he3⟩
        have hwe : wb ≠ e := ne_of_none h1 heH
        have s13 : Same H H3 := fun x o z => z3 x o (s12 x o z) (ne_of_none z heH)
        have hE : H3 e = some (.lst (intsV (endsOf p ts (m : Int)))) := by
          rw [he3, List.take_of_length_le (by rw [← pr.length]; exact Nat.le_refl _), ends_ties hm]
        have hEl : (endsOf p ts (m : Int)).length = p := by rw [ends_ties hm, foldT_len, List.length_replicate]
        refine (exq rfl (ixq (SqT.of (s13 _ _ h1)) (atI_nat (j := 0) rfl) (exq rfl ⟨(by (first | lia | omega)), (by (first | lia | omega)), fun D hD => comp_range (lo := 0) (m := p) (Pick (fun i => decide ((endsOf p ts (m : Int)).getD i 0 % 2 = 1)) H3 D) (.start hD) (fun i acc H4 _ p => p.len) (dl (Nat.ble_eq.mpr (by (first | lia | omega)))) ?_ ?_⟩)))
        · intro i acc H4 hi pk
          rw [Int.zero_add]
          refine ⟨rfl, exq rfl (exq rfl (ixl (SqL.of (pk.1 _ _ hE)) (atI_nat (j := i) (intsV_get (by rw [hEl]; exact hi))) (ijq ⟨(modC rfl), rfl, exq rfl (?_)⟩)))⟩
          rw [dec_one]
          cases hb : decide ((endsOf p ts (m : Int)).getD i 0 % 2 = 1) with
          | true => exact (exq rfl (pk.yes hD (Same.refl _) hb))
          | false => exact pk.no (Same.refl _) hb
        · intro acc H4 pk
          exact q D H4 (s13.trans pk.1) (by rw [pk.2.1, pk.2.2]; rfl)
    · exact .inr ⟨hS, q _ s1⟩
end

section
variable {P : Program} {w : World} {K : PySem.W.Frag} {mg : Str → Option Value} {base : Heap} {a : Adr}
theorem G_is_even (T : Txt K mg a) : FnOk P w K mg base (CX1 P w) 6 a.f_is_even a.d_is_even ["web", "tie_set"] (sp_is_even a.c_BadSet) := by
  have G_odd_points : FnOk P w K mg base (CX1 P w) 5 a.f_odd_points a.d_odd_points ["web", "tie_set"] (sp_odd_points a.c_BadSet) := G_odd_points T
  refine T.F_is_even.ok1 sc_is_even (fun vs H Q E h => ?_) (fun cdv A outer s H vs Q E hr h => ?_)
  · obtain ⟨w, p, ts, S, rfl, _⟩ := h
    rfl
  · obtain ⟨wb, p, ts, S, rfl, hw, W, q⟩ := h
    refine ⟨_, (@pss_one _ _ _ (@ps_ret _ _ _ _ (@pe_cmpR _ _ _ _ _ _ _ _ (op_eqK K hr.units) (@pe_call _ _ _ _ _ _ _ _ _ _ _ _ _ _ _ _ G_odd_points (hr.mono (by decide)) (by rfl) T.m_odd_points T.k_odd_points T.b_odd_points .nil out_of.passes (@pa_cons _ _ _ _ _ (pv 0) (@pa_cons _ _ _ _ _ (pv 1) pa_nil (by rfl)) (by rfl)) (by decide) (by rfl) (by rfl)) (@pe_lst _ _ _ _ pa_nil) (nomark _)))), ?_⟩
    refine (exq rfl (exq rfl ⟨wb, p, ts, S, rfl, hw, W, ?_⟩))
    rcases q with ⟨m, rfl, hm, q⟩ | ⟨hS, q⟩
    · refine .inl ⟨m, rfl, hm, fun D H1 s1 hD => ⟨dl rfl, fun l hl => ?_⟩⟩
      have s2 : Same H1 (upd H1 l (.lst [])) := Same.new hl
      refine ⟨_, _, .lst (SqL.of (s2 _ _ hD)) (nats_dat _), .lst (SqL.of upd_same) .nil, shaped_nats _, rfl, ?_⟩
      rw [eqv_nil]
      exact q _ (s1.trans s2)
    · exact .inr ⟨hS, q⟩
end

def sp_drawn : Sp := fun vs H Q _ => ∃ (l : Addr) (L : Nat → Nat) (p u v : Nat), vs = [.ref l, .int (u : Int), .int (v : Int)] ∧ H l = some (.lst (mapV L p)) ∧ p ≤ 10 ∧ u < p ∧ v < p ∧
  ∀ D H', H D = none → Same H H' → H' D = some (.lst (mapV (RM.join L u v) p)) → Q (.ref D) H'
def sp_pieces (C : Addr) : Sp := fun vs H Q E => ∃ w p ts, ∃ g : GoodWeb p ts, ∃ S, vs = [.ref w, .int S] ∧ WebAt H w p ts ∧ OrBad ts S (∀ H', Same H H' → E (.ref C) none H') fun m =>
  ∀ D ys H', H D = none → Same H H' → H' D = some (.lst ys) → Paired (LstFr D H H') ys ((rootsOf (labOf p ts g m) p).map (pieceOf (labOf p ts g m) p)) → Q (.ref D) H'
section
variable {P : Program} {w : World} {K : PySem.W.Frag} {mg : Str → Option Value} {base : Heap} {a : Adr}
theorem G_drawn_together (T : Txt K mg a) : FnOk P w K mg base CX0 1 a.f_drawn_together a.d_drawn_together ["leasts", "one", "other"] sp_drawn := by
  refine T.F_drawn_together.ok sc_drawn_together (fun vs H Q E h => ?_) (fun cdv A outer s H vs Q E hr h => ?_)
  · obtain ⟨l, L, p, u, v, rfl, _⟩ := h
    rfl
  · obtain ⟨l, L, p, u, v, rfl, hl, hp, hu, hv, q⟩ := h
    refine ⟨_, (@pss_cons _ _ _ _ _ (@ps_set _ _ 3 _ _ _ _ sc_drawn_together.nd rfl (Or.inr rfl) (@pe_callB _ _ _ _ _ _ _ _ _ (call_min2 rfl) (by rfl) T.n_min PyProof.Rows.boot_min (@pa_cons _ _ _ _ _ (@pe_ix _ _ _ _ _ _ _ (ixL K) (pv 0) (pv 1) (fun _ _ => rfl)) (@pa_cons _ _ _ _ _ (@pe_ix _ _ _ _ _ _ _ (ixL K) (pv 0) (pv 2) (fun _ _ => rfl)) pa_nil (by rfl)) (by rfl)) (by decide) (by decide) (by rfl) (by rfl)) (by rfl) (by first | exact .inl rfl | exact .inr rfl | assumption)) (@pss_cons _ _ _ _ _ (@ps_set _ _ 4 _ _ _ _ sc_drawn_together.nd rfl (Or.inr rfl) (@pe_callB _ _ _ _ _ _ _ _ _ (call_max2 rfl) (by rfl) T.n_max PyProof.Rows.boot_max (@pa_cons _ _ _ _ _ (@pe_ix _ _ _ _ _ _ _ (ixL K) (pv 0) (pv 1) (fun _ _ => rfl)) (@pa_cons _ _ _ _ _ (@pe_ix _ _ _ _ _ _ _ (ixL K) (pv 0) (pv 2) (fun _ _ => rfl)) pa_nil (by rfl)) (by rfl)) (by decide) (by decide) (by rfl) (by rfl)) (by rfl) (by first | exact .inl rfl | exact .inr rfl | assumption)) (@pss_one _ _ _ (@ps_ret _ _ _ _ (@pe_comp _ _ _ _ _ _ _ ["least"] ["low", "high"] [3, 4] _ _ _ _ (compText_of (defScope s_drawn_together) ["leasts", "one", "other", "low", "high"]) rfl (@piL _ _ _ _ K (pv 0) (by rfl)) (fun _ _ _ _ => (pg_name (i := 0) (show (["least", "low", "high"] : List Str).Nodup by decide +kernel) rfl (Or.inl rfl))) (fun _ _ _ _ => pts_nil) (fun _ _ _ _ => (pe_ifExp (pt_cmpR op_eq (pv 0) (pv 2) (nomark _)) (pv 1) (pv 0))) (by intro _; rfl)))))), ?_⟩
    refine hd_drawn_together ?_
    intro zz0 zz1
    refine (exq rfl (exq rfl (ixl (SqL.of hl) (atI_nat (j := u) (mapV_get hu)) (exq rfl (exq rfl (ixl (SqL.of hl) (atI_nat (j := v) (mapV_get hv)) ⟨_, _, rfl, ?_⟩))))))
    refine (exq rfl (exq rfl (ixl (SqL.of hl) (atI_nat (j := u) (mapV_get hu)) (exq rfl (exq rfl (ixl (SqL.of hl) (atI_nat (j := v) (mapV_get hv)) ⟨_, _, rfl, ?_⟩))))))
    refine (exq rfl ⟨l, rfl, ⟨_, SqL.of hl⟩, fun D hD => comp_list (xs := mapV L p) (Mapd (RM.join L u v) H D) (.start hD) (fun i acc H2 _ pd => ⟨SqL.of (pd.1 _ _ hl), pd.len⟩) (by rw [mapV_len]; exact dl (Nat.ble_eq.mpr (by (first | lia | omega)))) ?_ ?_⟩)
    · intro i x acc H2 hx pd
      obtain ⟨hi, rfl⟩ := mapV_of hx
      refine ⟨rfl, exq rfl (exq rfl ⟨rfl, exq rfl (?_)⟩)⟩
      rw [max_int, dec_nat]
      by_cases hm : L i = max (L u) (L v)
      · rw [decide_eq_true hm]
        refine iteT (exq rfl (pd.next hD (Same.refl _) ?_))
        rw [min_int]
        unfold RM.join
        rw [if_pos hm]
      · rw [decide_eq_false hm]
        refine iteF (exq rfl (pd.next hD (Same.refl _) ?_))
        unfold RM.join
        rw [if_neg hm]
    · intro acc H2 pd
      rw [mapV_len] at pd
      exact q D H2 hD pd.1 (by rw [pd.2.1, pd.2.2])
theorem G_pieces (T : Txt K mg a) : FnOk P w K mg base (CX1 P w) 5 a.f_pieces a.d_pieces ["web", "tie_set"] (sp_pieces a.c_BadSet) := by
  have G_triples_in : FnOk P w K mg base (CX1 P w) 4 a.f_triples_in a.d_triples_in ["web", "tie_set"] (sp_triples_in a.c_BadSet) := G_triples_in T
  have G_drawn_together : FnOk P w K mg base CX0 1 a.f_drawn_together a.d_drawn_together ["leasts", "one", "other"] sp_drawn := G_drawn_together T
  refine T.F_pieces.ok1 sc_pieces (fun vs H Q E h => ?_) (fun cdv A outer s H vs Q E hr h => ?_)
  · obtain ⟨w, p, ts, g, S, rfl, _⟩ := h
    rfl
  · obtain ⟨wb, p, ts, g, S, rfl, hw, q⟩ := h
    refine ⟨_, (@pss_cons _ _ _ _ _ (@ps_set _ _ 2 _ _ _ _ sc_pieces.nd rfl (Or.inr rfl) (@pe_callTy _ _ _ _ _ _ _ _ _ (listR rfl) (by rfl) T.n_list PyProof.Rows.boot_list (@pa_cons _ _ _ _ _ (@pe_callTy _ _ _ _ _ _ _ _ _ call_rng (by rfl) T.n_range PyProof.Rows.boot_range (@pa_cons _ _ _ _ _ (@pe_ix _ _ _ _ _ _ _ (ixT K) (pv 0) pe_int (fun _ _ => rfl)) pa_nil (by rfl)) (by decide) (by decide) (by rfl) (by rfl)) pa_nil (by rfl)) (by decide) (by decide) (by rfl) (by rfl)) (by rfl) (by first | exact .inl rfl | exact .inr rfl | assumption)) (@pss_cons _ _ _ _ _ (@ps_for1 _ _ _ _ _ _ _ _ rfl (@piL _ _ _ _ K (@pe_call _ _ _ _ _ _ _ _ _ _ _ _ _ _ _ _ G_triples_in (hr.mono (by decide)) (by rfl) T.m_triples_in T.k_triples_in T.b_triples_in .nil out_of.passes (@pa_cons _ _ _ _ _ (pv 0) (@pa_cons _ _ _ _ _ (pv 1) pa_nil (by rfl)) (by rfl)) (by decide) (by rfl) (by rfl)) (by rfl)) (@pgT _ _ K _ _ 3 _ rfl (@pgs_cons _ _ _ _ _ (pg_name (i := 3) sc_pieces.nd rfl (Or.inl rfl)) (@pgs_cons _ _ _ _ _ (pg_name (i := 4) sc_pieces.nd rfl (Or.inl rfl)) (@pgs_cons _ _ _ _ _ (pg_name (i := 5) sc_pieces.nd rfl (Or.inl rfl)) pgs_nil (by rfl)) (by rfl)) (by rfl)) (by rfl) (by rfl) (by rfl)) (@pss_one _ _ _ (@ps_set _ _ 2 _ _ _ _ sc_pieces.nd rfl (Or.inr rfl) (@pe_call _ _ _ _ _ _ _ _ _ _ _ _ _ _ _ _ G_drawn_together (hr.mono (by decide)) (by rfl) T.m_drawn_together T.k_drawn_together T.b_drawn_together .nil pass0 (@pa_cons _ _ _ _ _ (pv 2) (@pa_cons _ _ _ _ _ (pv 3) (@pa_cons _ _ _ _ _ (pv 4) pa_nil (by rfl)) (by rfl)) (by rfl)) (by decide) (by rfl) (by rfl)) (by rfl) (by first | exact .inl rfl | exact .inr rfl | assumption))) (by intro _; rfl)) (@pss_cons _ _ _ _ _ (@ps_set _ _ 6 _ _ _ _ sc_pieces.nd rfl (Or.inl rfl) (@pe_lst _ _ _ _ pa_nil) (by rfl) (by first | exact .inl rfl | exact .inr rfl | assumption)) (@pss_cons _ _ _ _ _ (@ps_for1 _ _ _ _ _ _ _ _ rfl (@pi_range1 _ _ _ _ _ _ (by rfl) T.n_range (@pa_cons _ _ _ _ _ (@pe_ix _ _ _ _ _ _ _ (ixT K) (pv 0) pe_int (fun _ _ => rfl)) pa_nil (by rfl)) (by rfl)) (pg_name (i := 7) sc_pieces.nd rfl (Or.inr rfl)) (@pss_one _ _ _ (@ps_if _ _ _ _ _ _ _ _ (@pt_cmpR _ _ _ _ _ _ _ _ op_eq (@pe_ix _ _ _ _ _ _ _ (ixL K) (pv 2) (pv 7) (fun _ _ => rfl)) (pv 7) (nomark _)) (@pss_one _ _ _ (@ps_expr _ _ _ _ (@bmK _ _ _ _ _ _ K (@pe_bm _ _ _ _ _ _ _ _ _ _ _ _ PySem.F.plainAttrs_list PySem.F.slot_list_append PySem.F.type_list_append mt_append (pv 6) (@pa_cons _ _ _ _ _ (@pe_comp _ _ _ _ _ _ _ ["point"] ["leasts", "start"] [2, 7] _ _ _ _ (compText_of (defScope s_pieces) ["web", "tie_set", "leasts", "one", "other", "length", "found", "start"]) rfl (@pi_range1 _ _ _ _ _ _ (by rfl) T.n_range (@pa_cons _ _ _ _ _ (@pe_ix _ _ _ _ _ _ _ (ixT K) (pv 0) pe_int (fun _ _ => rfl)) pa_nil (by rfl)) (by rfl)) (fun _ _ _ _ => (pg_name (i := 0) (show (["point", "leasts", "start"] : List Str).Nodup by decide +kernel) rfl (Or.inl rfl))) (fun _ _ _ _ => (pts_one (pt_cmpR op_eq (pe_ix (ixL K) (pv 1) (pv 0) (fun _ _ => rfl)) (pv 2) (nomark _)))) (fun _ _ _ _ => (pv 0)) (by intro _; rfl)) pa_nil (by rfl)) (by rfl) (by rfl) (by rfl) (by rfl) (by rfl)) (by rfl)) (by rfl))) pss_nil)) (by intro _; rfl)) (@pss_one _ _ _ (@ps_ret _ _ _ _ (pv 6))))))), ?_⟩
    refine hd_pieces ?_
    intro zz0 zz1 zz2 zz3 zz4 zz5 zz6
    obtain ⟨b, xs, h1, h2, h3⟩ := id hw.ex
    have W := g.web
    have wp := W.pts
    have wl := W.len
    refine (exq rfl (ixq (SqT.of h1) (atI_nat (j := 0) rfl) (exq rfl (fun r hr => ⟨r, p, rfl, upd_same, by (first | lia | omega), fun l hl => ?_⟩))))
    have s1 : Same H (upd (upd H r (.rng 0 (p : Int))) l (.lst (rngV p))) := (Same.new hr).trans (Same.new hl)
    have hl1 : upd (upd H r (.rng 0 (p : Int))) l (.lst (rngV p)) l = some (.lst (mapV (fun x => x) p)) := upd_same
    generalize upd (upd H r (.rng 0 (p : Int))) l (.lst (rngV p)) = H1 at s1 hl1
    refine (exq rfl (exq rfl ⟨wb, p, ts, S, rfl, hw.same s1, W, ?_⟩))
    rcases q with ⟨m, rfl, hm, q⟩ | ⟨hS, q⟩
    · refine .inl ⟨m, rfl, hm, fun T0 ys H2 hTn s2 hT pr => ⟨T0, rfl, ⟨_, SqL.of hT⟩, ?_⟩⟩
      have hyl : ys.length ≤ 24 := by
        rw [pr.length, List.length_map]
        have hb : Builtin.Int.intBits (m : Int) ≤ ts.length := bits_le hm
        have := List.length_filter_le (bit (m : Int)) (List.range (Builtin.Int.intBits (m : Int)))
        rw [List.length_range] at this
        exact Nat.le_trans this (by (first | lia | omega))
      refine for_list' (K := K) (a := T0) (xs := ys) (fun i σ H3 => ∃ la v3 v4 v5, σ = [some (.ref wb), some (.int (m : Int)), some (.ref la), v3, v4, v5, none, none] ∧ Same H2 H3 ∧ H3 la = some (.lst (mapV (foldJ p ts g ((tiesOf (m : Int)).take i)) p)))
        ⟨l, none, none, none, rfl, Same.refl _, s2 _ _ hl1⟩ (fun i σ H3 _ ⟨_, _, _, _, _, z, _⟩ => SqL.of (z _ _ hT)) ?_ ?_
      · rintro i y D' σ H3 hi ⟨la, v3, v4, v5, rfl, s3, hla⟩
        obtain ⟨t, ht, c, rfl, hc⟩ := Paired.getP pr hi
        have hc3 := s3 _ _ hc
        rw [List.getElem?_map] at ht
        obtain ⟨k, hk, hkt⟩ := Option.map_eq_some_iff.mp ht
        have hkl := ties_lt hm (List.mem_of_getElem? hk)
        have ea := net_a (g := g) hkl
        have eb := net_b (g := g) hkl
        rw [hkt] at ea eb
        have la' := (netOf p ts g).al k hkl
        have lb' := (netOf p ts g).bl k hkl
        refine ⟨c, _, rfl, SqT.of hc3, rfl, _, _, rfl, _, _, rfl, _, _, rfl, rfl, ?_⟩
        refine (exq rfl (exq rfl (exq rfl ⟨la, foldJ p ts g ((tiesOf (m : Int)).take i), p, (netOf p ts g).a k, (netOf p ts g).b k, ?_, hla, wp, la', lb', fun D H4 hDn s4 hD => ?_⟩)))
        · rw [← ea, ← eb]
          rfl
        · refine ⟨D, _, _, _, rfl, s3.trans s4, ?_⟩
          rw [hD, List.take_add_one, hk]
          show _ = some (HO.lst (mapV (foldJ p ts g ((tiesOf (m : Int)).take i ++ [k])) p))
          rw [foldJ_snoc]
      · rintro σ H3 ⟨la, v3, v4, v5, rfl, s3, hla⟩
        have hys : ys.length = (tiesOf (m : Int)).length := by rw [pr.length, List.length_map]
        rw [hys, List.take_length, foldJ_ties hm] at hla
        have s13 : Same H H3 := (s1.trans s2).trans s3
        refine ⟨dl rfl, fun D hD => ?_⟩
        have t0 : Gath (labOf p ts g m) p H3 D 0 (upd H3 D (.lst [])) := Gath.start hD
        generalize upd H3 D (.lst []) = H4 at t0
        refine (exq rfl (ixq (SqT.of (t0.1 _ _ (s13 _ _ h1))) (atI_nat (j := 0) rfl) (exq rfl ⟨(by (first | lia | omega)), (by (first | lia | omega)), ?_⟩)))
        refine for_range' (lo := 0) (n := (p : Int).toNat) (fun i σ H5 => ∃ v7, σ = [some (.ref wb), some (.int (m : Int)), some (.ref la), v3, v4, v5, some (.ref D), v7] ∧ Gath (labOf p ts g m) p H3 D i H5) ⟨none, rfl, t0⟩ ?_ ?_
        · rintro i D' σ H5 hi ⟨v7, rfl, t5⟩
          rw [Int.toNat_natCast] at hi
          rw [Int.zero_add]
          have hla5 := t5.1 _ _ hla
          refine (exq rfl (exq rfl (ixl (SqL.of hla5) (atI_nat (j := i) (mapV_get hi)) (exq rfl ⟨rfl, exq rfl (?_)⟩))))
          rw [dec_nat]
          by_cases hr : labOf p ts g m i = i
          · rw [decide_eq_true hr]
            obtain ⟨ys0, hD5⟩ : ∃ ys, H5 D = some (.lst ys) := let ⟨_, ys, z, _⟩ := t5; ⟨ys, z⟩
            refine iteT (exq rfl ⟨.inl ⟨rfl, _, SqL.of hD5⟩, exq rfl (ixq (SqT.of (t5.1 _ _ (s13 _ _ h1))) (atI_nat (j := 0) rfl) (exq rfl ⟨(by (first | lia | omega)), (by (first | lia | omega)), fun B hB => comp_range (lo := 0) (m := (p : Int).toNat) (Pick (fun x => decide (labOf p ts g m x = i)) H5 B) (.start hB) (fun i acc H6 _ pk => pk.len) (dl (Nat.ble_eq.mpr (by (first | lia | omega)))) ?_ ?_⟩))⟩)
            · intro x acc H6 hx pk
              rw [Int.toNat_natCast] at hx
              rw [Int.zero_add]
              refine ⟨rfl, exq rfl (exq rfl (ixl (SqL.of (pk.1 _ _ hla5)) (atI_nat (j := x) (mapV_get hx)) (exq rfl ⟨rfl, exq rfl (?_)⟩)))⟩
              rw [dec_nat]
              cases hb : decide (labOf p ts g m x = i) with
              | true => exact (exq rfl (pk.yes hB (Same.refl _) hb))
              | false => exact pk.no (Same.refl _) hb
            · intro acc H6 pk
              have hB6 : H6 B = some (.lst (natsV (pieceOf (labOf p ts g m) p i))) := by rw [pk.2.1, pk.2.2, Int.toNat_natCast]; rfl
              obtain ⟨ys1, hD6, hl1, t7⟩ := t5.push hD hr pk.1 hB hB6
              exact ⟨D, ys1, _, rfl, rfl, hD6, smallL (by (first | lia | omega)), exq rfl (t7)⟩
          · rw [decide_eq_false hr]
            exact iteF (exq rfl (t5.skip hr))
        · rintro σ H5 ⟨v7, rfl, t5⟩
          rw [Int.toNat_natCast] at t5
          obtain ⟨s5, ys5, hD5, pr5, hl5⟩ := t5
          exact (exq rfl (q D ys5 H5 (s13.free hD) (s13.trans s5) hD5 (Paired.imp' (fun _ _ ⟨e, he, hn, h0, z⟩ => ⟨e, he, hn, s13.free h0, z⟩) pr5)))
    · exact .inr ⟨hS, q _ s1⟩
end

def sp_is_ring (C : Addr) : Sp := fun vs H Q E => ∃ w p ts, ∃ g : GoodWeb p ts, ∃ S, vs = [.ref w, .int S] ∧ WebAt H w p ts ∧ OrBad ts S (∀ H', Same H H' → E (.ref C) none H') fun m => ∀ H', Same H H' → Q (.bl (ringB p ts g m)) H'
section
variable {P : Program} {w : World} {K : PySem.W.Frag} {mg : Str → Option Value} {base : Heap} {a : Adr}
theorem G_is_ring (T : Txt K mg a) : FnOk P w K mg base (CX1 P w) 7 a.f_is_ring a.d_is_ring ["web", "tie_set"] (sp_is_ring a.c_BadSet) := by
  have G_is_even : FnOk P w K mg base (CX1 P w) 6 a.f_is_even a.d_is_even ["web", "tie_set"] (sp_is_even a.c_BadSet) := G_is_even T
  have G_pieces : FnOk P w K mg base (CX1 P w) 5 a.f_pieces a.d_pieces ["web", "tie_set"] (sp_pieces a.c_BadSet) := G_pieces T
  have G_ties_in : FnOk P w K mg base CX0 2 a.f_ties_in a.d_ties_in ["tie_set"] sp_ties_in := G_ties_in T
  refine T.F_is_ring.ok1 sc_is_ring (fun vs H Q E h => ?_) (fun cdv A outer s H vs Q E hr h => ?_)
  · obtain ⟨w, p, ts, g, S, rfl, _⟩ := h
    rfl
  · obtain ⟨wb, p, ts, g, S, rfl, hw, q⟩ := h
    refine ⟨_, (@pss_cons _ _ _ _ _ (@ps_if _ _ _ _ _ _ _ _ (@pt_not _ _ _ _ (@pt_val _ _ _ (@pe_call _ _ _ _ _ _ _ _ _ _ _ _ _ _ _ _ G_is_even (hr.mono (by decide)) (by rfl) T.m_is_even T.k_is_even T.b_is_even .nil out_of.passes (@pa_cons _ _ _ _ _ (pv 0) (@pa_cons _ _ _ _ _ (pv 1) pa_nil (by rfl)) (by rfl)) (by decide) (by rfl) (by rfl)) (by intro _; rfl))) (@pss_one _ _ _ (@ps_ret _ _ _ _ pe_bl)) pss_nil) (@pss_cons _ _ _ _ _ (@ps_comp _ _ _ _ _ _ _ ["piece"] [] [] _ _ _ _ 2 _ _ _ sc_is_ring.nd rfl rfl (compText_of (defScope s_is_ring) ["web", "tie_set", "touched"]) rfl (@piL _ _ _ _ K (@pe_call _ _ _ _ _ _ _ _ _ _ _ _ _ _ _ _ G_pieces (hr.mono (by decide)) (by rfl) T.m_pieces T.k_pieces T.b_pieces .nil out_of.passes (@pa_cons _ _ _ _ _ (pv 0) (@pa_cons _ _ _ _ _ (pv 1) pa_nil (by rfl)) (by rfl)) (by decide) (by rfl) (by rfl)) (by rfl)) (fun _ _ _ _ => (pg_name (i := 0) (show (["piece"] : List Str).Nodup by decide +kernel) rfl (Or.inl rfl))) (fun _ _ _ _ => (pts_one (pt_cmpR op_gt (pe_callB (lenK K) (by rfl) T.n_len PySem.boot_len (pa_cons (pv 0) pa_nil)) pe_int (nomark _)))) (fun _ _ _ _ => (pv 0)) (by rfl) (by intro _; rfl)) (@pss_one _ _ _ (@ps_ret _ _ _ _ (@pe_and _ _ _ _ _ _ _ (@pe_cmpR _ _ _ _ _ _ _ _ op_eq (@pe_callB _ _ _ _ _ _ _ _ _ (lenK K) (by rfl) T.n_len PySem.boot_len (@pa_cons _ _ _ _ _ (pv 2) pa_nil (by rfl)) (by decide) (by decide) (by rfl) (by rfl)) pe_int (nomark _)) (@pe_one _ _ _ _ _ (@pe_cmpR _ _ _ _ _ _ _ _ op_eq (@pe_callB _ _ _ _ _ _ _ _ _ (lenK K) (by rfl) T.n_len PySem.boot_len (@pa_cons _ _ _ _ _ (@pe_ix _ _ _ _ _ _ _ (ixL K) (pv 2) pe_int (fun _ _ => rfl)) pa_nil (by rfl)) (by decide) (by decide) (by rfl) (by rfl)) (@pe_callB _ _ _ _ _ _ _ _ _ (lenK K) (by rfl) T.n_len PySem.boot_len (@pa_cons _ _ _ _ _ (@pe_call _ _ _ _ _ _ _ _ _ _ _ _ _ _ _ _ G_ties_in (hr.mono (by decide)) (by rfl) T.m_ties_in T.k_ties_in T.b_ties_in .nil pass0 (@pa_cons _ _ _ _ _ (pv 1) pa_nil (by rfl)) (by decide) (by rfl) (by rfl)) pa_nil (by rfl)) (by decide) (by decide) (by rfl) (by rfl)) (nomark _)))))))), ?_⟩
    refine hd_is_ring ?_
    intro zz0 zz1 zz2
    have W := g.web
    have wp := g.p2
    have wl := g.len
    refine (exq rfl (exq rfl ⟨wb, p, ts, S, rfl, hw, W, ?_⟩))
    rcases q with ⟨m, rfl, hm, q⟩ | ⟨hS, q⟩
    · refine .inl ⟨m, rfl, hm, fun H1 s1 => (exq rfl (?_))⟩
      by_cases ev : oddOf p ts (m : Int) = []
      · rw [decide_eq_true ev]
        rw [ringB_even ev] at q
        refine iteF (exq rfl (exq rfl ⟨wb, p, ts, g, _, rfl, hw.same s1, .inl ⟨m, rfl, hm, fun D ys H2 hDn s2 hD pr => ⟨D, rfl, ⟨_, SqL.of hD⟩, fun C hC => ?_⟩⟩⟩))
        have hyl : ys.length ≤ 10 := by
          rw [pr.length, List.length_map]
          unfold rootsOf
          have := List.length_filter_le (fun x => decide (labOf p ts g m x = x)) (List.range p)
          rw [List.length_range] at this
          exact Nat.le_trans this wp
        refine comp_list (xs := ys) (Sift (fun l => decide (1 < l.length)) ((rootsOf (labOf p ts g m) p).map (pieceOf (labOf p ts g m) p)) H2 C) (.start hC) (fun i acc H3 _ sf => ⟨SqL.of (sf.1 _ _ hD), sf.len⟩) (small24 (by (first | lia | omega))) ?_ ?_
        · intro i x acc H3 hx sf
          obtain ⟨l, hl, b, rfl, hbn, hb0, hb⟩ := Paired.getP pr hx
          refine ⟨rfl, exq rfl (lnq rfl (.inl (SqL.of (sf.1 _ _ hb))) (ijq (exq rfl (?_))))⟩
          cases hb2 : decide (1 < l.length) with
          | true =>
            have e : decide ((1 : Int) < ((natsV l).length : Int)) = true := decide_eq_true (by have := of_decide_eq_true hb2; rw [natsV_len]; (first | lia | omega))
            show if decide ((1 : Int) < ((natsV l).length : Int)) = true then _ else _
            rw [e]
            exact iteT (exq rfl (sf.yes hC hl hb2 ⟨b, rfl, hb⟩))
          | false =>
            have e : decide ((1 : Int) < ((natsV l).length : Int)) = false := decide_eq_false (by have := of_decide_eq_false hb2; rw [natsV_len]; (first | lia | omega))
            show if decide ((1 : Int) < ((natsV l).length : Int)) = true then _ else _
            rw [e]
            exact iteF (sf.no hl hb2)
        · intro acc H3 sf
          have pa : Paired (LstA H2) acc ((touchedOf (labOf p ts g m) p).map (pieceOf (labOf p ts g m) p)) := by
            have h := sf.2.2
            rw [pr.length, List.take_length, List.filter_map] at h
            exact h
          have hal := pa.length
          rw [List.length_map] at hal
          refine (exq rfl (lnq rfl (.inl (SqL.of sf.2.1)) ⟨rfl, exq rfl (?_)⟩))
          have s13 := (s1.trans s2).trans sf.1
          have hb24 : Builtin.Int.intBits (m : Int) ≤ ts.length := bits_le hm
          generalize touchedOf (labOf p ts g m) p = tl at q pa hal
          cases tl with
          | nil =>
            have hal : acc.length = 0 := hal
            rw [hal]
            exact iteF (q H3 s13)
          | cons s r =>
            cases r with
            | nil =>
              cases pa with
              | cons hy pn =>
                cases pn
                obtain ⟨b, rfl, hb⟩ := hy
                refine iteT (exq rfl (ixl (SqL.of sf.2.1) (atI_nat (j := 0) rfl) (lnq rfl (.inl (SqL.of (sf.1 _ _ hb))) (exq rfl ⟨m, rfl, by (first | lia | omega), fun D4 H4 hn4 s4 hD4 => (lnq rfl (.inl (SqL.of hD4)) ⟨rfl, ?_⟩)⟩))))
                rw [natsV_len, natsV_len, dec_nat]
                exact q H4 (s13.trans s4)
            | cons t r =>
              have hal : acc.length = r.length + 2 := hal
              have e : decide (V.int ((acc.length : Nat) : Int) = V.int 1) = false := decide_eq_false fun z => by
                have := V.int.inj z
                (first | lia | omega)
              rw [e]
              exact iteF (q H3 s13)
      · rw [decide_eq_false ev]
        have er : ringB p ts g m = false := by
          unfold ringB
          rw [decide_eq_false ev, Bool.false_and]
        rw [er] at q
        exact iteT (q H1 s1)
    · exact .inr ⟨hS, q⟩
end

theorem tie_at {H : Hp} {xs : List V} {p : Nat} {ts : List Tie} {g : GoodWeb p ts} {k : Nat} (h3 : Paired (TupAt H) xs ts) (hk : k < ts.length) : ∃ c, xs[k]? = some (.ref c) ∧ H c = some (.tup [.int (((netOf p ts g).a k : Nat) : Int), .int (((netOf p ts g).b k : Nat) : Int), .int (tieAt ts k).2.2]) := tie_in h3 hk

def sp_common : Sp := fun vs H Q _ => ∃ S1 S2, ∃ a b : Nat, vs = [.int S1, .int S2] ∧ S1 = (a : Int) ∧ S2 = (b : Int) ∧ Builtin.Int.intBits ((a &&& b : Nat) : Int) ≤ 1000 ∧ ∀ H', Same H H' → Q (.int (((tiesOf ((a &&& b : Nat) : Int)).length : Nat) : Int)) H'
def sp_bears : Sp := fun vs H Q _ => ∃ S1 S2, ∃ a b : Nat, vs = [.int S1, .int S2] ∧ S1 = (a : Int) ∧ S2 = (b : Int) ∧ Builtin.Int.intBits ((a &&& b : Nat) : Int) ≤ 1000 ∧ ∀ H', Same H H' → Q (.bl (decide ((tiesOf ((a &&& b : Nat) : Int)).length % 2 = 1))) H'
structure Side (p : Nat) (xs : List Nat) : Prop where
  up : xs.Pairwise (· < ·)
  lt : ∀ x ∈ xs, x < p
def sp_is_side : Sp := fun vs H Q _ => ∃ w p ts, ∃ (l : Addr) (xs : List Nat), vs = [.ref w, .ref l] ∧ WebAt H w p ts ∧ H l = some (.lst (natsV xs)) ∧ Side p xs ∧ Q (.bl true) H
def sp_set_of : Sp := fun vs H Q _ => ∃ w p ts, ∃ (l : Addr) (ks : List Nat), vs = [.ref w, .ref l] ∧ WebAt H w p ts ∧ Web p ts ∧ H l = some (.lst (natsV ks)) ∧ (∀ k ∈ ks, k < ts.length) ∧ Q (.int ((orM ks : Nat) : Int)) H
def sp_cut_of : Sp := fun vs H Q _ => ∃ w p ts, ∃ g : GoodWeb p ts, ∃ (l : Addr) (xs : List Nat), vs = [.ref w, .ref l] ∧ WebAt H w p ts ∧ H l = some (.lst (natsV xs)) ∧ Side p xs ∧
  ∀ H', Same H H' → Q (.int (((netOf p ts g).cut (fun x => decide (x ∈ xs)) : Nat) : Int)) H'
theorem side_filter (p : Nat) (f : Nat → Bool) : Side p ((List.range p).filter f) := ⟨pair_range, fun x hx => List.mem_range.mp (List.mem_filter.mp hx).1⟩
theorem len_mod (n : Nat) : decide (V.int (((n : Nat) : Int) % 2) = V.int 1) = decide (n % 2 = 1) := decide_eq_decide.mpr ⟨fun z => by have := V.int.inj z; (first | lia | omega), fun z => congrArg V.int (by (first | lia | omega))⟩
section
variable {P : Program} {w : World} {K : PySem.W.Frag} {mg : Str → Option Value} {base : Heap} {a : Adr}
theorem G_common (T : Txt K mg a) : FnOk P w K mg base CX0 3 a.f_common a.d_common ["one", "other"] sp_common := by
  have G_ties_in : FnOk P w K mg base CX0 2 a.f_ties_in a.d_ties_in ["tie_set"] sp_ties_in := G_ties_in T
  refine T.F_common.ok sc_common (fun vs H Q E h => ?_) (fun cdv A outer s H vs Q E hr h => ?_)
  · obtain ⟨S1, S2, u, v, rfl, _⟩ := h
    rfl
  · obtain ⟨S1, S2, u, v, rfl, rfl, rfl, hb, q⟩ := h
    refine ⟨_, (@pss_one _ _ _ (@ps_ret _ _ _ _ (@pe_callB _ _ _ _ _ _ _ _ _ (lenK K) (by rfl) T.n_len PySem.boot_len (@pa_cons _ _ _ _ _ (@pe_call _ _ _ _ _ _ _ _ _ _ _ _ _ _ _ _ G_ties_in (hr.mono (by decide)) (by rfl) T.m_ties_in T.k_ties_in T.b_ties_in .nil pass0 (@pa_cons _ _ _ _ _ (@pe_op _ _ _ _ _ _ _ _ op_and (pv 0) (pv 1)) pa_nil (by rfl)) (by decide) (by rfl) (by rfl)) pa_nil (by rfl)) (by decide) (by decide) (by rfl) (by rfl)))), ?_⟩
    refine (exq rfl (exq rfl (ijq ⟨u &&& v, ?_, hb, fun D H1 hn s1 hD => (lnq rfl (.inl (SqL.of hD)) (?_))⟩)))
    · show [V.int (Builtin.bitAnd _ _)] = _
      rw [and_int]
    · rw [natsV_len]
      exact q H1 s1
theorem G_bears_oddly (T : Txt K mg a) : FnOk P w K mg base CX0 4 a.f_bears_oddly a.d_bears_oddly ["tie_set", "marks"] sp_bears := by
  have G_common : FnOk P w K mg base CX0 3 a.f_common a.d_common ["one", "other"] sp_common := G_common T
  refine T.F_bears_oddly.ok sc_bears_oddly (fun vs H Q E h => ?_) (fun cdv A outer s H vs Q E hr h => ?_)
  · obtain ⟨S1, S2, u, v, rfl, _⟩ := h
    rfl
  · obtain ⟨S1, S2, u, v, rfl, rfl, rfl, hb, q⟩ := h
    refine ⟨_, (@pss_one _ _ _ (@ps_ret _ _ _ _ (@pe_cmpR _ _ _ _ _ _ _ _ op_eq (@pe_op _ _ _ _ _ _ _ _ op_mod (@pe_call _ _ _ _ _ _ _ _ _ _ _ _ _ _ _ _ G_common (hr.mono (by decide)) (by rfl) T.m_common T.k_common T.b_common .nil pass0 (@pa_cons _ _ _ _ _ (pv 0) (@pa_cons _ _ _ _ _ (pv 1) pa_nil (by rfl)) (by rfl)) (by decide) (by rfl) (by rfl)) pe_int) pe_int (nomark _)))), ?_⟩
    refine (exq rfl (exq rfl ⟨_, _, u, v, rfl, rfl, rfl, hb, fun H1 s1 => (ijq ⟨(modC rfl), rfl, ?_⟩)⟩))
    rw [len_mod]
    exact q H1 s1
theorem G_is_side (T : Txt K mg a) : FnOk P w K mg base CX0 1 a.f_is_side a.d_is_side ["web", "side"] sp_is_side := by
  refine T.F_is_side.ok sc_is_side (fun vs H Q E h => ?_) (fun cdv A outer s H vs Q E hr h => ?_)
  · obtain ⟨w, p, ts, l, xs, rfl, _⟩ := h
    rfl
  · obtain ⟨wb, p, ts, l, zs, rfl, hw, hl, sd, q⟩ := h
    refine ⟨_, (@pss_cons _ _ _ _ _ (@ps_set _ _ 2 _ _ _ _ sc_is_side.nd rfl (Or.inl rfl) (@pe_un _ _ _ _ _ _ un_neg pe_int) (by rfl) (by first | exact .inl rfl | exact .inr rfl | assumption)) (@pss_cons _ _ _ _ _ (@ps_for _ _ _ _ _ _ _ _ PassesOwn.never rfl (@piL _ _ _ _ K (pv 1) (by rfl)) (pg_name (i := 3) sc_is_side.nd rfl (Or.inl rfl)) (@pss_cons _ _ _ _ _ (@ps_if _ _ _ _ _ _ _ _ (PW.pt (@pw_or _ _ _ _ _ _ _ (@pt_cmpR _ _ _ _ _ _ _ _ op_le (pv 3) (pv 2) (nomark _)) (@pw_or1 _ _ _ _ (@pt_cmpR _ _ _ _ _ _ _ _ op_ge (pv 3) (@pe_ix _ _ _ _ _ _ _ (ixT K) (pv 0) pe_int (fun _ _ => rfl)) (nomark _))))) (@pss_one _ _ _ (@ps_ret _ _ _ _ pe_bl)) pss_nil) (@pss_one _ _ _ (@ps_set _ _ 2 _ _ _ _ sc_is_side.nd rfl (Or.inl rfl) (pv 3) (by rfl) (by first | exact .inl rfl | exact .inr rfl | assumption)))) (by intro _; rfl)) (@pss_one _ _ _ (@ps_ret _ _ _ _ pe_bl)))), ?_⟩
    refine hd_is_side ?_
    intro zz0 zz1 zz2 zz3 zz4
    obtain ⟨bt, xs, h1, h2, h3⟩ := id hw.ex
    refine (exq rfl (exq rfl ⟨l, rfl, ⟨_, SqL.of hl⟩, for_list (K := K) (a := l) (xs := natsV zs) (fun i σ H2 => ∃ z v3, σ = [some (.ref wb), some (.ref l), some (.int z), v3] ∧ H2 = H ∧ ∀ x ∈ zs.drop i, z < (x : Int)) ⟨_, none, rfl, rfl, fun x _ => by show (-1 : Int) < _; (first | lia | omega)⟩ (fun i σ H2 _ ⟨_, _, _, z, _⟩ => by rw [z]; exact SqL.of hl) ?_ ?_⟩))
    · rintro i y σ H2 hy ⟨z, v3, rfl, rfl, hz⟩
      obtain ⟨x, hx, rfl⟩ := natsV_get hy
      have hdr : zs.drop i = x :: zs.drop (i + 1) := by
        obtain ⟨hi, e⟩ := List.getElem?_eq_some_iff.mp hx
        rw [List.drop_eq_getElem_cons hi, e]
      have hzx := hz x (by rw [hdr]; exact List.mem_cons_self)
      have hxp := sd.lt x (List.mem_of_getElem? hx)
      refine (exq rfl (exq rfl (ijq (exq rfl (iteD (by (first | lia | omega)) (exq rfl (exq rfl (ixq (SqT.of h1) (atI_nat (j := 0) rfl) (ijq (exq rfl (iteD (by (first | lia | omega)) ?_)))))))))))
      refine (exq rfl ⟨(x : Int), exq rfl ⟨rfl, fun y hy => ?_⟩⟩)
      have pw : (zs.drop i).Pairwise (· < ·) := sd.up.sublist (List.drop_sublist _ _)
      rw [hdr] at pw
      have := (List.pairwise_cons.mp pw).1 y hy
      (first | lia | omega)
    · rintro σ H2 ⟨z, v3, rfl, rfl, _⟩
      exact q
theorem G_set_of (T : Txt K mg a) : FnOk P w K mg base CX0 1 a.f_set_of a.d_set_of ["web", "ties"] sp_set_of := by
  refine T.F_set_of.ok sc_set_of (fun vs H Q E h => ?_) (fun cdv A outer s H vs Q E hr h => ?_)
  · obtain ⟨w, p, ts, l, ks, rfl, _⟩ := h
    rfl
  · obtain ⟨wb, p, ts, l, ks, rfl, hw, W, hl, hk, q⟩ := h
    refine ⟨_, (@pss_cons _ _ _ _ _ (@ps_set _ _ 2 _ _ _ _ sc_set_of.nd rfl (Or.inl rfl) pe_int (by rfl) (by first | exact .inl rfl | exact .inr rfl | assumption)) (@pss_cons _ _ _ _ _ (@ps_for _ _ _ _ _ _ _ _ PassesOwn.never rfl (@piL _ _ _ _ K (pv 1) (by rfl)) (pg_name (i := 3) sc_set_of.nd rfl (Or.inl rfl)) (@pss_cons _ _ _ _ _ (@ps_if _ _ _ _ _ _ _ _ (PW.pt (@pw_or _ _ _ _ _ _ _ (@pt_cmpR _ _ _ _ _ _ _ _ op_lt (pv 3) pe_int (nomark _)) (@pw_or1 _ _ _ _ (@pt_cmpR _ _ _ _ _ _ _ _ op_ge (pv 3) (@pe_callB _ _ _ _ _ _ _ _ _ (lenK K) (by rfl) T.n_len PySem.boot_len (@pa_cons _ _ _ _ _ (@pe_ix _ _ _ _ _ _ _ (ixT K) (pv 0) pe_int (fun _ _ => rfl)) pa_nil (by rfl)) (by decide) (by decide) (by rfl) (by rfl)) (nomark _))))) pss_never pss_nil) (@pss_one _ _ _ (@ps_aug _ _ 2 _ _ _ _ _ _ sc_set_of.nd rfl (Or.inl rfl) (@pe_op _ _ _ _ _ _ _ _ op_shl pe_int (pv 3)) iop_or (by first | exact .inl rfl | exact .inr rfl | assumption)))) (by intro _; rfl)) (@pss_one _ _ _ (@ps_ret _ _ _ _ (pv 2))))), ?_⟩
    refine hd_set_of ?_
    intro zz0 zz1 zz2 zz3 zz4
    obtain ⟨bt, xs, h1, h2, h3⟩ := id hw.ex
    have hxl := h3.length
    have wl := W.len
    refine (exq rfl ⟨l, rfl, ⟨_, SqL.of hl⟩, for_list (K := K) (a := l) (xs := natsV ks) (fun i σ H2 => ∃ v3, σ = [some (.ref wb), some (.ref l), some (.int ((orM (ks.take i) : Nat) : Int)), v3] ∧ H2 = H) ⟨none, rfl, rfl⟩ (fun i σ H2 _ ⟨_, _, z⟩ => by rw [z]; exact SqL.of hl) ?_ ?_⟩)
    · rintro i x σ H2 hx ⟨v3, rfl, rfl⟩
      obtain ⟨k, hki, rfl⟩ := natsV_get hx
      have hkn := hk k (List.mem_of_getElem? hki)
      refine (exq rfl (ijq (exq rfl (iteD (by (first | lia | omega)) (exq rfl (exq rfl (ixq (SqT.of h1) (atI_nat (j := 1) rfl) (lnq rfl (.inr (SqT.of h2)) (ijq (exq rfl (iteD (by (first | lia | omega)) ?_)))))))))))
      refine (exq rfl (exq rfl (ijq ⟨⟨by (first | lia | omega), by (first | lia | omega), by decide⟩, ijq ⟨some (.int (k : Int)), ?_, rfl⟩⟩)))
      show [_, _, some (V.int (Builtin.bitOr _ (1 * 2 ^ (k : Int).toNat))), _] = _
      rw [shl_int, or_int, List.take_add_one, hki]
      unfold Ring.orM
      rw [List.foldl_append]
      rfl
    · rintro σ H2 ⟨v3, rfl, rfl⟩
      rw [natsV_len, List.take_length]
      exact (exq rfl (q))
theorem G_cut_of (T : Txt K mg a) : FnOk P w K mg base CX0 2 a.f_cut_of a.d_cut_of ["web", "side"] sp_cut_of := by
  have G_is_side : FnOk P w K mg base CX0 1 a.f_is_side a.d_is_side ["web", "side"] sp_is_side := G_is_side T
  have G_set_of : FnOk P w K mg base CX0 1 a.f_set_of a.d_set_of ["web", "ties"] sp_set_of := G_set_of T
  refine T.F_cut_of.ok sc_cut_of (fun vs H Q E h => ?_) (fun cdv A outer s H vs Q E hr h => ?_)
  · obtain ⟨w, p, ts, g, l, xs, rfl, _⟩ := h
    rfl
  · obtain ⟨wb, p, ts, g, l, zs, rfl, hw, hl, sd, q⟩ := h
    refine ⟨_, (@pss_cons _ _ _ _ _ (@ps_if _ _ _ _ _ _ _ _ (@pt_not _ _ _ _ (@pt_val _ _ _ (@pe_call _ _ _ _ _ _ _ _ _ _ _ _ _ _ _ _ G_is_side (hr.mono (by decide)) (by rfl) T.m_is_side T.k_is_side T.b_is_side .nil pass0 (@pa_cons _ _ _ _ _ (pv 0) (@pa_cons _ _ _ _ _ (pv 1) pa_nil (by rfl)) (by rfl)) (by decide) (by rfl) (by rfl)) (by intro _; rfl))) pss_never pss_nil) (@pss_one _ _ _ (@ps_ret _ _ _ _ (@pe_call _ _ _ _ _ _ _ _ _ _ _ _ _ _ _ _ G_set_of (hr.mono (by decide)) (by rfl) T.m_set_of T.k_set_of T.b_set_of .nil pass0 (@pa_cons _ _ _ _ _ (pv 0) (@pa_cons _ _ _ _ _ (@pe_comp _ _ _ _ _ _ _ ["k", "tie"] ["side"] [1] _ _ _ _ (compText_of (defScope s_cut_of) ["web", "side"]) rfl (@pi_enumT _ _ _ _ K _ _ _ _ (by rfl) T.n_enumerate (@pa_cons _ _ _ _ _ (@pe_ix _ _ _ _ _ _ _ (ixT K) (pv 0) pe_int (fun _ _ => rfl)) pa_nil (by rfl)) (by rfl) (by rfl)) (fun _ _ _ _ => (pgT K (n := 2) rfl (pgs_cons (pg_name (i := 0) (show (["k", "tie", "side"] : List Str).Nodup by decide +kernel) rfl (Or.inl rfl)) (pgs_cons (pg_name (i := 1) (show (["k", "tie", "side"] : List Str).Nodup by decide +kernel) rfl (Or.inl rfl)) pgs_nil)))) (fun _ _ _ _ => (pts_one (pt_cmpR op_ne (pe_cmpR (inK K) (pe_ix (ixT K) (pv 1) pe_int (fun _ _ => rfl)) (pv 2) (by with_unfolding_all rfl)) (pe_cmpR (inK K) (pe_ix (ixT K) (pv 1) pe_int (fun _ _ => rfl)) (pv 2) (by with_unfolding_all rfl)) (nomark _)))) (fun _ _ _ _ => (pv 0)) (by intro _; rfl)) pa_nil (by rfl)) (by rfl)) (by decide) (by rfl) (by rfl))))), ?_⟩
    refine hd_cut_of ?_
    intro zz0 zz1
    obtain ⟨bt, xs, h1, h2, h3⟩ := id hw.ex
    have hxl := h3.length
    have wl := g.len
    refine (exq rfl (exq rfl ⟨wb, p, ts, l, zs, rfl, hw, hl, sd, _, rfl, iteF ?_⟩))
    refine (exq rfl (exq rfl (ixq (SqT.of h1) (atI_nat (j := 1) rfl) ⟨bt, rfl, ⟨_, SqT.of h2⟩, fun D hD => comp_enumT (xs := xs) (Pick (fun k => decide ((netOf p ts g).a k ∈ zs) ^^ decide ((netOf p ts g).b k ∈ zs)) H D) (.start hD) (fun i acc H2 _ pk => ⟨SqT.of (pk.1 _ _ h2), pk.len⟩) (small24 (by (first | lia | omega))) ?_ ?_⟩)))
    · intro i x T0 acc H2 hx pk hT
      have hi : i < ts.length := by have := (List.getElem?_eq_some_iff.mp hx).1; (first | lia | omega)
      obtain ⟨b, hxb, hct⟩ := tie_at (g := g) h3 hi
      rw [hx] at hxb
      cases hxb
      have hct2 : upd H2 T0 (.tup [.int (i : Int), .ref b]) b = some _ := Same.new hT _ _ (pk.1 _ _ hct)
      have hl2 : upd H2 T0 (.tup [.int (i : Int), .ref b]) l = some _ := Same.new hT _ _ (pk.1 _ _ hl)
      refine ⟨T0, _, rfl, SqT.of upd_same, rfl, _, _, rfl, _, _, rfl, rfl, rfl, ?_⟩
      refine (exq rfl (ixq (SqT.of hct2) (atI_nat (j := 0) rfl) (exq rfl (lnq rfl (.inl (SqL.of hl2)) ⟨rfl, flat_nats _, _, rfl, ixq (SqT.of hct2) (atI_nat (j := 1) rfl) (exq rfl (lnq rfl (.inl (SqL.of hl2)) ⟨rfl, flat_nats _, rfl, exq rfl (?_)⟩))⟩))))
      rw [inV_nats, inV_nats]
      cases e1 : decide ((netOf p ts g).a i ∈ zs) <;> cases e2 : decide ((netOf p ts g).b i ∈ zs)
      · exact pk.no (Same.new hT) (by rw [e1, e2]; rfl)
      · exact (exq rfl (pk.yes hD (Same.new hT) (by rw [e1, e2]; rfl)))
      · exact (exq rfl (pk.yes hD (Same.new hT) (by rw [e1, e2]; rfl)))
      · exact pk.no (Same.new hT) (by rw [e1, e2]; rfl)
    · intro acc H2 pk
      refine ⟨wb, p, ts, D, _, rfl, hw.same pk.1, g.web, by rw [pk.2.1, pk.2.2], fun k hk => ?_, ?_⟩
      · have := List.mem_range.mp (List.mem_filter.mp hk).1
        (first | lia | omega)
      · rw [orM_filter, hxl]
        exact q H2 pk.1
end

def sp_length_of (C : Addr) : Sp := fun vs H Q E => ∃ w p ts S, vs = [.ref w, .int S] ∧ WebAt H w p ts ∧ Web p ts ∧ OrBad ts S (∀ H', Same H H' → E (.ref C) none H') fun m => ∀ H', Same H H' → Q (.int (lenOf ts m)) H'
section
variable {P : Program} {w : World} {K : PySem.W.Frag} {mg : Str → Option Value} {base : Heap} {a : Adr}
theorem G_length_of (T : Txt K mg a) : FnOk P w K mg base (CX1 P w) 5 a.f_length_of a.d_length_of ["web", "tie_set"] (sp_length_of a.c_BadSet) := by
  have G_triples_in : FnOk P w K mg base (CX1 P w) 4 a.f_triples_in a.d_triples_in ["web", "tie_set"] (sp_triples_in a.c_BadSet) := G_triples_in T
  refine T.F_length_of.ok1 sc_length_of (fun vs H Q E h => ?_) (fun cdv A outer s H vs Q E hr h => ?_)
  · obtain ⟨w, p, ts, S, rfl, _⟩ := h
    rfl
  · obtain ⟨wb, p, ts, S, rfl, hw, W, q⟩ := h
    refine ⟨_, (@pss_one _ _ _ (@ps_ret _ _ _ _ (@pe_callB _ _ _ _ _ _ _ _ _ (sumK K rfl) (by rfl) T.n_sum PyProof.Rows.boot_sum (@pa_cons _ _ _ _ _ (@pe_comp _ _ _ _ _ _ _ ["tie"] [] [] _ _ _ _ (compText_of (defScope s_length_of) ["web", "tie_set"]) rfl (@piL _ _ _ _ K (@pe_call _ _ _ _ _ _ _ _ _ _ _ _ _ _ _ _ G_triples_in (hr.mono (by decide)) (by rfl) T.m_triples_in T.k_triples_in T.b_triples_in .nil out_of.passes (@pa_cons _ _ _ _ _ (pv 0) (@pa_cons _ _ _ _ _ (pv 1) pa_nil (by rfl)) (by rfl)) (by decide) (by rfl) (by rfl)) (by rfl)) (fun _ _ _ _ => (pg_name (i := 0) (show (["tie"] : List Str).Nodup by decide +kernel) rfl (Or.inl rfl))) (fun _ _ _ _ => pts_nil) (fun _ _ _ _ => (pe_ix (ixT K) (pv 0) pe_int (fun _ _ => rfl))) (by intro _; rfl)) pa_nil (by rfl)) (by decide) (by decide) (by rfl) (by rfl)))), ?_⟩
    refine (exq rfl (exq rfl ⟨wb, p, ts, S, rfl, hw, W, ?_⟩))
    rcases q with ⟨m, rfl, hm, q⟩ | ⟨hS, q⟩
    · refine .inl ⟨m, rfl, hm, fun L ys H1 hLn s1 hL pr => ⟨L, rfl, ⟨_, SqL.of hL⟩, fun D hD => ?_⟩⟩
      have wl := W.len
      have hyl : ys.length = (tiesOf (m : Int)).length := by rw [pr.length, List.length_map]
      have hyl2 : ys.length ≤ 24 := by
        rw [hyl]
        have hb : Builtin.Int.intBits (m : Int) ≤ ts.length := bits_le hm
        have := List.length_filter_le (bit (m : Int)) (List.range (Builtin.Int.intBits (m : Int)))
        rw [List.length_range] at this
        exact Nat.le_trans this (by (first | lia | omega))
      refine comp_list (xs := ys) (Mapl (fun k => (tieAt ts k).2.2) (tiesOf (m : Int)) H1 D) (.start hD) (fun i acc H2 _ pm => ⟨SqL.of (pm.1 _ _ hL), pm.len⟩) (small24 hyl2) ?_ ?_
      · intro i x acc H2 hx pm
        obtain ⟨t, ht, c, rfl, hc⟩ := Paired.getP pr hx
        rw [List.getElem?_map] at ht
        obtain ⟨k, hk, rfl⟩ := Option.map_eq_some_iff.mp ht
        exact ⟨rfl, exq rfl (ixq (SqT.of (pm.1 _ _ hc)) (atI_nat (j := 2) rfl) (pm.next hD (Same.refl _) hk rfl))⟩
      · intro acc H2 pm
        rw [hyl] at pm
        exact ⟨D, _, rfl, SqL.of pm.fin, q H2 (s1.trans pm.1)⟩
    · exact .inr ⟨hS, q _ (Same.refl _)⟩
end

def sideFrom (p : Nat) : Int → List Int → Bool
  | _, [] => true
  | z, x :: r => if x ≤ z ∨ (p : Int) ≤ x then false else sideFrom p x r
theorem sideFrom_cons (p : Nat) (z x : Int) (r : List Int) : sideFrom p z (x :: r) = if x ≤ z ∨ (p : Int) ≤ x then false else sideFrom p x r := rfl
theorem sideFrom_iff {p : Nat} : ∀ {zs : List Int} {z : Int}, -1 ≤ z → (sideFrom p z zs = true ↔ ∃ xs : List Nat, zs = xs.map (fun x => ((x : Nat) : Int)) ∧ Side p xs ∧ ∀ x ∈ xs, z < ((x : Nat) : Int))
  | [], z, _ => ⟨fun _ => ⟨[], rfl, ⟨List.Pairwise.nil, (fun _ h => nomatch h)⟩, (fun _ h => nomatch h)⟩, fun _ => rfl⟩
  | x :: r, z, hz => by
    unfold sideFrom
    by_cases h : x ≤ z ∨ (p : Int) ≤ x
    · rw [if_pos h]
      refine ⟨(fun e => by cases e), ?_⟩
      rintro ⟨xs, e, sd, hx⟩
      cases xs with
      | nil => cases e
      | cons y ys =>
        obtain ⟨e1, _⟩ := List.cons.inj e
        have e1 : x = ((y : Nat) : Int) := e1
        have h1 := hx y List.mem_cons_self
        have h2 := sd.lt y List.mem_cons_self
        (first | lia | omega)
    · rw [if_neg h, sideFrom_iff (by (first | lia | omega))]
      obtain ⟨y, rfl⟩ := Int.eq_ofNat_of_zero_le (show (0 : Int) ≤ x by (first | lia | omega))
      constructor
      · rintro ⟨xs, rfl, sd, hx⟩
        refine ⟨y :: xs, rfl, ⟨List.pairwise_cons.mpr ⟨fun w hw => by have := hx w hw; (first | lia | omega), sd.up⟩, fun w hw => ?_⟩, fun w hw => ?_⟩
        · rcases List.mem_cons.mp hw with e | e
          · (first | lia | omega)
          · exact sd.lt w e
        · rcases List.mem_cons.mp hw with e | e
          · (first | lia | omega)
          · have := hx w e
            (first | lia | omega)
      · rintro ⟨xs, e, sd, hx⟩
        cases xs with
        | nil => cases e
        | cons y' ys =>
          obtain ⟨e1, e2⟩ := List.cons.inj e
          have e1 : ((y : Nat) : Int) = ((y' : Nat) : Int) := e1
          have ey : y = y' := by (first | lia | omega)
          subst ey
          exact ⟨ys, e2, ⟨(List.pairwise_cons.mp sd.up).2, fun w hw => sd.lt w (List.mem_cons_of_mem _ hw)⟩, fun w hw => by have := (List.pairwise_cons.mp sd.up).1 w hw; (first | lia | omega)⟩
def AnsAt (H : Hp) (b : Addr) : List Int ⊕ Int → Prop
  | .inl zs => ∃ l, H b = some (.tup [.str "side", .ref l]) ∧ H l = some (.lst (zs.map V.int)) ∧ zs.length ≤ 40
  | .inr z => H b = some (.tup [.str "ring", .int z])
def Right (p : Nat) (ts : List Tie) (g : GoodWeb p ts) (m : Nat) : List Int ⊕ Int → Prop
  | .inl zs => ∃ xs : List Nat, zs = xs.map (fun x => ((x : Nat) : Int)) ∧ Side p xs ∧ (netOf p ts g).cut (fun x => decide (x ∈ xs)) = m
  | .inr z => ∃ r : Nat, z = (r : Int) ∧ r < 2 ^ ts.length ∧ (netOf p ts g).Ring r ∧ (tiesOf ((r &&& m : Nat) : Int)).length % 2 = 1
def sp_is_ring_number : Sp := fun vs H Q _ => ∃ w p ts, ∃ g : GoodWeb p ts, ∃ S : Int, vs = [.ref w, .int S] ∧ WebAt H w p ts ∧ ∀ H' (d : Bool), Same H H' → (d = true ↔ ∃ m : Nat, S = (m : Int) ∧ m < 2 ^ ts.length ∧ (netOf p ts g).Ring m) → Q (.bl d) H'
def sp_is_sideI : Sp := fun vs H Q _ => ∃ w p ts, ∃ (l : Addr) (zs : List Int), vs = [.ref w, .ref l] ∧ WebAt H w p ts ∧ H l = some (.lst (zs.map V.int)) ∧ Q (.bl (sideFrom p (-1) zs)) H
def sp_is_side_of : Sp := fun vs H Q _ => ∃ w p ts, ∃ g : GoodWeb p ts, ∃ (l : Addr) (zs : List Int) (m : Nat), vs = [.ref w, .ref l, .int (m : Int)] ∧ WebAt H w p ts ∧ H l = some (.lst (zs.map V.int)) ∧ ∀ H' (d : Bool), Same H H' → (d = true ↔ Right p ts g m (.inl zs)) → Q (.bl d) H'
section
variable {P : Program} {w : World} {K : PySem.W.Frag} {mg : Str → Option Value} {base : Heap} {a : Adr}
theorem G_is_sideI (T : Txt K mg a) : FnOk P w K mg base CX0 1 a.f_is_side a.d_is_side ["web", "side"] sp_is_sideI := by
  refine T.F_is_side.ok sc_is_side (fun vs H Q E h => ?_) (fun cdv A outer s H vs Q E hr h => ?_)
  · obtain ⟨w, p, ts, l, zs, rfl, _⟩ := h
    rfl
  · obtain ⟨wb, p, ts, l, zs, rfl, hw, hl, q⟩ := h
    refine ⟨_, (@pss_cons _ _ _ _ _ (@ps_set _ _ 2 _ _ _ _ sc_is_side.nd rfl (Or.inl rfl) (@pe_un _ _ _ _ _ _ un_neg pe_int) (by rfl) (by first | exact .inl rfl | exact .inr rfl | assumption)) (@pss_cons _ _ _ _ _ (@ps_for _ _ _ _ _ _ _ _ PassesOwn.never rfl (@piL _ _ _ _ K (pv 1) (by rfl)) (pg_name (i := 3) sc_is_side.nd rfl (Or.inl rfl)) (@pss_cons _ _ _ _ _ (@ps_if _ _ _ _ _ _ _ _ (PW.pt (@pw_or _ _ _ _ _ _ _ (@pt_cmpR _ _ _ _ _ _ _ _ op_le (pv 3) (pv 2) (nomark _)) (@pw_or1 _ _ _ _ (@pt_cmpR _ _ _ _ _ _ _ _ op_ge (pv 3) (@pe_ix _ _ _ _ _ _ _ (ixT K) (pv 0) pe_int (fun _ _ => rfl)) (nomark _))))) (@pss_one _ _ _ (@ps_ret _ _ _ _ pe_bl)) pss_nil) (@pss_one _ _ _ (@ps_set _ _ 2 _ _ _ _ sc_is_side.nd rfl (Or.inl rfl) (pv 3) (by rfl) (by first | exact .inl rfl | exact .inr rfl | assumption)))) (by intro _; rfl)) (@pss_one _ _ _ (@ps_ret _ _ _ _ pe_bl)))), ?_⟩
    refine hd_is_side ?_
    intro zz0 zz1 zz2 zz3 zz4
    obtain ⟨bt, xs, h1, h2, h3⟩ := id hw.ex
    refine (exq rfl (exq rfl ⟨l, rfl, ⟨_, SqL.of hl⟩, for_list' (K := K) (a := l) (xs := zs.map V.int) (fun i σ H2 => ∃ z v3, σ = [some (.ref wb), some (.ref l), some (.int z), v3] ∧ H2 = H ∧ sideFrom p z (zs.drop i) = sideFrom p (-1) zs) ⟨-1, none, rfl, rfl, rfl⟩ (fun i σ H2 _ ⟨_, _, _, z, _⟩ => by rw [z]; exact SqL.of hl) ?_ ?_⟩))
    · rintro i y D' σ H2 hy ⟨z, v3, rfl, rfl, hz⟩
      rw [List.getElem?_map] at hy
      obtain ⟨x, hx, rfl⟩ := Option.map_eq_some_iff.mp hy
      have hdr : zs.drop i = x :: zs.drop (i + 1) := by
        obtain ⟨hi, e⟩ := List.getElem?_eq_some_iff.mp hx
        rw [List.drop_eq_getElem_cons hi, e]
      rw [hdr, sideFrom_cons] at hz
      refine (exq rfl (exq rfl (ijq (exq rfl (?_)))))
      by_cases c1 : x ≤ z
      · rw [if_pos (.inl c1)] at hz
        rw [decide_eq_true c1]
        rw [← hz] at q
        exact iteT q
      · rw [decide_eq_false c1]
        refine iteF (exq rfl (exq rfl (ixq (SqT.of h1) (atI_nat (j := 0) rfl) (ijq (exq rfl (?_))))))
        by_cases c2 : (p : Int) ≤ x
        · rw [if_pos (.inr c2)] at hz
          rw [decide_eq_true c2]
          rw [← hz] at q
          exact iteT q
        · rw [if_neg (fun z => z.elim c1 c2)] at hz
          rw [decide_eq_false c2]
          exact iteF (exq rfl ⟨x, _, rfl, rfl, hz⟩)
    · rintro σ H2 ⟨z, v3, rfl, rfl, hz⟩
      rw [List.length_map, List.drop_length] at hz
      have hz : true = _ := hz
      rw [← hz] at q
      exact q
theorem G_is_ring_number (T : Txt K mg a) : FnOk P w K mg base CX0 8 a.f_is_ring_number a.d_is_ring_number ["web", "number"] sp_is_ring_number := by
  have G_is_set : FnOk P w K mg base CX0 2 a.f_is_set a.d_is_set ["web", "number"] sp_is_set := G_is_set T
  have G_is_ring : FnOk P w K mg base (CX1 P w) 7 a.f_is_ring a.d_is_ring ["web", "tie_set"] (sp_is_ring a.c_BadSet) := G_is_ring T
  refine T.F_is_ring_number.ok sc_is_ring_number (fun vs H Q E h => ?_) (fun cdv A outer s H vs Q E hr h => ?_)
  · obtain ⟨w, p, ts, g, S, rfl, _⟩ := h
    rfl
  · obtain ⟨wb, p, ts, g, S, rfl, hw, q⟩ := h
    refine ⟨_, (@pss_one _ _ _ (@ps_ret _ _ _ _ (@pe_and _ _ _ _ _ _ _ (@pe_call _ _ _ _ _ _ _ _ _ _ _ _ _ _ _ _ G_is_set (hr.mono (by decide)) (by rfl) T.m_is_set T.k_is_set T.b_is_set .nil pass0 (@pa_cons _ _ _ _ _ (pv 0) (@pa_cons _ _ _ _ _ (pv 1) pa_nil (by rfl)) (by rfl)) (by decide) (by rfl) (by rfl)) (@pe_one _ _ _ _ _ (@pe_call _ _ _ _ _ _ _ _ _ _ _ _ _ _ _ _ G_is_ring (hr.mono (by decide)) (by rfl) T.m_is_ring T.k_is_ring T.b_is_ring .nil passN (@pa_cons _ _ _ _ _ (pv 0) (@pa_cons _ _ _ _ _ (pv 1) pa_nil (by rfl)) (by rfl)) (by decide) (by rfl) (by rfl)))))), ?_⟩
    have h2n : ((2 : Int) ^ ts.length) = ((2 ^ ts.length : Nat) : Int) := by simp
    refine (exq rfl (exq rfl ⟨wb, p, ts, S, rfl, hw, g.web, _, rfl, ?_⟩))
    by_cases hs : 0 ≤ S ∧ S < 2 ^ ts.length
    · rw [decide_eq_true hs]
      obtain ⟨m, rfl⟩ := Int.eq_ofNat_of_zero_le hs.1
      have hm : m < 2 ^ ts.length := by (first | lia | omega)
      refine iteT (exq rfl (exq rfl ⟨wb, p, ts, g, _, rfl, hw, .inl ⟨m, rfl, hm, fun H1 s1 => q H1 _ s1 ?_⟩⟩))
      rw [ringB_iff g hm]
      exact ⟨fun r => ⟨m, rfl, hm, r⟩, fun ⟨m', e, _, r⟩ => by
        have : m = m' := by (first | lia | omega)
        rw [this]
        exact r⟩
    · rw [decide_eq_false hs]
      refine iteF (q H false (Same.refl _) ⟨fun z => (Bool.false_ne_true z).elim, fun ⟨m', e, hm, _⟩ => absurd ⟨by (first | lia | omega), by (first | lia | omega)⟩ hs⟩)
theorem G_is_side_of (T : Txt K mg a) : FnOk P w K mg base CX0 3 a.f_is_side_of a.d_is_side_of ["web", "side", "tie_set"] sp_is_side_of := by
  have G_is_side : FnOk P w K mg base CX0 1 a.f_is_side a.d_is_side ["web", "side"] sp_is_sideI := G_is_sideI T
  have G_cut_of : FnOk P w K mg base CX0 2 a.f_cut_of a.d_cut_of ["web", "side"] sp_cut_of := G_cut_of T
  refine T.F_is_side_of.ok sc_is_side_of (fun vs H Q E h => ?_) (fun cdv A outer s H vs Q E hr h => ?_)
  · obtain ⟨w, p, ts, g, l, zs, m, rfl, _⟩ := h
    rfl
  · obtain ⟨wb, p, ts, g, l, zs, m, rfl, hw, hl, q⟩ := h
    refine ⟨_, (@pss_one _ _ _ (@ps_ret _ _ _ _ (@pe_and _ _ _ _ _ _ _ (@pe_call _ _ _ _ _ _ _ _ _ _ _ _ _ _ _ _ G_is_side (hr.mono (by decide)) (by rfl) T.m_is_side T.k_is_side T.b_is_side .nil pass0 (@pa_cons _ _ _ _ _ (pv 0) (@pa_cons _ _ _ _ _ (pv 1) pa_nil (by rfl)) (by rfl)) (by decide) (by rfl) (by rfl)) (@pe_one _ _ _ _ _ (@pe_cmpR _ _ _ _ _ _ _ _ op_eq (@pe_call _ _ _ _ _ _ _ _ _ _ _ _ _ _ _ _ G_cut_of (hr.mono (by decide)) (by rfl) T.m_cut_of T.k_cut_of T.b_cut_of .nil pass0 (@pa_cons _ _ _ _ _ (pv 0) (@pa_cons _ _ _ _ _ (pv 1) pa_nil (by rfl)) (by rfl)) (by decide) (by rfl) (by rfl)) (pv 2) (nomark _)))))), ?_⟩
    refine (exq rfl (exq rfl ⟨wb, p, ts, l, zs, rfl, hw, hl, _, rfl, ?_⟩))
    cases hs : sideFrom p (-1) zs with
    | false =>
      refine iteF (q H false (Same.refl _) ⟨fun z => (Bool.false_ne_true z).elim, fun ⟨xs, e, sd, _⟩ => ?_⟩)
      rw [(sideFrom_iff (Int.le_refl _)).mpr ⟨xs, e, sd, fun x _ => by (first | lia | omega)⟩] at hs
      cases hs
    | true =>
      obtain ⟨xs, rfl, sd, _⟩ := (sideFrom_iff (Int.le_refl _)).mp hs
      rw [← natsV_ints] at hl
      refine iteT (exq rfl (exq rfl ⟨wb, p, ts, g, l, xs, rfl, hw, hl, sd, fun H1 s1 => (exq rfl ⟨rfl, q H1 _ s1 ?_⟩)⟩))
      rw [decide_eq_true_iff]
      constructor
      · intro e
        have e := V.int.inj e
        exact ⟨xs, rfl, sd, by (first | lia | omega)⟩
      · rintro ⟨ys, e, _, hc⟩
        have e2 : ys = xs := by
          have := congrArg (List.map Int.toNat) e
          rw [List.map_map, List.map_map] at this
          have h1 : (Int.toNat ∘ fun x => ((x : Nat) : Int)) = id := funext fun x => rfl
          rw [h1, List.map_id, List.map_id] at this
          exact this.symm
        rw [e2] at hc
        exact congrArg (fun n : Nat => V.int (n : Int)) hc
end

def sp_near : Sp := fun vs H Q _ => ∃ (x y : Option Int) (l : Int), vs = [oV x, oV y, .int l] ∧ Q (.bl (nearB x y l)) H
def sp_tie_stands : Sp := fun vs H Q _ => ∃ (b c : Addr) (t : Tie) (u : Bool) (ys : List V) (R : List Pr), vs = [.ref b, .int (u.toNat : Int), .ref c] ∧ H b = some (.tup (tieV t)) ∧ H c = some (.tup ys) ∧ Paired (PairAt H) ys R ∧ 0 ≤ t.1 ∧ t.1 < (R.length : Int) ∧ 0 ≤ t.2.1 ∧ t.2.1 < (R.length : Int) ∧ Q (.bl (tieB R t u)) H
def sp_worths_stand (C : Addr) : Sp := fun vs H Q E => ∃ (w b : Addr) (p : Nat) (ts : List Tie) (W : List (List Pr)) (S : Int), vs = [.ref w, .int S, .ref b] ∧ WebAt H w p ts ∧ Web p ts ∧ WorthsAt H b W ∧ Sqr p W ∧ OrBad ts S (∀ H', Same H H' → E (.ref C) none H') fun m =>
  (Stands p ts m W → ∀ H', Same H H' → Q (.bl true) H') ∧ (¬ Stands p ts m W → ∀ H', Same H H' → Q (.bl false) H')
theorem scal_oV (a : Option Int) : scal (oV a) (V.int 0) = true := by cases a <;> rfl
theorem iteNd {x y : V} {A B : Prop} (h : x ≠ y) (ha : A) : if (!decide (x = y)) = true then A else B := by
  rw [decide_eq_false h]
  exact iteT ha
section
variable {P : Program} {w : World} {K : PySem.W.Frag} {mg : Str → Option Value} {base : Heap} {a : Adr}
theorem G_near_enough (T : Txt K mg a) : FnOk P w K mg base CX0 1 a.f_near_enough a.d_near_enough ["one", "other", "length"] sp_near := by
  refine T.F_near_enough.ok sc_near_enough (fun vs H Q E h => ?_) (fun cdv A outer s H vs Q E hr h => ?_)
  · obtain ⟨x, y, l, rfl, _⟩ := h
    rfl
  · obtain ⟨x, y, l, rfl, q⟩ := h
    refine ⟨_, (@pss_cons _ _ _ _ _ (@ps_if _ _ _ _ _ _ _ _ (PW.pt (@pw_or _ _ _ _ _ _ _ (@pt_cmpR _ _ _ _ _ _ _ _ op_isN (pv 0) pe_non (nomark _)) (@pw_or1 _ _ _ _ (@pt_cmpR _ _ _ _ _ _ _ _ op_isN (pv 1) pe_non (nomark _))))) (@pss_one _ _ _ (@ps_ret _ _ _ _ (@pe_and _ _ _ _ _ _ _ (@pe_cmpR _ _ _ _ _ _ _ _ op_isN (pv 0) pe_non (nomark _)) (@pe_one _ _ _ _ _ (@pe_cmpR _ _ _ _ _ _ _ _ op_isN (pv 1) pe_non (nomark _)))))) pss_nil) (@pss_one _ _ _ (@ps_ret _ _ _ _ (@pe_cmpR _ _ _ _ _ _ _ _ op_le (@pe_callB _ _ _ _ _ _ _ _ _ call_abs (by rfl) T.n_abs PyProof.Rows.boot_abs (@pa_cons _ _ _ _ _ (@pe_op _ _ _ _ _ _ _ _ op_sub (pv 0) (pv 1)) pa_nil (by rfl)) (by decide) (by decide) (by rfl) (by rfl)) (pv 2) (nomark _))))), ?_⟩
    refine hd_near_enough ?_
    intro zz0 zz1
    cases x with
    | none =>
      refine (exq rfl ⟨rfl, exq rfl (iteP rfl (exq rfl ⟨rfl, exq rfl (iteP rfl (exq rfl ⟨rfl, ?_⟩))⟩))⟩)
      cases y with
      | none => exact q
      | some y => exact q
    | some x =>
      cases y with
      | none => exact (exq rfl ⟨rfl, exq rfl (iteD (fun z => nomatch z) (exq rfl ⟨rfl, exq rfl (iteP rfl (exq rfl ⟨rfl, exq rfl (iteD (fun z => nomatch z) q)⟩))⟩))⟩)
      | some y => exact (exq rfl ⟨rfl, exq rfl (iteD (fun z => nomatch z) (exq rfl ⟨rfl, exq rfl (iteD (fun z => nomatch z) (exq rfl (exq rfl (ijq (exq rfl (exq rfl (ijq (q))))))))⟩))⟩)
theorem G_tie_stands (T : Txt K mg a) : FnOk P w K mg base CX0 2 a.f_tie_stands a.d_tie_stands ["tie", "turn", "worths"] sp_tie_stands := by
  have G_near_enough : FnOk P w K mg base CX0 1 a.f_near_enough a.d_near_enough ["one", "other", "length"] sp_near := G_near_enough T
  refine T.F_tie_stands.ok sc_tie_stands (fun vs H Q E h => ?_) (fun cdv A outer s H vs Q E hr h => ?_)
  · obtain ⟨b, c, t, u, ys, R, rfl, _⟩ := h
    rfl
  · obtain ⟨b, c, t, u, ys, R, rfl, hb, hc, pr, a0, a1, b0, b1, q⟩ := h
    refine ⟨_, (@pss_cons _ _ _ _ _ (@ps_set _ _ 3 _ _ _ _ sc_tie_stands.nd rfl (Or.inl rfl) (@pe_ix _ _ _ _ _ _ _ (ixT K) (pv 2) (@pe_ix _ _ _ _ _ _ _ (ixT K) (pv 0) pe_int (fun _ _ => rfl)) (fun _ _ => rfl)) (by rfl) (by first | exact .inl rfl | exact .inr rfl | assumption)) (@pss_cons _ _ _ _ _ (@ps_set _ _ 4 _ _ _ _ sc_tie_stands.nd rfl (Or.inl rfl) (@pe_ix _ _ _ _ _ _ _ (ixT K) (pv 2) (@pe_ix _ _ _ _ _ _ _ (ixT K) (pv 0) pe_int (fun _ _ => rfl)) (fun _ _ => rfl)) (by rfl) (by first | exact .inl rfl | exact .inr rfl | assumption)) (@pss_one _ _ _ (@ps_ret _ _ _ _ (@pe_and _ _ _ _ _ _ _ (@pe_call _ _ _ _ _ _ _ _ _ _ _ _ _ _ _ _ G_near_enough (hr.mono (by decide)) (by rfl) T.m_near_enough T.k_near_enough T.b_near_enough .nil pass0 (@pa_cons _ _ _ _ _ (@pe_ix _ _ _ _ _ _ _ (ixT K) (pv 3) pe_int (fun _ _ => rfl)) (@pa_cons _ _ _ _ _ (@pe_ix _ _ _ _ _ _ _ (ixT K) (pv 4) (pv 1) (fun _ _ => rfl)) (@pa_cons _ _ _ _ _ (@pe_ix _ _ _ _ _ _ _ (ixT K) (pv 0) pe_int (fun _ _ => rfl)) pa_nil (by rfl)) (by rfl)) (by rfl)) (by decide) (by rfl) (by rfl)) (@pe_one _ _ _ _ _ (@pe_call _ _ _ _ _ _ _ _ _ _ _ _ _ _ _ _ G_near_enough (hr.mono (by decide)) (by rfl) T.m_near_enough T.k_near_enough T.b_near_enough .nil pass0 (@pa_cons _ _ _ _ _ (@pe_ix _ _ _ _ _ _ _ (ixT K) (pv 3) pe_int (fun _ _ => rfl)) (@pa_cons _ _ _ _ _ (@pe_ix _ _ _ _ _ _ _ (ixT K) (pv 4) (@pe_op _ _ _ _ _ _ _ _ op_sub pe_int (pv 1)) (fun _ _ => rfl)) (@pa_cons _ _ _ _ _ (@pe_ix _ _ _ _ _ _ _ (ixT K) (pv 0) pe_int (fun _ _ => rfl)) pa_nil (by rfl)) (by rfl)) (by rfl)) (by decide) (by rfl) (by rfl)))))))), ?_⟩
    refine hd_tie_stands ?_
    intro zz0 zz1
    obtain ⟨c1, e1, h1⟩ := RowW.at pr (i := t.1.toNat) (by (first | lia | omega))
    obtain ⟨c2, e2, h2⟩ := RowW.at pr (i := t.2.1.toNat) (by (first | lia | omega))
    have i1 : atI ys t.1 = some (.ref c1) := by
      have := atI_nat e1
      rwa [Int.toNat_of_nonneg a0] at this
    have i2 : atI ys t.2.1 = some (.ref c2) := by
      have := atI_nat e2
      rwa [Int.toNat_of_nonneg b0] at this
    have eu : (1 : Int) - (u.toNat : Int) = ((!u).toNat : Int) := by cases u <;> rfl
    refine (exq rfl (exq rfl (ixq (SqT.of hb) (atI_nat (j := 0) rfl) (ixq (SqT.of hc) (i1) (?_)))))
    refine (exq rfl (exq rfl (ixq (SqT.of hb) (atI_nat (j := 1) rfl) (ixq (SqT.of hc) (i2) (?_)))))
    refine (exq rfl (ixq (SqT.of h1) (atI_nat (j := 0) rfl) (exq rfl (exq rfl (ixq (SqT.of h2) (atI_nat (sel_at _ u)) (exq rfl (ixq (SqT.of hb) (atI_nat (j := 2) rfl) ⟨_, _, _, rfl, _, rfl, ?_⟩)))))))
    unfold tieB at q
    cases hB : nearB (prAt R t.1.toNat).1 (sel (prAt R t.2.1.toNat) u) t.2.2 with
    | false =>
      rw [hB] at q
      exact iteF q
    | true =>
      rw [hB] at q
      refine iteT (exq rfl (ixq (SqT.of h1) (atI_nat (j := 1) rfl) (exq rfl (exq rfl (ijq (ixq (SqT.of h2) (?_) (exq rfl (ixq (SqT.of hb) (atI_nat (j := 2) rfl) ⟨_, _, _, rfl, q⟩))))))))
      rw [eu]
      exact atI_nat (sel_at _ (!u))
theorem G_worths_stand (T : Txt K mg a) : FnOk P w K mg base (CX1 P w) 4 a.f_worths_stand a.d_worths_stand ["web", "marks", "worths"] (sp_worths_stand a.c_BadSet) := by
  have G_check_set : FnOk P w K mg base (CX1 P w) 3 a.f_check_set a.d_check_set ["web", "tie_set"] (sp_check_set a.c_BadSet) := G_check_set T
  have G_has_tie : FnOk P w K mg base CX0 1 a.f_has_tie a.d_has_tie ["tie_set", "tie"] sp_has_tie := G_has_tie T
  have G_tie_stands : FnOk P w K mg base CX0 2 a.f_tie_stands a.d_tie_stands ["tie", "turn", "worths"] sp_tie_stands := G_tie_stands T
  refine T.F_worths_stand.ok1 sc_worths_stand (fun vs H Q E h => ?_) (fun cdv A outer s H vs Q E hr h => ?_)
  · obtain ⟨w, b, p, ts, W, S, rfl, _⟩ := h
    rfl
  · obtain ⟨wb, b, p, ts, W, S, rfl, hw, Wb, hW, sq, q⟩ := h
    refine ⟨_, (@pss_cons _ _ _ _ _ (@ps_expr _ _ _ _ (@pe_call _ _ _ _ _ _ _ _ _ _ _ _ _ _ _ _ G_check_set (hr.mono (by decide)) (by rfl) T.m_check_set T.k_check_set T.b_check_set .nil out_of.passes (@pa_cons _ _ _ _ _ (pv 0) (@pa_cons _ _ _ _ _ (pv 1) pa_nil (by rfl)) (by rfl)) (by decide) (by rfl) (by rfl)) (by rfl)) (@pss_cons _ _ _ _ _ (@ps_for1 _ _ _ _ _ _ _ _ rfl (@pi_range1 _ _ _ _ _ _ (by rfl) T.n_range (@pa_cons _ _ _ _ _ (@pe_ix _ _ _ _ _ _ _ (ixT K) (pv 0) pe_int (fun _ _ => rfl)) pa_nil (by rfl)) (by rfl)) (pg_name (i := 3) sc_worths_stand.nd rfl (Or.inl rfl)) (@pss_cons _ _ _ _ _ (@ps_if _ _ _ _ _ _ _ _ (@pt_cmpR _ _ _ _ _ _ _ _ op_ne (@pe_ix _ _ _ _ _ _ _ (ixT K) (@pe_ix _ _ _ _ _ _ _ (ixT K) (@pe_ix _ _ _ _ _ _ _ (ixT K) (pv 2) (pv 3) (fun _ _ => rfl)) (pv 3) (fun _ _ => rfl)) pe_int (fun _ _ => rfl)) pe_int (nomark _)) (@pss_one _ _ _ (@ps_ret _ _ _ _ pe_bl)) pss_nil) (@pss_one _ _ _ (@ps_for _ _ _ _ _ _ _ _ PassesOwn.never rfl (@pi_enumT _ _ _ _ K _ _ _ _ (by rfl) T.n_enumerate (@pa_cons _ _ _ _ _ (@pe_ix _ _ _ _ _ _ _ (ixT K) (pv 0) pe_int (fun _ _ => rfl)) pa_nil (by rfl)) (by rfl) (by rfl)) (@pgT _ _ K _ _ 2 _ rfl (@pgs_cons _ _ _ _ _ (pg_name (i := 4) sc_worths_stand.nd rfl (Or.inl rfl)) (@pgs_cons _ _ _ _ _ (pg_name (i := 5) sc_worths_stand.nd rfl (Or.inl rfl)) pgs_nil (by rfl)) (by rfl)) (by rfl) (by rfl) (by rfl)) (@pss_one _ _ _ (@ps_if _ _ _ _ _ _ _ _ (@pt_not _ _ _ _ (@pt_val _ _ _ (@pe_call _ _ _ _ _ _ _ _ _ _ _ _ _ _ _ _ G_tie_stands (hr.mono (by decide)) (by rfl) T.m_tie_stands T.k_tie_stands T.b_tie_stands .nil pass0 (@pa_cons _ _ _ _ _ (pv 5) (@pa_cons _ _ _ _ _ (@pe_ifExp _ _ _ _ _ _ _ _ (@pt_val _ _ _ (@pe_call _ _ _ _ _ _ _ _ _ _ _ _ _ _ _ _ G_has_tie (hr.mono (by decide)) (by rfl) T.m_has_tie T.k_has_tie T.b_has_tie .nil pass0 (@pa_cons _ _ _ _ _ (pv 1) (@pa_cons _ _ _ _ _ (pv 4) pa_nil (by rfl)) (by rfl)) (by decide) (by rfl) (by rfl)) (by intro _; rfl)) pe_int pe_int) (@pa_cons _ _ _ _ _ (@pe_ix _ _ _ _ _ _ _ (ixT K) (pv 2) (pv 3) (fun _ _ => rfl)) pa_nil (by rfl)) (by rfl)) (by rfl)) (by decide) (by rfl) (by rfl)) (by intro _; rfl))) (@pss_one _ _ _ (@ps_ret _ _ _ _ pe_bl)) pss_nil)) (by intro _; rfl)))) (by intro _; rfl)) (@pss_one _ _ _ (@ps_ret _ _ _ _ pe_bl)))), ?_⟩
    refine hd_worths_stand ?_
    intro zz0 zz1 zz2 zz3 zz4 zz5 zz6
    refine (exq rfl (exq rfl ⟨wb, p, ts, S, rfl, hw, Wb, ?_⟩))
    rcases q with ⟨m, rfl, hm, q1, q2⟩ | ⟨hS, q⟩
    · refine .inl ⟨m, rfl, hm, ?_⟩
      obtain ⟨bt, xs, h1, h2, h3⟩ := id hw.ex
      obtain ⟨ws, hws, prW⟩ := id hW
      have hxl := h3.length
      have wp := Wb.pts
      have wl := Wb.len
      refine (exq rfl (ixq (SqT.of h1) (atI_nat (j := 0) rfl) (exq rfl ⟨(by (first | lia | omega)), (by (first | lia | omega)), ?_⟩)))
      refine for_range (lo := 0) (n := (p : Int).toNat) (fun i σ H2 => ∃ v3 v4 v5, σ = [some (.ref wb), some (.int (m : Int)), some (.ref b), v3, v4, v5] ∧ Same H H2 ∧ ∀ j, j < i → StRow ts m j (W.getD j [])) ⟨none, none, none, rfl, Same.refl _, fun j hj => by (first | lia | omega)⟩ ?_ ?_
      · rintro i σ H2 hi ⟨v3, v4, v5, rfl, s2, ok⟩
        rw [Int.toNat_natCast] at hi
        rw [Int.zero_add]
        obtain ⟨x, hx, bR, ys, rfl, hbR, prR⟩ := paired_at prW (i := i) (by rw [sq.1]; exact hi) []
        have rl := sq.row hi
        obtain ⟨bP, eP, hbP⟩ := RowW.at prR (i := i) (by (first | lia | omega))
        refine (exq rfl (exq rfl (ixq (SqT.of (s2 _ _ hws)) (atI_nat (j := i) hx) (exq rfl (ixq (SqT.of (s2 _ _ hbR)) (atI_nat (j := i) eP) (ixq (SqT.of (s2 _ _ hbP)) (atI_nat (j := 0) rfl) (?_)))))))
        refine ⟨scal_oV _, _, rfl, ?_⟩
        by_cases h0 : (prAt (W.getD i []) i).1 = some 0
        case neg =>
          refine iteNd (fun z => h0 ?_) (q2 (fun z => h0 (z i hi).1) _ s2)
          have e := oV_zero (prAt (W.getD i []) i).1
          rw [decide_eq_true z] at e
          exact of_decide_eq_true e.symm
        refine iteNS (by rw [h0]; rfl) ?_
        refine (exq rfl (ixq (SqT.of (s2 _ _ h1)) (atI_nat (j := 1) rfl) ⟨bt, rfl, ⟨_, SqT.of (s2 _ _ h2)⟩, ?_⟩))
        refine for_enumT (K := K) (a := bt) (xs := xs) (fun k σ H3 => ∃ v4 v5, σ = [some (.ref wb), some (.int (m : Int)), some (.ref b), some (.int (i : Int)), v4, v5] ∧ Same H H3 ∧ ∀ j, j < k → tieB (W.getD i []) (tieAt ts j) (m.testBit j) = true) ⟨v4, v5, rfl, s2, fun j hj => by (first | lia | omega)⟩ (fun k σ H3 _ ⟨_, _, _, z, _⟩ => SqT.of (z _ _ h2)) ?_ ?_
        · rintro k x T0 σ H3 hk ⟨v4, v5, rfl, s3, ok3⟩ hT
          have hkx : k < xs.length := (List.getElem?_eq_some_iff.mp hk).1
          obtain ⟨t, ht, ct, rfl, hct⟩ := Paired.getP h3 hk
          have htt : tieAt ts k = t := by
            unfold tieAt
            rw [List.getD_eq_getElem?_getD, ht]
            rfl
          obtain ⟨g0, g1, g2, g3⟩ := Wb.inw.ends t (List.mem_of_getElem? ht)
          have s4 : Same H3 (upd H3 T0 (.tup [.int (k : Int), .ref ct])) := Same.new hT
          have hT4 : upd H3 T0 (.tup [.int (k : Int), .ref ct]) T0 = some (.tup [.int (k : Int), .ref ct]) := upd_same
          generalize upd H3 T0 (.tup [.int (k : Int), .ref ct]) = H4 at s4 hT4
          have s04 := s3.trans s4
          refine ⟨T0, _, rfl, SqT.of hT4, rfl, _, _, rfl, _, _, rfl, rfl, ?_⟩
          refine (exq rfl (exq rfl (exq rfl ⟨(m : Int), k, rfl, exq rfl (?_)⟩)))
          rw [bit_nat]
          cases hb : m.testBit k with
          | true =>
            refine iteT (exq rfl (exq rfl (ixq (SqT.of (s04 _ _ hws)) (atI_nat (j := i) hx) ⟨ct, bR, t, true, ys, _, rfl, s04 _ _ hct, s04 _ _ hbR, Paired.imp' (fun _ _ z => z.same s04) prR, g0, by (first | lia | omega), g2, by (first | lia | omega), _, rfl, ?_⟩)))
            cases hB : tieB (W.getD i []) t true with
            | false => exact iteT (q2 (fun z => by
                have := (z i hi).2 k (by (first | lia | omega))
                rw [htt, hb, hB] at this
                cases this) _ s04)
            | true =>
              refine iteF ⟨_, _, rfl, s04, fun j hj => ?_⟩
              by_cases e : j = k
              · rw [e, htt, hb]
                exact hB
              · exact ok3 j (by (first | lia | omega))
          | false =>
            refine iteF (exq rfl (exq rfl (ixq (SqT.of (s04 _ _ hws)) (atI_nat (j := i) hx) ⟨ct, bR, t, false, ys, _, rfl, s04 _ _ hct, s04 _ _ hbR, Paired.imp' (fun _ _ z => z.same s04) prR, g0, by (first | lia | omega), g2, by (first | lia | omega), _, rfl, ?_⟩)))
            cases hB : tieB (W.getD i []) t false with
            | false => exact iteT (q2 (fun z => by
                have := (z i hi).2 k (by (first | lia | omega))
                rw [htt, hb, hB] at this
                cases this) _ s04)
            | true =>
              refine iteF ⟨_, _, rfl, s04, fun j hj => ?_⟩
              by_cases e : j = k
              · rw [e, htt, hb]
                exact hB
              · exact ok3 j (by (first | lia | omega))
        · rintro σ H3 ⟨v4, v5, rfl, s3, ok3⟩
          rw [hxl] at ok3
          refine ⟨_, _, _, rfl, s3, fun j hj => ?_⟩
          by_cases e : j = i
          · rw [e]
            exact ⟨h0, ok3⟩
          · exact ok j (by (first | lia | omega))
      · rintro σ H2 ⟨v3, v4, v5, rfl, s2, ok⟩
        rw [Int.toNat_natCast] at ok
        exact q1 ok _ s2
    · exact .inr ⟨hS, q _ (Same.refl _)⟩
end

def NoneSh (p : Nat) (W : List (List Pr)) (l : Int) : Prop := ∀ i, i < p → ∀ d, (prAt (W.getD i []) i).2 = some d → l ≤ d
def shB (o : Option Int) (l : Int) : Bool := match o with
  | none => true
  | some d => decide (l ≤ d)
def ownV (W : List (List Pr)) (i : Nat) : List V := (List.range i).map fun j => oV (prAt (W.getD j []) j).2
theorem ownV_succ (W : List (List Pr)) (i : Nat) : ownV W (i + 1) = ownV W i ++ [oV (prAt (W.getD i []) i).2] := by
  unfold ownV
  rw [List.range_succ, List.map_append]
  rfl
def sp_none_shorter : Sp := fun vs H Q _ => ∃ (b : Addr) (p : Nat) (W : List (List Pr)) (l : Int), vs = [.ref b, .int l] ∧ WorthsAt H b W ∧ Sqr p W ∧ p ≤ 10 ∧ ∀ H' (d : Bool), Same H H' → (d = true ↔ NoneSh p W l) → Q (.bl d) H'
def RightO (p : Nat) (ts : List Tie) (g : GoodWeb p ts) (m : Nat) : List Int ⊕ (Int × List (List Pr)) → Prop
  | .inl zs => Right p ts g m (.inl zs)
  | .inr (z, W) => ∃ r : Nat, z = (r : Int) ∧ r < 2 ^ ts.length ∧ (netOf p ts g).Ring r ∧ (tiesOf ((r &&& m : Nat) : Int)).length % 2 = 1 ∧ Stands p ts m W ∧ NoneSh p W (lenOf ts r)
def AnsO (p : Nat) (H : Hp) (b : Addr) : List Int ⊕ (Int × List (List Pr)) → Prop
  | .inl zs => ∃ l, H b = some (.tup [.str "side", .ref l]) ∧ H l = some (.lst (zs.map V.int)) ∧ zs.length ≤ 40
  | .inr (z, W) => ∃ c, H b = some (.tup [.str "ring", .int z, .ref c]) ∧ WorthsAt H c W ∧ Sqr p W
def sp_ring_stands : Sp := fun vs H Q _ => ∃ (w b : Addr) (p : Nat) (ts : List Tie), ∃ g : GoodWeb p ts, ∃ (W : List (List Pr)) (m : Nat) (z : Int), vs = [.ref w, .int (m : Int), .int z, .ref b] ∧ WebAt H w p ts ∧ WorthsAt H b W ∧ Sqr p W ∧ m < 2 ^ ts.length ∧
  ∀ H' (d : Bool), Same H H' → (d = true ↔ RightO p ts g m (.inr (z, W))) → Q (.bl d) H'
def sp_odd_judged (C : Addr) : Sp := fun vs H Q E => ∃ w p ts, ∃ g : GoodWeb p ts, ∃ (S : Int) (b : Addr) (x : List Int ⊕ (Int × List (List Pr))), vs = [.ref w, .int S, .ref b] ∧ WebAt H w p ts ∧ AnsO p H b x ∧ OrBad ts S (∀ H', Same H H' → E (.ref C) none H') fun m =>
  ∀ H' (d : Bool), Same H H' → (d = true ↔ RightO p ts g m x) → Q (.bl d) H'
section
variable {P : Program} {w : World} {K : PySem.W.Frag} {mg : Str → Option Value} {base : Heap} {a : Adr}
theorem G_none_shorter (T : Txt K mg a) : FnOk P w K mg base CX0 1 a.f_none_shorter a.d_none_shorter ["worths", "length"] sp_none_shorter := by
  refine T.F_none_shorter.ok sc_none_shorter (fun vs H Q E h => ?_) (fun cdv A outer s H vs Q E hr h => ?_)
  · obtain ⟨b, p, W, l, rfl, _⟩ := h
    rfl
  · obtain ⟨b, p, W, l, rfl, hW, sq, hp, q⟩ := h
    refine ⟨_, (@pss_cons _ _ _ _ _ (@ps_comp _ _ _ _ _ _ _ ["point"] ["worths"] [0] _ _ _ _ 2 _ _ _ sc_none_shorter.nd rfl rfl (compText_of (defScope s_none_shorter) ["worths", "length", "rounds"]) rfl (@pi_range1 _ _ _ _ _ _ (by rfl) T.n_range (@pa_cons _ _ _ _ _ (@pe_callB _ _ _ _ _ _ _ _ _ (lenK K) (by rfl) T.n_len PySem.boot_len (@pa_cons _ _ _ _ _ (pv 0) pa_nil (by rfl)) (by decide) (by decide) (by rfl) (by rfl)) pa_nil (by rfl)) (by rfl)) (fun _ _ _ _ => (pg_name (i := 0) (show (["point", "worths"] : List Str).Nodup by decide +kernel) rfl (Or.inl rfl))) (fun _ _ _ _ => pts_nil) (fun _ _ _ _ => (pe_ix (ixT K) (pe_ix (ixT K) (pe_ix (ixT K) (pv 1) (pv 0) (fun _ _ => rfl)) (pv 0) (fun _ _ => rfl)) pe_int (fun _ _ => rfl))) (by rfl) (by intro _; rfl)) (@pss_one _ _ _ (@ps_ret _ _ _ _ (@pe_callB _ _ _ _ _ _ _ _ _ (allK K rfl) (by rfl) T.n_all PyProof.Rows.boot_all (@pa_cons _ _ _ _ _ (@pe_comp _ _ _ _ _ _ _ ["worth"] ["length"] [1] _ _ _ _ (compText_of (defScope s_none_shorter) ["worths", "length", "rounds"]) rfl (@piL _ _ _ _ K (pv 2) (by rfl)) (fun _ _ _ _ => (pg_name (i := 0) (show (["worth", "length"] : List Str).Nodup by decide +kernel) rfl (Or.inl rfl))) (fun _ _ _ _ => pts_nil) (fun _ _ _ _ => (pe_or (pe_cmpR op_isN (pv 0) pe_non (nomark _)) (pe_one (pe_cmpR op_ge (pv 0) (pv 1) (nomark _))))) (by intro _; rfl)) pa_nil (by rfl)) (by decide) (by decide) (by rfl) (by rfl))))), ?_⟩
    refine hd_none_shorter ?_
    intro zz0
    obtain ⟨ws, hws, prW⟩ := id hW
    have wsl : ws.length = p := by rw [prW.length, sq.1]
    refine (exq rfl (lnq rfl (.inr (SqT.of hws)) (exq rfl ⟨(by (first | lia | omega)), (by (first | lia | omega)), fun D hD => comp_range (lo := 0) (m := ws.length) (fun i acc H2 => Same H H2 ∧ H2 D = some (.lst acc) ∧ acc = ownV W i) ⟨Same.new hD, upd_same, rfl⟩ (fun i acc H2 _ z => ⟨z.2.1, by rw [z.2.2]; unfold ownV; rw [List.length_map, List.length_range]; exact Nat.le_refl _⟩) (small24 (by (first | lia | omega))) ?_ ?_⟩)))
    · rintro i acc H2 hi ⟨s2, hD2, e2⟩
      rw [Int.zero_add]
      have hi : i < p := by (first | lia | omega)
      obtain ⟨x, hx, bR, ys, rfl, hbR, prR⟩ := paired_at prW (i := i) (by rw [sq.1]; exact hi) []
      have rl := sq.row hi
      obtain ⟨bP, eP, hbP⟩ := RowW.at prR (i := i) (by (first | lia | omega))
      refine ⟨rfl, exq rfl (exq rfl (ixq (SqT.of (s2 _ _ hws)) (atI_nat (j := i) hx) (exq rfl (ixq (SqT.of (s2 _ _ hbR)) (atI_nat (j := i) eP) (ixq (SqT.of (s2 _ _ hbP)) (atI_nat (j := 1) rfl) ⟨hD2, s2.put hD, upd_same, ?_⟩)))))⟩
      rw [ownV_succ, e2]
    · rintro acc H2 ⟨s2, hD2, rfl⟩
      refine (exq rfl ⟨D, rfl, ⟨_, SqL.of hD2⟩, fun D2 hD2n => comp_list (xs := ownV W ws.length) (fun i acc H3 => Same H2 H3 ∧ H3 D2 = some (.lst acc) ∧ acc = ((List.range i).map fun j => shB (prAt (W.getD j []) j).2 l).map V.bl) ⟨Same.new hD2n, upd_same, rfl⟩ (fun i acc H3 _ z => ⟨SqL.of (z.1 _ _ hD2), z.2.1, by rw [z.2.2]; rw [List.length_map, List.length_map, List.length_range]; exact Nat.le_refl _⟩) (small24 (by unfold ownV; rw [List.length_map, List.length_range]; (first | lia | omega))) ?_ ?_⟩)
      · rintro i x acc H3 hx ⟨s3, hD3, rfl⟩
        unfold ownV at hx
        rw [List.getElem?_map] at hx
        obtain ⟨j, hj, rfl⟩ := Option.map_eq_some_iff.mp hx
        have ej : j = i := by
          obtain ⟨h1, h2⟩ := List.getElem?_eq_some_iff.mp hj
          rw [List.getElem_range] at h2
          exact h2.symm
        subst ej
        have nxt : ∀ bl, shB (prAt (W.getD j []) j).2 l = bl → H3 D2 = some (.lst (((List.range j).map fun j => shB (prAt (W.getD j []) j).2 l).map V.bl)) ∧ Same H2 (upd H3 D2 (.lst ((((List.range j).map fun j => shB (prAt (W.getD j []) j).2 l).map V.bl) ++ [.bl bl]))) ∧ upd H3 D2 (.lst ((((List.range j).map fun j => shB (prAt (W.getD j []) j).2 l).map V.bl) ++ [.bl bl])) D2 = some (.lst ((((List.range j).map fun j => shB (prAt (W.getD j []) j).2 l).map V.bl) ++ [.bl bl])) ∧ (((List.range j).map fun j => shB (prAt (W.getD j []) j).2 l).map V.bl) ++ [.bl bl] = ((List.range (j + 1)).map fun j => shB (prAt (W.getD j []) j).2 l).map V.bl := by
          intro bl hb
          refine ⟨hD3, s3.put hD2n, upd_same, ?_⟩
          rw [List.range_succ, List.map_append, List.map_append]
          show _ = _ ++ [V.bl (shB (prAt (W.getD j []) j).2 l)]
          rw [hb]
        generalize hv : (prAt (W.getD j []) j).2 = o at nxt
        cases o with
        | none => exact ⟨rfl, exq rfl ⟨rfl, exq rfl (iteP rfl (nxt true rfl))⟩⟩
        | some d => exact ⟨rfl, exq rfl ⟨rfl, exq rfl (iteD (fun z => nomatch z) (exq rfl (exq rfl (ijq (nxt _ rfl)))))⟩⟩
      · rintro acc H3 ⟨s3, hD3, rfl⟩
        refine ⟨D2, _, rfl, SqL.of hD3, q H3 _ (s2.trans s3) ?_⟩
        rw [List.all_eq_true]
        have hl : (ownV W ws.length).length = p := by unfold ownV; rw [List.length_map, List.length_range, wsl]
        rw [hl]
        constructor
        · intro h i hi d hd
          have := h _ (List.mem_map.mpr ⟨i, List.mem_range.mpr hi, rfl⟩)
          rw [hd] at this
          exact of_decide_eq_true this
        · intro h x hx
          obtain ⟨j, hj, rfl⟩ := List.mem_map.mp hx
          have hj := List.mem_range.mp hj
          show shB _ l = true
          cases hd : (prAt (W.getD j []) j).2 with
          | none => rfl
          | some d => exact decide_eq_true (h j hj d hd)
theorem G_ring_stands (T : Txt K mg a) : FnOk P w K mg base CX0 9 a.f_ring_stands a.d_ring_stands ["web", "marks", "ring", "worths"] sp_ring_stands := by
  have G_is_ring_number : FnOk P w K mg base CX0 8 a.f_is_ring_number a.d_is_ring_number ["web", "number"] sp_is_ring_number := G_is_ring_number T
  have G_bears_oddly : FnOk P w K mg base CX0 4 a.f_bears_oddly a.d_bears_oddly ["tie_set", "marks"] sp_bears := G_bears_oddly T
  have G_worths_stand : FnOk P w K mg base (CX1 P w) 4 a.f_worths_stand a.d_worths_stand ["web", "marks", "worths"] (sp_worths_stand a.c_BadSet) := G_worths_stand T
  have G_none_shorter : FnOk P w K mg base CX0 1 a.f_none_shorter a.d_none_shorter ["worths", "length"] sp_none_shorter := G_none_shorter T
  have G_length_of : FnOk P w K mg base (CX1 P w) 5 a.f_length_of a.d_length_of ["web", "tie_set"] (sp_length_of a.c_BadSet) := G_length_of T
  refine T.F_ring_stands.ok sc_ring_stands (fun vs H Q E h => ?_) (fun cdv A outer s H vs Q E hr h => ?_)
  · obtain ⟨w, b, p, ts, g, W, m, z, rfl, _⟩ := h
    rfl
  · obtain ⟨wb, b, p, ts, g, W, m, z, rfl, hw, hW, sq, hm, q⟩ := h
    refine ⟨_, (@pss_cons _ _ _ _ _ (@ps_if _ _ _ _ _ _ _ _ (PW.pt (@pw_or _ _ _ _ _ _ _ (@pt_not _ _ _ _ (@pt_val _ _ _ (@pe_call _ _ _ _ _ _ _ _ _ _ _ _ _ _ _ _ G_is_ring_number (hr.mono (by decide)) (by rfl) T.m_is_ring_number T.k_is_ring_number T.b_is_ring_number .nil pass0 (@pa_cons _ _ _ _ _ (pv 0) (@pa_cons _ _ _ _ _ (pv 2) pa_nil (by rfl)) (by rfl)) (by decide) (by rfl) (by rfl)) (by intro _; rfl))) (@pw_or1 _ _ _ _ (@pt_not _ _ _ _ (@pt_val _ _ _ (@pe_call _ _ _ _ _ _ _ _ _ _ _ _ _ _ _ _ G_bears_oddly (hr.mono (by decide)) (by rfl) T.m_bears_oddly T.k_bears_oddly T.b_bears_oddly .nil pass0 (@pa_cons _ _ _ _ _ (pv 2) (@pa_cons _ _ _ _ _ (pv 1) pa_nil (by rfl)) (by rfl)) (by decide) (by rfl) (by rfl)) (by intro _; rfl)))))) (@pss_one _ _ _ (@ps_ret _ _ _ _ pe_bl)) pss_nil) (@pss_one _ _ _ (@ps_ret _ _ _ _ (@pe_and _ _ _ _ _ _ _ (@pe_call _ _ _ _ _ _ _ _ _ _ _ _ _ _ _ _ G_worths_stand (hr.mono (by decide)) (by rfl) T.m_worths_stand T.k_worths_stand T.b_worths_stand .nil passN (@pa_cons _ _ _ _ _ (pv 0) (@pa_cons _ _ _ _ _ (pv 1) (@pa_cons _ _ _ _ _ (pv 3) pa_nil (by rfl)) (by rfl)) (by rfl)) (by decide) (by rfl) (by rfl)) (@pe_one _ _ _ _ _ (@pe_call _ _ _ _ _ _ _ _ _ _ _ _ _ _ _ _ G_none_shorter (hr.mono (by decide)) (by rfl) T.m_none_shorter T.k_none_shorter T.b_none_shorter .nil pass0 (@pa_cons _ _ _ _ _ (pv 3) (@pa_cons _ _ _ _ _ (@pe_call _ _ _ _ _ _ _ _ _ _ _ _ _ _ _ _ G_length_of (hr.mono (by decide)) (by rfl) T.m_length_of T.k_length_of T.b_length_of .nil passN (@pa_cons _ _ _ _ _ (pv 0) (@pa_cons _ _ _ _ _ (pv 2) pa_nil (by rfl)) (by rfl)) (by decide) (by rfl) (by rfl)) pa_nil (by rfl)) (by rfl)) (by decide) (by rfl) (by rfl))))))), ?_⟩
    refine hd_ring_stands ?_
    intro zz0 zz1
    have wl := g.len
    have wp := g.p2
    refine (exq rfl (exq rfl ⟨wb, p, ts, g, z, rfl, hw, fun H1 d s1 hd => (exq rfl (?_))⟩))
    cases d with
    | false => exact iteT (q H1 false s1 ⟨fun z => (Bool.false_ne_true z).elim, fun ⟨r, e, hr, rg, _⟩ => hd.mpr ⟨r, e, hr, rg⟩⟩)
    | true =>
      obtain ⟨r, rfl, hr', rg⟩ := hd.mp rfl
      have hbits : Builtin.Int.intBits ((r &&& m : Nat) : Int) ≤ 1000 := by
        have h1 : r &&& m < 2 ^ ts.length := Nat.and_lt_two_pow _ hm
        have h2 := bits_le h1
        (first | lia | omega)
      have one : ∀ r2 : Nat, (r : Int) = (r2 : Int) → r2 = r := fun r2 e => by (first | lia | omega)
      refine iteF (exq rfl (exq rfl ⟨_, _, r, m, rfl, rfl, rfl, hbits, fun H2 s2 => (exq rfl (?_))⟩))
      by_cases ho : (tiesOf ((r &&& m : Nat) : Int)).length % 2 = 1
      case neg =>
        rw [decide_eq_false ho]
        refine iteT (q H2 false (s1.trans s2) ⟨fun z => (Bool.false_ne_true z).elim, fun ⟨r2, e, _, _, h, _⟩ => absurd h ?_⟩)
        rw [one r2 e]
        exact ho
      rw [decide_eq_true ho]
      have s12 := s1.trans s2
      refine iteF (exq rfl (exq rfl (exq rfl ⟨wb, b, p, ts, W, _, rfl, hw.same s12, g.web, hW.same s12, sq, .inl ⟨m, rfl, hm, fun st H3 s3 => ?_, fun nst H3 s3 => ?_⟩⟩)))
      · have s13 := s12.trans s3
        refine (exq rfl (iteT (exq rfl (exq rfl (exq rfl ⟨wb, p, ts, _, rfl, hw.same s13, g.web, .inl ⟨r, rfl, hr', fun H4 s4 => ?_⟩⟩)))))
        have s14 := s13.trans s4
        refine ⟨b, p, W, _, rfl, hW.same s14, sq, wp, fun H5 d5 s5 hd5 => q H5 d5 (s14.trans s5) ?_⟩
        rw [hd5]
        exact ⟨fun h => ⟨r, rfl, hr', rg, ho, st, h⟩, fun ⟨r2, e, _, _, _, _, h⟩ => by rw [one r2 e] at h; exact h⟩
      · refine (exq rfl (iteF (q H3 false (s12.trans s3) ⟨fun z => (Bool.false_ne_true z).elim, fun ⟨r2, e, _, _, _, st, _⟩ => absurd st nst⟩)))
theorem G_odd_judged (T : Txt K mg a) : FnOk P w K mg base (CX1 P w) 10 a.f_odd_judged a.d_odd_judged ["web", "marks", "answer"] (sp_odd_judged a.c_BadSet) := by
  have G_check_set : FnOk P w K mg base (CX1 P w) 3 a.f_check_set a.d_check_set ["web", "tie_set"] (sp_check_set a.c_BadSet) := G_check_set T
  have G_is_side_of : FnOk P w K mg base CX0 3 a.f_is_side_of a.d_is_side_of ["web", "side", "tie_set"] sp_is_side_of := G_is_side_of T
  have G_ring_stands : FnOk P w K mg base CX0 9 a.f_ring_stands a.d_ring_stands ["web", "marks", "ring", "worths"] sp_ring_stands := G_ring_stands T
  refine T.F_odd_judged.ok1 sc_odd_judged (fun vs H Q E h => ?_) (fun cdv A outer s H vs Q E hr h => ?_)
  · obtain ⟨w, p, ts, g, S, b, x, rfl, _⟩ := h
    rfl
  · obtain ⟨wb, p, ts, g, S, b, x, rfl, hw, hx, q⟩ := h
    refine ⟨_, (@pss_cons _ _ _ _ _ (@ps_expr _ _ _ _ (@pe_call _ _ _ _ _ _ _ _ _ _ _ _ _ _ _ _ G_check_set (hr.mono (by decide)) (by rfl) T.m_check_set T.k_check_set T.b_check_set .nil out_of.passes (@pa_cons _ _ _ _ _ (pv 0) (@pa_cons _ _ _ _ _ (pv 1) pa_nil (by rfl)) (by rfl)) (by decide) (by rfl) (by rfl)) (by rfl)) (@pss_cons _ _ _ _ _ (@ps_if _ _ _ _ _ _ _ _ (@pt_cmpR _ _ _ _ _ _ _ _ op_eq (@pe_ix _ _ _ _ _ _ _ (ixT K) (pv 2) pe_int (fun _ _ => rfl)) pe_str (nomark _)) (@pss_one _ _ _ (@ps_ret _ _ _ _ (@pe_call _ _ _ _ _ _ _ _ _ _ _ _ _ _ _ _ G_is_side_of (hr.mono (by decide)) (by rfl) T.m_is_side_of T.k_is_side_of T.b_is_side_of .nil pass0 (@pa_cons _ _ _ _ _ (pv 0) (@pa_cons _ _ _ _ _ (@pe_ix _ _ _ _ _ _ _ (ixT K) (pv 2) pe_int (fun _ _ => rfl)) (@pa_cons _ _ _ _ _ (pv 1) pa_nil (by rfl)) (by rfl)) (by rfl)) (by decide) (by rfl) (by rfl)))) pss_nil) (@pss_one _ _ _ (@ps_ret _ _ _ _ (@pe_call _ _ _ _ _ _ _ _ _ _ _ _ _ _ _ _ G_ring_stands (hr.mono (by decide)) (by rfl) T.m_ring_stands T.k_ring_stands T.b_ring_stands .nil pass0 (@pa_cons _ _ _ _ _ (pv 0) (@pa_cons _ _ _ _ _ (pv 1) (@pa_cons _ _ _ _ _ (@pe_ix _ _ _ _ _ _ _ (ixT K) (pv 2) pe_int (fun _ _ => rfl)) (@pa_cons _ _ _ _ _ (@pe_ix _ _ _ _ _ _ _ (ixT K) (pv 2) pe_int (fun _ _ => rfl)) pa_nil (by rfl)) (by rfl)) (by rfl)) (by rfl)) (by decide) (by rfl) (by rfl)))))), ?_⟩
    refine hd_odd_judged ?_
    intro zz0 zz1 zz2
    refine (exq rfl (exq rfl ⟨wb, p, ts, S, rfl, hw, g.web, ?_⟩))
    rcases q with ⟨m, rfl, hm, q⟩ | ⟨hS, q⟩
    case inr => exact .inr ⟨hS, q _ (Same.refl _)⟩
    refine .inl ⟨m, rfl, hm, ?_⟩
    cases x with
    | inl zs =>
      obtain ⟨l, hb, hl, _⟩ := hx
      refine (exq rfl (ixq (SqT.of hb) (atI_nat (j := 0) rfl) ⟨rfl, exq rfl (?_)⟩))
      rw [decide_eq_true rfl]
      exact iteT (exq rfl (exq rfl (ixq (SqT.of hb) (atI_nat (j := 1) rfl) (exq rfl ⟨wb, p, ts, g, l, zs, m, rfl, hw, hl, q⟩))))
    | inr zW =>
      obtain ⟨z, W⟩ := zW
      obtain ⟨c, hb, hW, sq⟩ := hx
      refine (exq rfl (ixq (SqT.of hb) (atI_nat (j := 0) rfl) ⟨rfl, exq rfl (?_)⟩))
      rw [decide_eq_false (by intro z; cases z)]
      exact iteF (exq rfl (exq rfl (exq rfl (ixq (SqT.of hb) (atI_nat (j := 1) rfl) (exq rfl (ixq (SqT.of hb) (atI_nat (j := 2) rfl) ⟨wb, c, p, ts, g, W, m, z, rfl, hw, hW, sq, hm, q⟩))))))
end

def sp_cell (K : PySem.W.Frag) : Sp := fun vs H Q _ => ∃ (a : Addr) (ns : List Int) (k : Int), vs = [.ref a, .int k] ∧ 0 ≤ k ∧ SqL K H a (ns.map V.int) ∧ ∀ z, Q (.int z) H
def sp_left : Sp := fun vs H Q _ => ∃ c k y, vs = [.int c, .int k, .int y] ∧ ∀ z, Q (.int z) H
def sp_tie : Sp := fun vs H Q _ => ∃ (c : Int) (p m : Nat), vs = [.int c, .int (p : Int), .int (m : Int)] ∧ 2 ≤ p ∧ p ≤ 10 ∧ m < 4 ∧ ∀ t b H', Same H H' → GoodTie (p : Int) t → H' b = some (.tup (tieV t)) → Q (.ref b) H'
def sp_web (K : PySem.W.Frag) : Sp := fun vs H Q _ => ∃ (a : Addr) (ns : List Int) (mp mt : Nat), vs = [.ref a, .int (mp : Int), .int (mt : Int)] ∧ SqL K H a (ns.map V.int) ∧ ns.length ≤ 63 ∧ 1 ≤ mp ∧ mp ≤ 10 ∧ 1 ≤ mt ∧ mt ≤ 24 ∧
  ∀ r w p ts z H', Same H H' → GoodWeb p ts → p ≤ mp → ts.length ≤ mt → WebAt H' w p ts → H' r = some (.tup [.ref w, .int z]) → Q (.ref r) H'
theorem pickM (l : Int) {m : Nat} (hm : m < 4) : ∃ v, atI [V.int (1 + l % 9), .int 1, .int (1 + l % 10 ^ (30 : Int).toNat), .int (1 + l % 2)] (m : Int) = some (.int v) ∧ 1 ≤ v ∧ v ≤ 1000000000000000000000000000000 := by
  have h9 := emod2 l 9 (by decide)
  have h30 := emod2 l (10 ^ (30 : Int).toNat) (by decide)
  have h2 := emod2 l 2 (by decide)
  have e : (10 : Int) ^ (30 : Int).toNat = 1000000000000000000000000000000 := by decide
  match m, hm with
  | 0, _ => exact ⟨_, atI_nat (j := 0) rfl, by (first | lia | omega), by (first | lia | omega)⟩
  | 1, _ => exact ⟨_, atI_nat (j := 1) rfl, by decide, by decide⟩
  | 2, _ => exact ⟨_, atI_nat (j := 2) rfl, by (first | lia | omega), by (first | lia | omega)⟩
  | 3, _ => exact ⟨_, atI_nat (j := 3) rfl, by (first | lia | omega), by (first | lia | omega)⟩
section
variable {P : Program} {w : World} {K : PySem.W.Frag} {mg : Str → Option Value} {base : Heap} {a : Adr}
theorem G_law_cell_at (T : Txt K mg a) : FnOk P w K mg base CX0 1 a.f_law_cell_at a.d_law_cell_at ["script", "k"] (sp_cell K) := by
  refine T.F_law_cell_at.ok sc_law_cell_at (fun vs H Q E h => ?_) (fun cdv A outer s H vs Q E hr h => ?_)
  · obtain ⟨b, ns, k, rfl, _⟩ := h
    rfl
  · obtain ⟨b, ns, k, rfl, hk0, hS, q⟩ := h
    refine ⟨_, (@pss_cons _ _ _ _ _ (@ps_if _ _ _ _ _ _ _ _ (@pt_cmpR _ _ _ _ _ _ _ _ op_lt (pv 1) (@pe_callB _ _ _ _ _ _ _ _ _ (lenK K) (by rfl) T.n_len PySem.boot_len (@pa_cons _ _ _ _ _ (pv 0) pa_nil (by rfl)) (by decide) (by decide) (by rfl) (by rfl)) (nomark _)) (@pss_one _ _ _ (@ps_ret _ _ _ _ (@pe_ix _ _ _ _ _ _ _ (ixL K) (pv 0) (pv 1) (fun _ _ => rfl)))) pss_nil) (@pss_one _ _ _ (@ps_ret _ _ _ _ pe_int))), ?_⟩
    refine hd_law_cell_at ?_
    intro zz0 zz1
    refine (exq rfl (exq rfl ⟨b, _, rfl, .inl hS, _, _, rfl, rfl, exq rfl (ite2 (fun hlt => ?_) (fun _ => q 0))⟩))
    have hlt := of_decide_eq_true hlt
    rw [List.length_map] at hlt
    obtain ⟨k, rfl⟩ := Int.eq_ofNat_of_zero_le hk0
    exact (exq rfl (exq rfl ⟨b, _, _, _, rfl, rfl, hS, atI_nat (j := k) (ints_at (by (first | lia | omega))), q _⟩))
theorem G_law_left (T : Txt K mg a) : FnOk P w K mg base CX0 1 a.f_law_left a.d_law_left ["cell", "k", "way"] sp_left := by
  refine T.F_law_left.ok sc_law_left (fun vs H Q E h => ?_) (fun cdv A outer s H vs Q E hr h => ?_)
  · obtain ⟨c, k, y, rfl, _⟩ := h
    rfl
  · obtain ⟨c, k, y, rfl, q⟩ := h
    refine ⟨_, (@pss_cons _ _ _ _ _ (@ps_if _ _ _ _ _ _ _ _ (@pt_cmpR _ _ _ _ _ _ _ _ op_eq (pv 2) pe_int (nomark _)) (@pss_one _ _ _ (@ps_ret _ _ _ _ (pv 0))) pss_nil) (@pss_cons _ _ _ _ _ (@ps_set _ _ 3 _ _ _ _ sc_law_left.nd rfl (Or.inl rfl) (@pe_op _ _ _ _ _ _ _ _ op_mod (@pe_op _ _ _ _ _ _ _ _ op_mul (@pe_op _ _ _ _ _ _ _ _ op_add (@pe_op _ _ _ _ _ _ _ _ op_add (@pe_op _ _ _ _ _ _ _ _ op_mod (pv 0) pe_int) (@pe_op _ _ _ _ _ _ _ _ op_mul pe_int (pv 1))) pe_int) pe_int) pe_int) (by rfl) (by first | exact .inl rfl | exact .inr rfl | assumption)) (@pss_one _ _ _ (@ps_ret _ _ _ _ (@pe_op _ _ _ _ _ _ _ _ op_mod (@pe_op _ _ _ _ _ _ _ _ op_mul (@pe_op _ _ _ _ _ _ _ _ op_mul (pv 3) (pv 3)) (@pe_op _ _ _ _ _ _ _ _ op_add (pv 3) pe_int)) (@pe_op _ _ _ _ _ _ _ _ op_add (@pe_op _ _ _ _ _ _ _ _ op_pow pe_int pe_int) pe_int)))))), ?_⟩
    refine hd_law_left ?_
    intro zz0 zz1 zz2
    refine (exq rfl ⟨rfl, exq rfl (ite2 (fun _ => (exq rfl (q _))) (fun _ => ?_))⟩)
    refine (exq rfl (ijq ⟨(modC rfl), exq rfl (ijq ⟨.inl ⟨by decide, by decide⟩, ijq (ijq (ijq ⟨.inr ⟨by decide, by decide⟩, ijq ⟨(modC rfl), ?_⟩⟩))⟩)⟩))
    have h1 := emod2 ((c % 998244353 + 7919 * k + 1) * 69621) 2147483647 (by decide)
    dsimp only
    generalize (c % 998244353 + 7919 * k + 1) * 69621 % 2147483647 = n at h1
    exact (exq rfl (exq rfl (ijq ⟨.inl ⟨by (first | lia | omega), by (first | lia | omega)⟩, exq rfl (ijq (ijq ⟨.inr ⟨by (first | lia | omega), by (first | lia | omega)⟩, ijq ⟨⟨by decide, by decide, by decide⟩, ijq (ijq ⟨(show (0 : Int) < 10 ^ (18 : Int).toNat + 9 by decide), q _⟩)⟩⟩))⟩)))
theorem G_law_tie (T : Txt K mg a) : FnOk P w K mg base CX0 1 a.f_law_tie a.d_law_tie ["left", "points", "mode"] sp_tie := by
  refine T.F_law_tie.ok sc_law_tie (fun vs H Q E h => ?_) (fun cdv A outer s H vs Q E hr h => ?_)
  · obtain ⟨c, p, m, rfl, _⟩ := h
    rfl
  · obtain ⟨c, p, m, rfl, hp1, hp2, hm, q⟩ := h
    refine ⟨_, (@pss_cons _ _ _ _ _ (@ps_set _ _ 3 _ _ _ _ sc_law_tie.nd rfl (Or.inl rfl) (@pe_op _ _ _ _ _ _ _ _ op_mod (pv 0) (pv 1)) (by rfl) (by first | exact .inl rfl | exact .inr rfl | assumption)) (@pss_cons _ _ _ _ _ (@ps_set _ _ 0 _ _ _ _ sc_law_tie.nd rfl (Or.inl rfl) (@pe_op _ _ _ _ _ _ _ _ op_fdiv (pv 0) (pv 1)) (by rfl) (by first | exact .inl rfl | exact .inr rfl | assumption)) (@pss_cons _ _ _ _ _ (@ps_set _ _ 4 _ _ _ _ sc_law_tie.nd rfl (Or.inl rfl) (@pe_op _ _ _ _ _ _ _ _ op_mod (@pe_op _ _ _ _ _ _ _ _ op_add (@pe_op _ _ _ _ _ _ _ _ op_add (pv 3) pe_int) (@pe_op _ _ _ _ _ _ _ _ op_mod (pv 0) (@pe_op _ _ _ _ _ _ _ _ op_sub (pv 1) pe_int))) (pv 1)) (by rfl) (by first | exact .inl rfl | exact .inr rfl | assumption)) (@pss_cons _ _ _ _ _ (@ps_set _ _ 0 _ _ _ _ sc_law_tie.nd rfl (Or.inl rfl) (@pe_op _ _ _ _ _ _ _ _ op_fdiv (pv 0) (@pe_op _ _ _ _ _ _ _ _ op_sub (pv 1) pe_int)) (by rfl) (by first | exact .inl rfl | exact .inr rfl | assumption)) (@pss_one _ _ _ (@ps_ret _ _ _ _ (@pe_tup _ _ _ _ _ (@pa_cons _ _ _ _ _ (pv 3) (@pa_cons _ _ _ _ _ (pv 4) (@pa_cons _ _ _ _ _ (@pe_ix _ _ _ _ _ _ _ (ixL K) (@pe_lst _ _ _ _ (@pa_cons _ _ _ _ _ (@pe_op _ _ _ _ _ _ _ _ op_add pe_int (@pe_op _ _ _ _ _ _ _ _ op_mod (pv 0) pe_int)) (@pa_cons _ _ _ _ _ pe_int (@pa_cons _ _ _ _ _ (@pe_op _ _ _ _ _ _ _ _ op_add pe_int (@pe_op _ _ _ _ _ _ _ _ op_mod (pv 0) (@pe_op _ _ _ _ _ _ _ _ op_pow pe_int pe_int))) (@pa_cons _ _ _ _ _ (@pe_op _ _ _ _ _ _ _ _ op_add pe_int (@pe_op _ _ _ _ _ _ _ _ op_mod (pv 0) pe_int)) pa_nil (by rfl)) (by rfl)) (by rfl)) (by rfl))) (pv 2) (fun _ _ => rfl)) pa_nil (by rfl)) (by rfl)) (by rfl))))))))), ?_⟩
    refine hd_law_tie ?_
    intro zz0 zz1 zz2 zz3
    have p0 : (0 : Int) < (p : Int) := by (first | lia | omega)
    have p9 : (0 : Int) < (p : Int) - 1 := by (first | lia | omega)
    have hd : ∀ i, CDiv i (p : Int) := fun i => ⟨by (first | lia | omega), by (first | lia | omega)⟩
    have hd1 : ∀ i, CDiv i ((p : Int) - 1) := fun i => ⟨by (first | lia | omega), by (first | lia | omega)⟩
    refine (exq rfl (exq rfl (ijq ⟨p0, ?_⟩)))
    refine (exq rfl (exq rfl (ijq ⟨hd _, ?_⟩)))
    refine (exq rfl (ijq (exq rfl (exq rfl (ijq (ijq ⟨p9, _, _, rfl, rfl, exq rfl (ijq ⟨p0, ?_⟩)⟩))))))
    refine (exq rfl (exq rfl (ijq (ijq ⟨hd1 _, ?_⟩))))
    obtain ⟨v, hv, v1, v2⟩ := pickM (c / p / (p - 1)) hm
    refine (exq rfl (exq rfl (exq rfl (ijq ⟨(modC rfl), ijq (exq rfl (ijq ⟨⟨by decide, by decide, by decide⟩, ijq ⟨(modC rfl), ijq (exq rfl (ijq ⟨(modC rfl), ijq ⟨dl rfl, fun l hl => (exq rfl (ixl (SqL.of upd_same) (hv) ⟨dl rfl, fun b hb => ?_⟩))⟩⟩))⟩⟩))⟩))))
    obtain ⟨o1, o2, o3⟩ := other_ne (p := p) (o := c % p) (r := c / p % (p - 1)) (emod2 _ _ p0).1 (emod2 _ _ p0).2 (emod2 _ _ p9).1 (emod2 _ _ p9).2
    exact q (c % p, (c % p + 1 + c / p % (p - 1)) % p, v) b _ ((Same.new hl).trans (Same.new hb)) ⟨(emod2 _ _ p0).1, (emod2 _ _ p0).2, o1, o2, o3, v1, v2⟩ upd_same
theorem G_law_web (T : Txt K mg a) : FnOk P w K mg base CX0 2 a.f_law_web a.d_law_web ["script", "most_points", "most_ties"] (sp_web K) := by
  have G_law_cell_at : FnOk P w K mg base CX0 1 a.f_law_cell_at a.d_law_cell_at ["script", "k"] (sp_cell K) := G_law_cell_at T
  have G_law_left : FnOk P w K mg base CX0 1 a.f_law_left a.d_law_left ["cell", "k", "way"] sp_left := G_law_left T
  have G_law_tie : FnOk P w K mg base CX0 1 a.f_law_tie a.d_law_tie ["left", "points", "mode"] sp_tie := G_law_tie T
  refine T.F_law_web.ok sc_law_web (fun vs H Q E h => ?_) (fun cdv A outer s H vs Q E hr h => ?_)
  · obtain ⟨b, ns, mp, mt, rfl, _⟩ := h
    rfl
  · obtain ⟨b, ns, mp, mt, rfl, hS, hn, mp1, mp10, mt1, mt24, q⟩ := h
    refine ⟨_, (@pss_cons _ _ _ _ _ (@ps_set _ _ 3 _ _ _ _ sc_law_web.nd rfl (Or.inl rfl) (@pe_op _ _ _ _ _ _ _ _ op_mod (@pe_call _ _ _ _ _ _ _ _ _ _ _ _ _ _ _ _ G_law_cell_at (hr.mono (by decide)) (by rfl) T.m_law_cell_at T.k_law_cell_at T.b_law_cell_at .nil pass0 (@pa_cons _ _ _ _ _ (pv 0) (@pa_cons _ _ _ _ _ pe_int pa_nil (by rfl)) (by rfl)) (by decide) (by rfl) (by rfl)) pe_int) (by rfl) (by first | exact .inl rfl | exact .inr rfl | assumption)) (@pss_cons _ _ _ _ _ (@ps_set _ _ 4 _ _ _ _ sc_law_web.nd rfl (Or.inl rfl) (@pe_call _ _ _ _ _ _ _ _ _ _ _ _ _ _ _ _ G_law_left (hr.mono (by decide)) (by rfl) T.m_law_left T.k_law_left T.b_law_left .nil pass0 (@pa_cons _ _ _ _ _ (@pe_op _ _ _ _ _ _ _ _ op_fdiv (@pe_call _ _ _ _ _ _ _ _ _ _ _ _ _ _ _ _ G_law_cell_at (hr.mono (by decide)) (by rfl) T.m_law_cell_at T.k_law_cell_at T.b_law_cell_at .nil pass0 (@pa_cons _ _ _ _ _ (pv 0) (@pa_cons _ _ _ _ _ pe_int pa_nil (by rfl)) (by rfl)) (by decide) (by rfl) (by rfl)) pe_int) (@pa_cons _ _ _ _ _ pe_int (@pa_cons _ _ _ _ _ (pv 3) pa_nil (by rfl)) (by rfl)) (by rfl)) (by decide) (by rfl) (by rfl)) (by rfl) (by first | exact .inl rfl | exact .inr rfl | assumption)) (@pss_cons _ _ _ _ _ (@ps_set _ _ 5 _ _ _ _ sc_law_web.nd rfl (Or.inl rfl) (@pe_op _ _ _ _ _ _ _ _ op_add pe_int (@pe_op _ _ _ _ _ _ _ _ op_mod (pv 4) (pv 1))) (by rfl) (by first | exact .inl rfl | exact .inr rfl | assumption)) (@pss_cons _ _ _ _ _ (@ps_set _ _ 6 _ _ _ _ sc_law_web.nd rfl (Or.inl rfl) (@pe_op _ _ _ _ _ _ _ _ op_mod (@pe_op _ _ _ _ _ _ _ _ op_fdiv (pv 4) (pv 1)) pe_int) (by rfl) (by first | exact .inl rfl | exact .inr rfl | assumption)) (@pss_cons _ _ _ _ _ (@ps_set _ _ 7 _ _ _ _ sc_law_web.nd rfl (Or.inl rfl) (@pe_callTy _ _ _ _ _ _ _ _ _ (listK K) (by rfl) T.n_list PyProof.Rows.boot_list (@pa_cons _ _ _ _ _ (@pe_slice _ _ _ _ _ _ _ _ _ _ (slL K) (pv 0) (@po_some _ _ _ pe_int) (@po_some _ _ _ (@pe_op _ _ _ _ _ _ _ _ op_add pe_int (pv 2)))) pa_nil (by rfl)) (by decide) (by decide) (by rfl) (by rfl)) (by rfl) (by first | exact .inl rfl | exact .inr rfl | assumption)) (@pss_cons _ _ _ _ _ (@ps_for _ _ _ _ _ _ _ _ PassesOwn.never rfl (@pi_range2 _ _ _ _ _ _ _ (by rfl) T.n_range (@pa_cons _ _ _ _ _ (@pe_op _ _ _ _ _ _ _ _ op_add pe_int (pv 2)) (@pa_cons _ _ _ _ _ (@pe_callB _ _ _ _ _ _ _ _ _ (lenK K) (by rfl) T.n_len PySem.boot_len (@pa_cons _ _ _ _ _ (pv 0) pa_nil (by rfl)) (by decide) (by decide) (by rfl) (by rfl)) pa_nil (by rfl)) (by rfl)) (by rfl) (by rfl)) (pg_name (i := 8) sc_law_web.nd rfl (Or.inl rfl)) (@pss_one _ _ _ (@ps_asg _ _ _ _ _ _ (@pe_op _ _ _ _ _ _ _ _ op_add (@pe_op _ _ _ _ _ _ _ _ op_mul (@pe_ix _ _ _ _ _ _ _ (ixL K) (pv 7) (@pe_op _ _ _ _ _ _ _ _ op_mod (pv 8) (pv 2)) (fun _ _ => rfl)) pe_int) (@pe_ix _ _ _ _ _ _ _ (ixL K) (pv 0) (pv 8) (fun _ _ => rfl))) (@pg_sub _ _ _ _ _ _ _ (pv 7) (@pe_op _ _ _ _ _ _ _ _ op_mod (pv 8) (pv 2)) set_list (by intro _; rfl)) (by rfl) (by rfl) (by rfl))) (by intro _; rfl)) (@pss_cons _ _ _ _ _ (@ps_if _ _ _ _ _ _ _ _ (@pt_cmpR _ _ _ _ _ _ _ _ op_eq (pv 5) pe_int (nomark _)) (@pss_one _ _ _ (@ps_set _ _ 7 _ _ _ _ sc_law_web.nd rfl (Or.inl rfl) (@pe_lst _ _ _ _ pa_nil) (by rfl) (by first | exact .inl rfl | exact .inr rfl | assumption))) pss_nil) (@pss_cons _ _ _ _ _ (@ps_set _ _ 9 _ _ _ _ sc_law_web.nd rfl (Or.inl rfl) (@pe_lst _ _ _ _ pa_nil) (by rfl) (by first | exact .inl rfl | exact .inr rfl | assumption)) (@pss_cons _ _ _ _ _ (@ps_for _ _ _ _ _ _ _ _ PassesOwn.never rfl (@pi_range1 _ _ _ _ _ _ (by rfl) T.n_range (@pa_cons _ _ _ _ _ (@pe_callB _ _ _ _ _ _ _ _ _ (lenK K) (by rfl) T.n_len PySem.boot_len (@pa_cons _ _ _ _ _ (pv 7) pa_nil (by rfl)) (by decide) (by decide) (by rfl) (by rfl)) pa_nil (by rfl)) (by rfl)) (pg_name (i := 8) sc_law_web.nd rfl (Or.inl rfl)) (@pss_one _ _ _ (@ps_expr _ _ _ _ (@bmK _ _ _ _ _ _ K (@pe_bm _ _ _ _ _ _ _ _ _ _ _ _ PySem.F.plainAttrs_list PySem.F.slot_list_append PySem.F.type_list_append mt_append (pv 9) (@pa_cons _ _ _ _ _ (@pe_call _ _ _ _ _ _ _ _ _ _ _ _ _ _ _ _ G_law_tie (hr.mono (by decide)) (by rfl) T.m_law_tie T.k_law_tie T.b_law_tie .nil pass0 (@pa_cons _ _ _ _ _ (@pe_call _ _ _ _ _ _ _ _ _ _ _ _ _ _ _ _ G_law_left (hr.mono (by decide)) (by rfl) T.m_law_left T.k_law_left T.b_law_left .nil pass0 (@pa_cons _ _ _ _ _ (@pe_ix _ _ _ _ _ _ _ (ixL K) (pv 7) (pv 8) (fun _ _ => rfl)) (@pa_cons _ _ _ _ _ (@pe_op _ _ _ _ _ _ _ _ op_add (pv 8) pe_int) (@pa_cons _ _ _ _ _ (pv 3) pa_nil (by rfl)) (by rfl)) (by rfl)) (by decide) (by rfl) (by rfl)) (@pa_cons _ _ _ _ _ (pv 5) (@pa_cons _ _ _ _ _ (pv 6) pa_nil (by rfl)) (by rfl)) (by rfl)) (by decide) (by rfl) (by rfl)) pa_nil (by rfl)) (by rfl) (by rfl) (by rfl) (by rfl) (by rfl)) (by rfl)) (by rfl))) (by intro _; rfl)) (@pss_one _ _ _ (@ps_ret _ _ _ _ (@pe_tup _ _ _ _ _ (@pa_cons _ _ _ _ _ (@pe_tup _ _ _ _ _ (@pa_cons _ _ _ _ _ (pv 5) (@pa_cons _ _ _ _ _ (@pe_callTy _ _ _ _ _ _ _ _ _ (tuplK K) (by rfl) T.n_tuple PyProof.Rows.boot_tuple (@pa_cons _ _ _ _ _ (pv 9) pa_nil (by rfl)) (by decide) (by decide) (by rfl) (by rfl)) pa_nil (by rfl)) (by rfl))) (@pa_cons _ _ _ _ _ (@pe_op _ _ _ _ _ _ _ _ op_fdiv (pv 4) (@pe_op _ _ _ _ _ _ _ _ op_mul pe_int (pv 1))) pa_nil (by rfl)) (by rfl)))))))))))))), ?_⟩
    refine hd_law_web ?_
    intro zz0 zz1 zz2 zz3 zz4 zz5 zz6 zz7 zz8 zz9 zz10 zz11
    refine (exq rfl ⟨b, ns, 0, rfl, (by decide), hS, fun z => (ijq ⟨(modC rfl), ?_⟩)⟩)
    refine (exq rfl ⟨b, ns, 0, rfl, (by decide), hS, fun z1 => (ijq ⟨⟨by decide, by decide⟩, exq rfl ⟨_, _, _, rfl, fun lf => ?_⟩⟩)⟩)
    refine (exq rfl (exq rfl (ijq ⟨(by (first | lia | omega)), ijq (?_)⟩)))
    obtain ⟨p, hp, p1, p2⟩ : ∃ p : Nat, 1 + lf % (mp : Int) = (p : Int) ∧ 1 ≤ p ∧ p ≤ mp := by
      obtain ⟨h1, h2⟩ := emod2 lf (mp : Int) (by (first | lia | omega))
      exact ⟨(1 + lf % (mp : Int)).toNat, by (first | lia | omega), by (first | lia | omega), by (first | lia | omega)⟩
    dsimp only
    rw [hp]
    refine (exq rfl (exq rfl (ijq ⟨⟨by (first | lia | omega), by (first | lia | omega)⟩, ijq ⟨(modC rfl), ?_⟩⟩)))
    obtain ⟨m, hm, m4⟩ : ∃ m : Nat, lf / (mp : Int) % 4 = (m : Int) ∧ m < 4 := by
      obtain ⟨h1, h2⟩ := emod2 (lf / (mp : Int)) 4 (by decide)
      exact ⟨(lf / (mp : Int) % 4).toNat, by (first | lia | omega), by (first | lia | omega)⟩
    dsimp only
    rw [hm]
    refine (exq rfl (exq rfl (exq rfl (ijq (exq rfl ⟨b, _, rfl, hS, fun c hc => (lnq rfl (.inl (SqL.of upd_same)) (fun c2 hc2 => ?_))⟩)))))
    have hcut := ints_cut ns (some 1) (some (1 + (mt : Int)))
    have hsx1 : HT.sIx ns.length 0 (some (1 : Int)) = min 1 ns.length := HT.sIx_nat ns.length 0 1
    have hsx2 : HT.sIx ns.length ns.length (some (1 + (mt : Int))) = min (1 + mt) ns.length := by
      rw [show (1 + (mt : Int)) = ((1 + mt : Nat) : Int) from by (first | lia | omega)]
      exact HT.sIx_nat ns.length ns.length (1 + mt)
    have hml : ((ns.drop (HT.sIx ns.length 0 (some 1))).take (HT.sIx ns.length ns.length (some (1 + (mt : Int))) - HT.sIx ns.length 0 (some 1))).length = min (1 + mt) ns.length - min 1 ns.length := by
      rw [List.length_take, List.length_drop, hsx1, hsx2]
      (first | lia | omega)
    generalize (ns.drop (HT.sIx ns.length 0 (some 1))).take (HT.sIx ns.length ns.length (some (1 + (mt : Int))) - HT.sIx ns.length 0 (some 1)) = ms at hcut hml
    rw [hcut] at hc2 ⊢
    have s1 : Same H (upd (upd H c (.lst (ms.map V.int))) c2 (.lst (ms.map V.int))) := (Same.new hc).trans (Same.new hc2)
    have hH1 : upd (upd H c (.lst (ms.map V.int))) c2 (.lst (ms.map V.int)) c2 = some (.lst (ms.map V.int)) := upd_same
    have hc20 : H c2 = none := (Same.new hc).free hc2
    generalize upd (upd H c (.lst (ms.map V.int))) c2 (.lst (ms.map V.int)) = H1 at s1 hH1
    refine (exq rfl (ijq (exq rfl ⟨b, _, rfl, .inl (s1.seq hS), _, _, rfl, ⟨by (first | lia | omega), by (first | lia | omega), by rw [List.length_map]; (first | lia | omega), by rw [List.length_map]; (first | lia | omega)⟩, ?_⟩)))
    have hnl : (ns.map V.int).length = ns.length := List.length_map ..
    refine for_range' (lo := 1 + (mt : Int)) (n := _) (fun i σ H2 => ∃ v8, σ = [some (.ref b), some (.int (mp : Int)), some (.int (mt : Int)), some (.int (z % 2)), some (.int lf), some (.int (p : Int)), some (.int (m : Int)), some (.ref c2), v8, none] ∧ Same H H2 ∧ ∃ ms', H2 c2 = some (.lst (ms'.map V.int)) ∧ ms'.length = ms.length) ⟨none, rfl, s1, ms, hH1, rfl⟩ ?_ ?_
    · rintro i D' σ H2 hi ⟨v8, rfl, s2, ms', h2, hl2⟩
      rw [hnl] at hi
      obtain ⟨j, hj, hjm⟩ : ∃ j : Nat, (1 + (mt : Int) + (i : Int)) % (mt : Int) = (j : Int) ∧ j < mt := by
        obtain ⟨h1, h2⟩ := emod2 (1 + (mt : Int) + (i : Int)) (mt : Int) (by (first | lia | omega))
        exact ⟨((1 + (mt : Int) + (i : Int)) % (mt : Int)).toNat, by (first | lia | omega), by (first | lia | omega)⟩
      have hjl : j < ms'.length := by (first | lia | omega)
      refine (exq rfl (exq rfl (exq rfl (ijq ⟨(by (first | lia | omega)), ixl (SqL.of h2) ((by rw [hj]; exact atI_nat (ints_at hjl))) (ijq ⟨.inr ⟨by decide, by decide⟩, exq rfl (exq rfl ⟨b, _, _, _, rfl, rfl, s2.seq hS, (by rw [show (1 + (mt : Int) + (i : Int)) = ((1 + mt + i : Nat) : Int) from by (first | lia | omega)]; exact atI_nat (ints_at (by (first | lia | omega)))), ijq (?_)⟩)⟩)⟩))))
      refine (exq rfl (exq rfl (exq rfl (ijq ⟨(by (first | lia | omega)), c2, _, _, j, rfl, rfl, h2, (by rw [hj, List.length_map]; exact ixN_nat hjl), ?_⟩))))
      refine (exq rfl ⟨s2.put hc20, ms'.set j (ms'.getD j 0 * 31 + ns.getD (1 + mt + i) 0), ?_, by rw [List.length_set, hl2]⟩)
      rw [upd_same, List.map_set]
    · rintro σ H2 ⟨v8, rfl, s2, ms', h2, hl2⟩
      have fin : ∀ (n : Nat) (H1 : Hp) (D : Addr) (H2 : Hp), Same H H1 → Ties (p : Int) H1 D n H2 → n ≤ mt → ∃ acc, H2 D = some (.lst acc) ∧ ∀ l', H2 l' = none → ([V.int (p : Int), .ref l'] : List V).length ≤ sizeLine ∧ ∀ w', upd H2 l' (.tup acc) w' = none → ∀ zz r, upd (upd H2 l' (.tup acc)) w' (.tup [.int (p : Int), .ref l']) r = none → Q (.ref r) (upd (upd (upd H2 l' (.tup acc)) w' (.tup [.int (p : Int), .ref l'])) r (.tup [.ref w', .int zz])) := by
        intro n H1 D H2 s1 ht hnm
        obtain ⟨acc, ts, hd, hl, gt, z⟩ := ht.fin
        refine ⟨acc, hd, fun l' hl' => ⟨dl rfl, fun w' hw zz r hr => ?_⟩⟩
        obtain ⟨z1, z2⟩ := z l' hl' w' hw
        exact q r w' p ts zz _ ((s1.trans z1).trans (Same.new hr)) ⟨p1, by (first | lia | omega), by (first | lia | omega), gt⟩ p2 (by (first | lia | omega)) (z2.same (Same.new hr)) upd_same
      refine (exq rfl ⟨rfl, exq rfl (?_)⟩)
      by_cases hp1 : p = 1
      case' pos =>
        refine iteP (by rw [hp1]; rfl) ⟨dl rfl, fun cc hcc => ?_⟩
        have s3 : Same H (upd H2 cc (.lst [])) := s2.trans (Same.new hcc)
        have h3 : upd H2 cc (.lst []) cc = some (.lst (([] : List Int).map V.int)) := upd_same
        have hx : ([] : List Int).length ≤ mt ∧ (([] : List Int).length ≠ 0 → 2 ≤ p) := ⟨Nat.zero_le _, fun z => absurd rfl z⟩
        generalize upd H2 cc (.lst []) = H3 at s3 h3
        generalize ([] : List Int) = mx at h3 hx
      case' neg =>
        refine iteD (fun z => hp1 (by have := V.int.inj z; (first | lia | omega))) ?_
        have s3 := s2
        have h3 := h2
        have hx : ms'.length ≤ mt ∧ (ms'.length ≠ 0 → 2 ≤ p) := ⟨by (first | lia | omega), fun _ => by (first | lia | omega)⟩
        generalize H2 = H3 at s3 h3
        generalize ms' = mx at h3 hx
        generalize c2 = cc at h3
      all_goals (
        refine ⟨dl rfl, fun D hD => ?_⟩
        have t0 : Ties (p : Int) H3 D 0 (upd H3 D (.lst [])) := Ties.start hD
        have h4 := t0.1 _ _ h3
        generalize upd H3 D (.lst []) = H4 at t0 h4
        refine (exq rfl (lnq rfl (.inl (SqL.of h4)) (exq rfl ⟨(by rw [List.length_map]; (first | lia | omega)), (by rw [List.length_map]; (first | lia | omega)), ?_⟩)))
        refine for_range' (lo := 0) (n := (((mx.map V.int).length : Nat) : Int).toNat) (fun i σ H5 => ∃ v8, σ = [some (.ref b), some (.int (mp : Int)), some (.int (mt : Int)), some (.int (z % 2)), some (.int lf), some (.int (p : Int)), some (.int (m : Int)), some (.ref cc), v8, some (.ref D)] ∧ Ties (p : Int) H3 D i H5) (exq rfl (t0)) ?_ ?_
        · rintro i D' σ H5 hi ⟨v8, rfl, t5⟩
          rw [Int.toNat_natCast, List.length_map] at hi
          rw [Int.zero_add]
          have hp2' : 2 ≤ p := hx.2 (by (first | lia | omega))
          have hD5 : ∃ acc, H5 D = some (.lst acc) := let ⟨_, acc, _, z, _⟩ := t5; ⟨acc, z⟩
          obtain ⟨acc0, hD5⟩ := hD5
          refine (exq rfl ⟨.inl ⟨rfl, _, SqL.of hD5⟩, exq rfl (exq rfl (ixl (SqL.of (t5.1 _ _ h3)) (atI_nat (j := i) (ints_at hi)) (exq rfl (ijq (exq rfl ⟨_, _, _, rfl, fun zl => ?_⟩)))))⟩)
          refine (exq rfl (exq rfl ⟨zl, p, m, rfl, hp2', by (first | lia | omega), m4, fun t bb H6 s6 gt hb => ?_⟩))
          obtain ⟨acc, hD6, hac, t7⟩ := t5.push hD s6 gt hb
          exact ⟨D, acc, _, rfl, rfl, hD6, smallL (by (first | lia | omega)), exq rfl (t7)⟩
        · rintro σ H5 ⟨v8, rfl, t5⟩
          rw [Int.toNat_natCast, List.length_map] at t5
          obtain ⟨acc, hD5, zf⟩ := fin _ H3 D H5 s3 t5 hx.1
          refine (exq rfl (exq rfl ⟨D, acc, rfl, .inl ⟨SqL.of hD5, fun l' hl' => ⟨(zf l' hl').1, fun w' hw' => ?_⟩⟩⟩))
          exact (exq rfl (exq rfl (ijq ⟨.inl ⟨by decide, by decide⟩, ijq ⟨⟨by show (0 : Int) < 4 * (mp : Int); (first | lia | omega), by show 4 * (mp : Int) < _; (first | lia | omega)⟩, dl rfl, fun r hr => (zf l' hl').2 w' hw' _ r hr⟩⟩))))
end

theorem tiesAt_is {p : Nat} {ts : List Tie} {g : GoodWeb p ts} {m x : Nat} (hm : m < 2 ^ ts.length) : (tiesOf (m : Int)).filter (fun t => decide ((netOf p ts g).a t = x ∨ (netOf p ts g).b t = x)) = (netOf p ts g).tiesAt m x := by
  rw [ties_nat hm, List.filter_filter]
  unfold RM.Net.tiesAt
  refine List.filter_congr fun k _ => ?_
  rw [Bool.and_comm, Bool.decide_or]
theorem in_two (x u v : Nat) : inV (.int (x : Int)) [.int (u : Int), .int (v : Int)] = decide (u = x ∨ v = x) := by
  have e : ([.int (u : Int), .int (v : Int)] : List V) = natsV [u, v] := rfl
  rw [e, inV_nats]
  refine decide_eq_decide.mpr ?_
  simp [eq_comm]
theorem cut_two (u v z : V) : cutV [u, v, z] none (some 2) = [u, v] := rfl

def sp_law_walk : Sp := fun vs H Q _ => ∃ w p ts, ∃ g : GoodWeb p ts, ∃ S, ∃ m : Nat, vs = [.ref w, .int S] ∧ S = (m : Int) ∧ WebAt H w p ts ∧ m < 2 ^ ts.length ∧
  ((netOf p ts g).Ring m → ∀ D H' t0 acc v, H D = none → Same H H' → m.testBit t0 = true → (tiesOf (m : Int))[0]? = some t0 → RM.Wk (netOf p ts g) m t0 acc v 0 → WalkAt H' D acc → Q (.ref D) H') ∧ (¬ (netOf p ts g).Ring m → ∀ H', Same H H' → Q .non H')
theorem at_end (l : List V) (v : V) : atI (l ++ [v]) (-1) = some v := by
  unfold atI ixN
  have hl : (l ++ [v]).length = l.length + 1 := by rw [List.length_append]; rfl
  rw [if_neg (by decide), hl, if_pos (by (first | lia | omega))]
  have e : ((-1 : Int) + ((l.length + 1 : Nat) : Int)).toNat = l.length := by (first | lia | omega)
  show (l ++ [v])[((-1 : Int) + ((l.length + 1 : Nat) : Int)).toNat]? = _
  rw [e, List.getElem?_append_right (Nat.le_refl _)]
  simp
theorem paired_last {α β : Type} {F : α → β → Prop} {y : β} : ∀ {l : List α} {r : List β}, Paired F l (r ++ [y]) → ∃ l' x, l = l' ++ [x] ∧ F x y
  | _, [], .cons h .nil => ⟨[], _, rfl, h⟩
  | _, _ :: r, .cons _ h => by
    obtain ⟨l', x, e, hx⟩ := paired_last (r := r) h
    exact ⟨_ :: l', x, by rw [e]; rfl, hx⟩
theorem upTo_push {p : Nat} {ts : List Tie} {g : GoodWeb p ts} {l : List Nat} {i k : Nat} (hk : l[i]? = some k) (hkl : k < ts.length) :
    (fun j => if j = (netOf p ts g).b k then (if j = (netOf p ts g).a k then (l.take i).filter (fun t => decide ((netOf p ts g).a t = j ∨ (netOf p ts g).b t = j)) ++ [k] else (l.take i).filter (fun t => decide ((netOf p ts g).a t = j ∨ (netOf p ts g).b t = j))) ++ [k]
      else (if j = (netOf p ts g).a k then (l.take i).filter (fun t => decide ((netOf p ts g).a t = j ∨ (netOf p ts g).b t = j)) ++ [k] else (l.take i).filter (fun t => decide ((netOf p ts g).a t = j ∨ (netOf p ts g).b t = j)))) =
    fun j => (l.take (i + 1)).filter (fun t => decide ((netOf p ts g).a t = j ∨ (netOf p ts g).b t = j)) := by
  funext j
  have ne := (netOf p ts g).ne k hkl
  rw [List.take_add_one, hk, List.filter_append]
  by_cases e1 : j = (netOf p ts g).b k
  · have e2 : ¬ j = (netOf p ts g).a k := fun z => ne (z.symm.trans e1)
    rw [if_pos e1, if_neg e2]
    congr 1
    show [k] = [k].filter _
    rw [List.filter_cons, if_pos (decide_eq_true (.inr e1.symm))]
    rfl
  · rw [if_neg e1]
    by_cases e2 : j = (netOf p ts g).a k
    · rw [if_pos e2]
      congr 1
      show [k] = [k].filter _
      rw [List.filter_cons, if_pos (decide_eq_true (.inl e2.symm))]
      rfl
    · rw [if_neg e2]
      have : (some k).toList.filter (fun t => decide ((netOf p ts g).a t = j ∨ (netOf p ts g).b t = j)) = [] := by
        show [k].filter _ = _
        rw [List.filter_cons, if_neg (by rw [decide_eq_true_eq]; exact fun z => z.elim (fun z => e2 z.symm) (fun z => e1 z.symm))]
        rfl
      rw [this, List.append_nil]
section
variable {P : Program} {w : World} {K : PySem.W.Frag} {mg : Str → Option Value} {base : Heap} {a : Adr}
theorem G_law_walk (T : Txt K mg a) : FnOk P w K mg base CX0 1 a.f_law_walk a.d_law_walk ["web", "some"] sp_law_walk := by
  refine T.F_law_walk.ok sc_law_walk (fun vs H Q E h => ?_) (fun cdv A outer s H vs Q E hr h => ?_)
  · obtain ⟨w, p, ts, g, S, m, rfl, _⟩ := h
    rfl
  · obtain ⟨wb, p, ts, g, S, m, rfl, rfl, hw, hm, q1, q2⟩ := h
    refine ⟨_, (@pss_cons _ _ _ _ _ (@ps_comp _ _ _ _ _ _ _ ["point"] [] [] _ _ _ _ 2 _ _ _ sc_law_walk.nd rfl rfl (compText_of (defScope s_law_walk) ["web", "some", "ends", "ties", "k", "start", "at", "walk", "tie"]) rfl (@pi_range1 _ _ _ _ _ _ (by rfl) T.n_range (@pa_cons _ _ _ _ _ (@pe_ix _ _ _ _ _ _ _ (ixT K) (pv 0) pe_int (fun _ _ => rfl)) pa_nil (by rfl)) (by rfl)) (fun _ _ _ _ => (pg_name (i := 0) (show (["point"] : List Str).Nodup by decide +kernel) rfl (Or.inl rfl))) (fun _ _ _ _ => pts_nil) (fun _ _ _ _ => (pe_lst pa_nil)) (by rfl) (by intro _; rfl)) (@pss_cons _ _ _ _ _ (@ps_comp _ _ _ _ _ _ _ ["k"] ["some"] [1] _ _ _ _ 3 _ _ _ sc_law_walk.nd rfl rfl (compText_of (defScope s_law_walk) ["web", "some", "ends", "ties", "k", "start", "at", "walk", "tie"]) rfl (@pi_range1 _ _ _ _ _ _ (by rfl) T.n_range (@pa_cons _ _ _ _ _ (@pe_callB _ _ _ _ _ _ _ _ _ (lenK K) (by rfl) T.n_len PySem.boot_len (@pa_cons _ _ _ _ _ (@pe_ix _ _ _ _ _ _ _ (ixT K) (pv 0) pe_int (fun _ _ => rfl)) pa_nil (by rfl)) (by decide) (by decide) (by rfl) (by rfl)) pa_nil (by rfl)) (by rfl)) (fun _ _ _ _ => (pg_name (i := 0) (show (["k", "some"] : List Str).Nodup by decide +kernel) rfl (Or.inl rfl))) (fun _ _ _ _ => (pts_one (pt_cmpR op_eq (pe_op op_and (pe_op op_shr (pv 1) (pv 0)) pe_int) pe_int (nomark _)))) (fun _ _ _ _ => (pv 0)) (by rfl) (by intro _; rfl)) (@pss_cons _ _ _ _ _ (@ps_for _ _ _ _ _ _ _ _ PassesOwn.never rfl (@piL _ _ _ _ K (pv 3) (by rfl)) (pg_name (i := 4) sc_law_walk.nd rfl (Or.inl rfl)) (@pss_cons _ _ _ _ _ (@ps_expr _ _ _ _ (@bmK _ _ _ _ _ _ K (@pe_bm _ _ _ _ _ _ _ _ _ _ _ _ PySem.F.plainAttrs_list PySem.F.slot_list_append PySem.F.type_list_append mt_append (@pe_ix _ _ _ _ _ _ _ (ixL K) (pv 2) (@pe_ix _ _ _ _ _ _ _ (ixT K) (@pe_ix _ _ _ _ _ _ _ (ixT K) (@pe_ix _ _ _ _ _ _ _ (ixT K) (pv 0) pe_int (fun _ _ => rfl)) (pv 4) (fun _ _ => rfl)) pe_int (fun _ _ => rfl)) (fun _ _ => rfl)) (@pa_cons _ _ _ _ _ (pv 4) pa_nil (by rfl)) (by rfl) (by rfl) (by rfl) (by rfl) (by rfl)) (by rfl)) (by rfl)) (@pss_one _ _ _ (@ps_expr _ _ _ _ (@bmK _ _ _ _ _ _ K (@pe_bm _ _ _ _ _ _ _ _ _ _ _ _ PySem.F.plainAttrs_list PySem.F.slot_list_append PySem.F.type_list_append mt_append (@pe_ix _ _ _ _ _ _ _ (ixL K) (pv 2) (@pe_ix _ _ _ _ _ _ _ (ixT K) (@pe_ix _ _ _ _ _ _ _ (ixT K) (@pe_ix _ _ _ _ _ _ _ (ixT K) (pv 0) pe_int (fun _ _ => rfl)) (pv 4) (fun _ _ => rfl)) pe_int (fun _ _ => rfl)) (fun _ _ => rfl)) (@pa_cons _ _ _ _ _ (pv 4) pa_nil (by rfl)) (by rfl) (by rfl) (by rfl) (by rfl) (by rfl)) (by rfl)) (by rfl)))) (by intro _; rfl)) (@pss_cons _ _ _ _ _ (@ps_if _ _ _ _ _ _ _ _ (PW.pt (@pw_or _ _ _ _ _ _ _ (@pt_cmpR _ _ _ _ _ _ _ _ (op_eqK K hr.units) (pv 3) (@pe_lst _ _ _ _ pa_nil) (nomark _)) (@pw_or1 _ _ _ _ (@pt_cmpR _ _ _ _ _ _ _ _ op_gt (@pe_callB _ _ _ _ _ _ _ _ _ (lenK K) (by rfl) T.n_len PySem.boot_len (@pa_cons _ _ _ _ _ (@pe_comp _ _ _ _ _ _ _ ["row"] [] [] _ _ _ _ (compText_of (defScope s_law_walk) ["web", "some", "ends", "ties", "k", "start", "at", "walk", "tie"]) rfl (@piL _ _ _ _ K (pv 2) (by rfl)) (fun _ _ _ _ => (pg_name (i := 0) (show (["row"] : List Str).Nodup by decide +kernel) rfl (Or.inl rfl))) (fun _ _ _ _ => (pts_one (pt_cmpR (notInK K) (pe_callB (lenK K) (by rfl) T.n_len PySem.boot_len (pa_cons (pv 0) pa_nil)) (pe_tup (pa_cons pe_int (pa_cons pe_int pa_nil))) (by with_unfolding_all rfl)))) (fun _ _ _ _ => (pv 0)) (by intro _; rfl)) pa_nil (by rfl)) (by decide) (by decide) (by rfl) (by rfl)) pe_int (nomark _))))) (@pss_one _ _ _ (@ps_ret _ _ _ _ pe_non)) pss_nil) (@pss_cons _ _ _ _ _ (@ps_asg _ _ _ _ _ _ (@pe_slice _ _ _ _ _ _ _ _ _ _ (slTA) (@pe_ix _ _ _ _ _ _ _ (ixT K) (@pe_ix _ _ _ _ _ _ _ (ixT K) (pv 0) pe_int (fun _ _ => rfl)) (@pe_ix _ _ _ _ _ _ _ (ixL K) (pv 3) pe_int (fun _ _ => rfl)) (fun _ _ => rfl)) po_none (@po_some _ _ _ pe_int)) (@pgT _ _ K _ _ 2 _ rfl (@pgs_cons _ _ _ _ _ (pg_name (i := 5) sc_law_walk.nd rfl (Or.inl rfl)) (@pgs_cons _ _ _ _ _ (pg_name (i := 6) sc_law_walk.nd rfl (Or.inl rfl)) pgs_nil (by rfl)) (by rfl)) (by rfl) (by rfl) (by rfl)) (by rfl) (by rfl) (by rfl)) (@pss_cons _ _ _ _ _ (@ps_set _ _ 7 _ _ _ _ sc_law_walk.nd rfl (Or.inl rfl) (@pe_lst _ _ _ _ (@pa_cons _ _ _ _ _ (@pe_tup _ _ _ _ _ (@pa_cons _ _ _ _ _ (@pe_ix _ _ _ _ _ _ _ (ixL K) (pv 3) pe_int (fun _ _ => rfl)) (@pa_cons _ _ _ _ _ pe_int pa_nil (by rfl)) (by rfl))) pa_nil (by rfl))) (by rfl) (by first | exact .inl rfl | exact .inr rfl | assumption)) (@pss_cons _ _ _ _ _ (@ps_while _ _ _ _ _ _ PassesOwn.never (@pt_cmpR _ _ _ _ _ _ _ _ op_ne (pv 6) (pv 5) (nomark _)) (@pss_cons _ _ _ _ _ (@ps_set _ _ 8 _ _ _ _ sc_law_walk.nd rfl (Or.inl rfl) (@pe_op _ _ _ _ _ _ _ _ op_sub (@pe_callB _ _ _ _ _ _ _ _ _ (sumK K rfl) (by rfl) T.n_sum PyProof.Rows.boot_sum (@pa_cons _ _ _ _ _ (@pe_ix _ _ _ _ _ _ _ (ixL K) (pv 2) (pv 6) (fun _ _ => rfl)) pa_nil (by rfl)) (by decide) (by decide) (by rfl) (by rfl)) (@pe_ix _ _ _ _ _ _ _ (ixT K) (@pe_ix _ _ _ _ _ _ _ (ixL K) (pv 7) (@pe_un _ _ _ _ _ _ un_neg pe_int) (fun _ _ => rfl)) pe_int (fun _ _ => rfl))) (by rfl) (by first | exact .inl rfl | exact .inr rfl | assumption)) (@pss_one _ _ _ (@ps_if _ _ _ _ _ _ _ _ (@pt_cmpR _ _ _ _ _ _ _ _ op_eq (@pe_ix _ _ _ _ _ _ _ (ixT K) (@pe_ix _ _ _ _ _ _ _ (ixT K) (@pe_ix _ _ _ _ _ _ _ (ixT K) (pv 0) pe_int (fun _ _ => rfl)) (pv 8) (fun _ _ => rfl)) pe_int (fun _ _ => rfl)) (pv 6) (nomark _)) (@pss_cons _ _ _ _ _ (@ps_expr _ _ _ _ (@bmK _ _ _ _ _ _ K (@pe_bm _ _ _ _ _ _ _ _ _ _ _ _ PySem.F.plainAttrs_list PySem.F.slot_list_append PySem.F.type_list_append mt_append (pv 7) (@pa_cons _ _ _ _ _ (@pe_tup _ _ _ _ _ (@pa_cons _ _ _ _ _ (pv 8) (@pa_cons _ _ _ _ _ pe_int pa_nil (by rfl)) (by rfl))) pa_nil (by rfl)) (by rfl) (by rfl) (by rfl) (by rfl) (by rfl)) (by rfl)) (by rfl)) (@pss_one _ _ _ (@ps_set _ _ 6 _ _ _ _ sc_law_walk.nd rfl (Or.inl rfl) (@pe_ix _ _ _ _ _ _ _ (ixT K) (@pe_ix _ _ _ _ _ _ _ (ixT K) (@pe_ix _ _ _ _ _ _ _ (ixT K) (pv 0) pe_int (fun _ _ => rfl)) (pv 8) (fun _ _ => rfl)) pe_int (fun _ _ => rfl)) (by rfl) (by first | exact .inl rfl | exact .inr rfl | assumption)))) (@pss_cons _ _ _ _ _ (@ps_expr _ _ _ _ (@bmK _ _ _ _ _ _ K (@pe_bm _ _ _ _ _ _ _ _ _ _ _ _ PySem.F.plainAttrs_list PySem.F.slot_list_append PySem.F.type_list_append mt_append (pv 7) (@pa_cons _ _ _ _ _ (@pe_tup _ _ _ _ _ (@pa_cons _ _ _ _ _ (pv 8) (@pa_cons _ _ _ _ _ (@pe_un _ _ _ _ _ _ un_neg pe_int) pa_nil (by rfl)) (by rfl))) pa_nil (by rfl)) (by rfl) (by rfl) (by rfl) (by rfl) (by rfl)) (by rfl)) (by rfl)) (@pss_one _ _ _ (@ps_set _ _ 6 _ _ _ _ sc_law_walk.nd rfl (Or.inl rfl) (@pe_ix _ _ _ _ _ _ _ (ixT K) (@pe_ix _ _ _ _ _ _ _ (ixT K) (@pe_ix _ _ _ _ _ _ _ (ixT K) (pv 0) pe_int (fun _ _ => rfl)) (pv 8) (fun _ _ => rfl)) pe_int (fun _ _ => rfl)) (by rfl) (by first | exact .inl rfl | exact .inr rfl | assumption)))))))) (@pss_cons _ _ _ _ _ (@ps_if _ _ _ _ _ _ _ _ (@pt_cmpR _ _ _ _ _ _ _ _ op_ne (@pe_callB _ _ _ _ _ _ _ _ _ (lenK K) (by rfl) T.n_len PySem.boot_len (@pa_cons _ _ _ _ _ (pv 7) pa_nil (by rfl)) (by decide) (by decide) (by rfl) (by rfl)) (@pe_callB _ _ _ _ _ _ _ _ _ (lenK K) (by rfl) T.n_len PySem.boot_len (@pa_cons _ _ _ _ _ (pv 3) pa_nil (by rfl)) (by decide) (by decide) (by rfl) (by rfl)) (nomark _)) (@pss_one _ _ _ (@ps_ret _ _ _ _ pe_non)) pss_nil) (@pss_one _ _ _ (@ps_ret _ _ _ _ (pv 7))))))))))), ?_⟩
    refine hd_law_walk ?_
    intro zz0 zz1 zz2 zz3 zz4 zz5 zz6 zz7 zz8 zz9 zz10 zz11 zz12 zz13 zz14 zz15 zz16 zz17
    obtain ⟨bt, xs, h1, h2, h3⟩ := id hw.ex
    have hxl := h3.length
    have wl := g.len
    have wp := g.p2
    refine (exq rfl (ixq (SqT.of h1) (atI_nat (j := 0) rfl) (exq rfl ⟨(by (first | lia | omega)), (by (first | lia | omega)), fun E hE => comp_range (lo := 0) (m := p) (RowsC H E) (.start hE) (fun i acc H2 _ f => f.len) (small24 (by (first | lia | omega))) ?_ ?_⟩)))
    · intro i acc H2 hi f
      exact ⟨rfl, dl rfl, fun b hb => f.next hb⟩
    intro acc H1 f
    obtain ⟨es, rfl, hel, R1⟩ := f
    refine (exq rfl (ixq (SqT.of (R1.same _ _ h1)) (atI_nat (j := 1) rfl) (lnq rfl (.inr (SqT.of (R1.same _ _ h2))) (exq rfl ⟨(by (first | lia | omega)), (by (first | lia | omega)), fun L hL => comp_range (lo := 0) (m := xs.length) (Pick (bit (m : Int)) H1 L) (.start hL) (fun i acc H2 _ p => p.len) (small24 (by (first | lia | omega))) ?_ ?_⟩))))
    · intro i acc H2 hi pk
      rw [Int.zero_add]
      refine ⟨rfl, exq rfl (exq rfl (ijq ⟨(by (first | lia | omega)), ijq ⟨rfl, exq rfl (?_)⟩⟩))⟩
      rw [Int.toNat_natCast, has_eq]
      cases hb : bit (m : Int) i with
      | true => exact (exq rfl (pk.yes hL (Same.refl _) hb))
      | false => exact pk.no (Same.refl _) hb
    intro acc H2 pk
    have hL2 : H2 L = some (.lst (natsV (tiesOf (m : Int)))) := by
      rw [pk.2.1, pk.2.2, ties_nat hm, hxl]
      show some (HO.lst (natsV ((List.range ts.length).filter (bit (m : Int))))) = _
      rw [show bit (m : Int) = fun k => m.testBit k from funext fun k => bit_nat m k]
    have R2 := R1.go pk.1
    have hLH : H L = none := R1.same.free hL
    have hLes : L ∉ es := fun z => by
      obtain ⟨j, hj⟩ := List.getElem?_of_mem z
      have := R1.at_ j L hj
      rw [hL] at this
      cases this
    refine (exq rfl ⟨L, rfl, ⟨_, SqL.of hL2⟩, for_list' (K := K) (a := L) (xs := natsV (tiesOf (m : Int))) (fun i σ H3 => ∃ v4, σ = [some (.ref wb), some (.int (m : Int)), some (.ref E), some (.ref L), v4, none, none, none, none] ∧ Rows H E es (fun x => ((tiesOf (m : Int)).take i).filter (fun t => decide ((netOf p ts g).a t = x ∨ (netOf p ts g).b t = x))) H3 ∧ H3 L = some (.lst (natsV (tiesOf (m : Int)))))
      ⟨none, rfl, R2, hL2⟩ (fun i σ H3 _ ⟨_, _, _, z⟩ => SqL.of z) ?_ ?_⟩)
    · rintro i y D' σ H3 hi ⟨v4, rfl, R3, hL3⟩
      obtain ⟨k, hk, rfl⟩ := natsV_get hi
      have hkl : k < ts.length := ties_lt hm (List.mem_of_getElem? hk)
      obtain ⟨c, hxc, hct⟩ := tie_in (g := g) h3 hkl
      have ha := (netOf p ts g).al k hkl
      have hb := (netOf p ts g).bl k hkl
      have ha : (netOf p ts g).a k < p := ha
      have hb : (netOf p ts g).b k < p := hb
      obtain ⟨ba, ga, ea, va⟩ := R3.get (i := (netOf p ts g).a k) (by (first | lia | omega))
      have s3 := R3.same
      have hti : ((tiesOf (m : Int)).take i).length ≤ 24 := by
        have h1 : (tiesOf (m : Int)).length ≤ ts.length := by rw [ties_nat hm]; exact Nat.le_trans (List.length_filter_le _ _) (by rw [List.length_range]; exact Nat.le_refl _)
        have h2 := List.length_take_le i (tiesOf (m : Int))
        have h3 := List.length_take_le' i (tiesOf (m : Int))
        (first | lia | omega)
      refine (exq rfl (exq rfl (ixq (SqT.of (s3 _ _ h1)) (atI_nat (j := 1) rfl) (exq rfl (ixq (SqT.of (s3 _ _ h2)) (atI_nat (j := k) hxc) (ixq (SqT.of (s3 _ _ hct)) (atI_nat (j := 0) rfl) (ixl (SqL.of R3.lst) (atI_nat (j := (netOf p ts g).a k) ga) ⟨.inl ⟨rfl, _, SqL.of va⟩, exq rfl ⟨ba, _, _, rfl, rfl, va, smallL (by rw [natsV_len]; have := List.length_filter_le (fun t => decide ((netOf p ts g).a t = (netOf p ts g).a k ∨ (netOf p ts g).b t = (netOf p ts g).a k)) ((tiesOf (m : Int)).take i); (first | lia | omega)), ?_⟩⟩)))))))
      have R4 := R3.push (k := k) ea
      have hL4 : upd H3 ba (.lst (natsV (((tiesOf (m : Int)).take i).filter (fun t => decide ((netOf p ts g).a t = (netOf p ts g).a k ∨ (netOf p ts g).b t = (netOf p ts g).a k))) ++ [.int (k : Int)])) L = some (.lst (natsV (tiesOf (m : Int)))) := by
        rw [upd_ne (fun z : L = ba => hLes (z ▸ List.mem_of_getElem? ea))]
        exact hL3
      generalize upd H3 ba (.lst (natsV (((tiesOf (m : Int)).take i).filter (fun t => decide ((netOf p ts g).a t = (netOf p ts g).a k ∨ (netOf p ts g).b t = (netOf p ts g).a k))) ++ [.int (k : Int)])) = H4 at R4 hL4
      obtain ⟨bb, gb, eb, vb⟩ := R4.get (i := (netOf p ts g).b k) (by (first | lia | omega))
      have s4 := R4.same
      have ne : ¬ (netOf p ts g).b k = (netOf p ts g).a k := fun z => (netOf p ts g).ne k hkl z.symm
      refine (exq rfl (exq rfl (ixq (SqT.of (s4 _ _ h1)) (atI_nat (j := 1) rfl) (exq rfl (ixq (SqT.of (s4 _ _ h2)) (atI_nat (j := k) hxc) (ixq (SqT.of (s4 _ _ hct)) (atI_nat (j := 1) rfl) (ixl (SqL.of R4.lst) (atI_nat (j := (netOf p ts g).b k) gb) ⟨.inl ⟨rfl, _, SqL.of vb⟩, exq rfl ⟨bb, _, _, rfl, rfl, vb, smallL (by rw [natsV_len, if_neg ne]; have := List.length_filter_le (fun t => decide ((netOf p ts g).a t = (netOf p ts g).b k ∨ (netOf p ts g).b t = (netOf p ts g).b k)) ((tiesOf (m : Int)).take i); (first | lia | omega)), ?_⟩⟩)))))))
      have R5 := R4.push (k := k) eb
      rw [upTo_push hk hkl] at R5
      exact (exq rfl ⟨R5, by rw [upd_ne (fun z : L = bb => hLes (z ▸ List.mem_of_getElem? eb))]; exact hL4⟩)
    rintro σ H3 ⟨v4, rfl, R3, hL3⟩
    rw [natsV_len, List.take_length, show (fun x => (tiesOf (m : Int)).filter (fun t => decide ((netOf p ts g).a t = x ∨ (netOf p ts g).b t = x))) = fun x => (netOf p ts g).tiesAt m x from funext fun x => tiesAt_is hm] at R3
    refine (exq rfl ⟨dl rfl, fun l hl => ⟨_, _, .lst (SqL.of (Same.new hl _ _ hL3)) (nats_dat _), .lst (SqL.of upd_same) .nil, shaped_nats _, rfl, exq rfl (?_)⟩⟩)
    rw [eqv_nil]
    have R4 := R3.go (Same.new (o := .lst []) hl)
    have hL4 : upd H3 l (.lst []) L = _ := Same.new hl _ _ hL3
    generalize upd H3 l (.lst []) = H4 at R4 hL4
    by_cases hz : tiesOf (m : Int) = []
    · rw [decide_eq_true hz]
      refine iteT (iteT (q2 (fun r => ?_) H4 R4.same))
      obtain ⟨c, hc0, _⟩ := first_tie r.1
      rw [hz] at hc0
      cases hc0
    rw [decide_eq_false hz]
    refine iteF ?_
    refine (exq rfl ⟨E, rfl, ⟨_, SqL.of R4.lst⟩, fun C hC => comp_list (xs := es.map V.ref) (fun i acc H5 => Same H4 H5 ∧ H5 C = some (.lst acc) ∧ acc.length = RM.cnt (fun x => !decide (0 = (netOf p ts g).dg m x ∨ 2 = (netOf p ts g).dg m x)) i) ⟨Same.new hC, upd_same, rfl⟩
      (fun i acc H5 hi f => ⟨SqL.of (f.1 _ _ R4.lst), f.2.1, by have := RM.cnt_not (fun x => !decide (0 = (netOf p ts g).dg m x ∨ 2 = (netOf p ts g).dg m x)) i; have := f.2.2; (first | lia | omega)⟩) (small24 (by rw [List.length_map]; (first | lia | omega))) ?_ ?_⟩)
    · rintro i y acc H5 hy ⟨f1, f2, f3⟩
      rw [List.getElem?_map] at hy
      obtain ⟨b, hb, rfl⟩ := Option.map_eq_some_iff.mp hy
      have hb5 := f1 _ _ (R4.at_ i b hb)
      refine ⟨rfl, exq rfl (lnq rfl (.inl (SqL.of hb5)) ⟨dl rfl, fun u hu => (lnq rfl (.inr (SqT.of upd_same)) ⟨rfl, rfl, exq rfl (?_)⟩)⟩)⟩
      have e : inV (.int (((natsV ((netOf p ts g).tiesAt m i)).length : Nat) : Int)) [.int 0, .int 2] = decide (0 = (netOf p ts g).dg m i ∨ 2 = (netOf p ts g).dg m i) := by
        rw [natsV_len, RM.tiesAt_len]
        exact in_two _ 0 2
      have hc1 : RM.cnt (fun x => !decide (0 = (netOf p ts g).dg m x ∨ 2 = (netOf p ts g).dg m x)) (i + 1) = RM.cnt (fun x => !decide (0 = (netOf p ts g).dg m x ∨ 2 = (netOf p ts g).dg m x)) i + if (!decide (0 = (netOf p ts g).dg m i ∨ 2 = (netOf p ts g).dg m i)) = true then 1 else 0 := rfl
      dsimp only
      rw [if_pos rfl, e]
      have hCu : C ≠ u := ne_of_none f2 hu
      cases hb : decide (0 = (netOf p ts g).dg m i ∨ 2 = (netOf p ts g).dg m i) with
      | false =>
        rw [hb] at hc1
        refine iteT (exq rfl ⟨by rw [upd_ne hCu]; exact f2, (f1.trans (Same.new hu)).put hC, upd_same, ?_⟩)
        rw [List.length_append, hc1, f3]
        rfl
      | true =>
        rw [hb] at hc1
        exact iteF ⟨f1.trans (Same.new hu), by rw [upd_ne hCu]; exact f2, by rw [hc1, f3]; rfl⟩
    rintro acc H5 ⟨f1, f2, f3⟩
    refine (lnq rfl (.inl (SqL.of f2)) (ijq (exq rfl (?_))))
    rw [List.length_map, hel] at f3
    have R5 := R4.go f1
    have hL5 := f1 _ _ hL4
    by_cases hD : (netOf p ts g).D2 m
    case neg =>
      have hpos : (0 : Int) < ((acc.length : Nat) : Int) := by
        have : 0 < acc.length := by
          rw [f3]
          apply Classical.byContradiction
          intro hz
          refine hD fun x hx => ?_
          cases hc : decide (0 = (netOf p ts g).dg m x ∨ 2 = (netOf p ts g).dg m x) with
          | true => exact (of_decide_eq_true hc).elim (fun z => .inl z.symm) (fun z => .inr z.symm)
          | false => exact absurd (RM.cnt_pos (f := fun x => !decide (0 = (netOf p ts g).dg m x ∨ 2 = (netOf p ts g).dg m x)) (k := x) (by rw [hc]; rfl) hx) hz
        (first | lia | omega)
      rw [decide_eq_true hpos]
      exact iteT (q2 (fun r => hD (RM.ring_d2 hm r)) H5 R5.same)
    have hz0 : ¬ (0 : Int) < ((acc.length : Nat) : Int) := fun z => by
      have z : 0 < acc.length := by (first | lia | omega)
      rw [f3] at z
      obtain ⟨x, hx, hxf⟩ := RM.cnt_some z
      rw [Bool.not_eq_true', decide_eq_false_iff_not] at hxf
      exact hxf ((hD x hx).elim (fun z => .inl z.symm) (fun z => .inr z.symm))
    rw [decide_eq_false hz0]
    refine iteF ?_
    have hm0 : m ≠ 0 := fun z => hz (by rw [z]; rfl)
    obtain ⟨c, hc0, hcb⟩ := first_tie hm0
    have hcl := RM.bits_lt hm hcb
    obtain ⟨b, hxb, hct⟩ := tie_in (g := g) h3 hcl
    have s5 := R5.same
    refine (exq rfl (ixq (SqT.of (s5 _ _ h1)) (atI_nat (j := 1) rfl) (exq rfl (ixl (SqL.of hL5) (atI_nat (j := 0) (nats_at hc0)) (ixq (SqT.of (s5 _ _ h2)) (atI_nat (j := c) hxb) ⟨2, rfl, b, _, rfl, s5 _ _ hct, fun u H6 s6 hu => ?_⟩)))))
    rw [cut_two] at hu
    refine ⟨u, _, rfl, SqT.of hu, rfl, _, _, rfl, _, _, rfl, rfl, ?_⟩
    have R6 := R5.go s6
    have hL6 := s6 _ _ hL5
    refine (exq rfl (ixl (SqL.of hL6) (atI_nat (j := 0) (nats_at hc0)) ⟨dl rfl, fun b0 hb0 => ⟨dl rfl, fun Dw hDw => ?_⟩⟩))
    have s7 : Same H6 (upd (upd H6 b0 (.tup [.int ((c : Nat) : Int), .int 1])) Dw (.lst [.ref b0])) := (Same.new hb0).trans (Same.new hDw)
    have hDn : H6 Dw = none := (Same.new hb0).free hDw
    have hDH : H Dw = none := R6.same.free hDn
    have w7 : WalkAt (upd (upd H6 b0 (.tup [.int ((c : Nat) : Int), .int 1])) Dw (.lst [.ref b0])) Dw [(c, 1)] :=
      ⟨[.ref b0], upd_same, .cons ⟨b0, rfl, Same.new hDw _ _ upd_same⟩ .nil⟩
    generalize upd (upd H6 b0 (.tup [.int ((c : Nat) : Int), .int 1])) Dw (.lst [.ref b0]) = H7 at s7 w7
    refine ⟨fun k σ H8 => ∃ acc v left v8, σ = [some (.ref wb), some (.int (m : Int)), some (.ref E), some (.ref L), v4, some (.int (((netOf p ts g).a c : Nat) : Int)), some (.int ((v : Nat) : Int)), some (.ref Dw), v8] ∧ Same H6 H8 ∧ WalkAt H8 Dw acc ∧ RM.Wk (netOf p ts g) m c acc v left ∧ k = RM.cnt (fun j => left.testBit j) ts.length, ⟨_, [(c, 1)], (netOf p ts g).b c, m ^^^ 2 ^ c, none, rfl, s7, w7, .start, rfl⟩, ?_⟩
    rintro k σ H8 ⟨acc, v, left, v8, rfl, s8, w8, wk, rfl⟩
    refine (exq rfl (exq rfl ⟨rfl, exq rfl (?_)⟩))
    rw [dec_nat]
    have R8 := R6.go s8
    have hL8 := s8 _ _ hL6
    obtain ⟨ws, hws, hwp⟩ := id w8
    have hlen : acc.length + RM.cnt (fun j => left.testBit j) ts.length = RM.cnt (fun j => m.testBit j) ts.length := RM.wk_len hm hcb wk
    by_cases e : v = (netOf p ts g).a c
    · subst e
      rw [decide_eq_true rfl]
      refine iteF (exq rfl (lnq rfl (.inl (SqL.of hws)) (exq rfl (lnq rfl (.inl (SqL.of hL8)) ⟨rfl, exq rfl (?_)⟩))))
      rw [natsV_len, dec_nat, hwp.length, ties_cnt hm]
      have hfull : acc.length = RM.cnt (fun k => m.testBit k) ts.length ↔ left = 0 := RM.wk_full hm hcb wk
      by_cases hl0 : left = 0
      · subst hl0
        rw [decide_eq_true (hfull.mpr rfl)]
        exact iteF (exq rfl (q1 ((RM.d2_ring hm hD hcb wk).mpr rfl) Dw H8 c acc _ hDH R8.same hcb hc0 wk w8))
      · rw [decide_eq_false (fun z => hl0 (hfull.mp z))]
        exact iteT (q2 (fun r => hl0 ((RM.d2_ring hm hD hcb wk).mp r)) H8 R8.same)
    rw [decide_eq_false e]
    obtain ⟨acc', l, yy, t, eacc, htn, hpair, hl0, htt⟩ := RM.d2_on hm hD hcb wk e
    have htn : t < ts.length := htn
    have htm := RM.tiesAt_mem.mp (List.mem_of_getElem? htt)
    have hvp : v < p := (RM.wk_last hm hcb wk).1
    have hdec : RM.cnt (fun j => left.testBit j) ts.length = RM.cnt (fun j => (left ^^^ 2 ^ t).testBit j) ts.length + 1 := RM.cnt_less htn htm.2.1
    have hc24 : RM.cnt (fun j => m.testBit j) ts.length ≤ ts.length := by
      have := RM.cnt_not (fun j => m.testBit j) ts.length
      (first | lia | omega)
    refine iteT ⟨fun σ H9 => ∃ acc v left' v8, σ = [some (.ref wb), some (.int (m : Int)), some (.ref E), some (.ref L), v4, some (.int (((netOf p ts g).a c : Nat) : Int)), some (.int ((v : Nat) : Int)), some (.ref Dw), v8] ∧ Same H6 H9 ∧ WalkAt H9 Dw acc ∧ RM.Wk (netOf p ts g) m c acc v left' ∧ RM.cnt (fun j => left'.testBit j) ts.length < RM.cnt (fun j => left.testBit j) ts.length, fun σ H9 ⟨acc, v, left', v8, z1, z2, z3, z4, z5⟩ => ⟨_, z5, acc, v, left', v8, z1, z2, z3, z4, rfl⟩, ?_⟩
    obtain ⟨bv, gv, ev, vv⟩ := R8.get (i := v) (by (first | lia | omega))
    rw [natsV_ints] at vv
    have hwp0 := hwp
    rw [eacc] at hwp
    obtain ⟨ws', x, ews, b7, rfl, hb7⟩ := paired_last hwp
    have hs : (((netOf p ts g).tiesAt m v).map fun x => ((x : Nat) : Int)).sum - ((l : Nat) : Int) = ((t : Nat) : Int) := by
      rcases hpair with z | z <;> · rw [z]; simp only [List.map_cons, List.map_nil, List.sum_cons, List.sum_nil]; (first | lia | omega)
    refine (exq rfl (exq rfl (ixl (SqL.of R8.lst) (atI_nat (j := v) gv) ⟨bv, _, rfl, SqL.of vv, _, rfl, exq rfl (ixl (SqL.of hws) (by rw [ews]; exact at_end _ _) (ixq (SqT.of hb7) (atI_nat (j := 0) rfl) (ijq (?_))))⟩)))
    dsimp only
    rw [hs]
    have s08 := R8.same
    obtain ⟨bb, hxbb, hctt⟩ := tie_in (g := g) h3 htn
    refine (exq rfl (ixq (SqT.of (s08 _ _ h1)) (atI_nat (j := 1) rfl) (exq rfl (ixq (SqT.of (s08 _ _ h2)) (atI_nat (j := t) hxbb) (ixq (SqT.of (s08 _ _ hctt)) (atI_nat (j := 0) rfl) (exq rfl ⟨rfl, exq rfl (?_)⟩))))))
    rw [dec_nat]
    have hwsl : ws.length < sizeLine := by
      rw [hwp0.length]
      exact smallL (by (first | lia | omega))
    by_cases ea : (netOf p ts g).a t = v
    · rw [decide_eq_true ea]
      refine iteT (exq rfl ⟨.inl ⟨rfl, _, SqL.of hws⟩, exq rfl ⟨dl rfl, fun b1 hb1 => ⟨Dw, ws, _, rfl, rfl, Same.new hb1 _ _ hws, hwsl, ?_⟩⟩⟩)
      have s9 : Same H8 (upd H8 b1 (.tup [.int ((t : Nat) : Int), .int 1])) := Same.new hb1
      have wk9 := RM.Wk.next wk hl0 htt
      have hfar : (netOf p ts g).far t v = (netOf p ts g).b t := by unfold RM.Net.far; rw [if_pos ea]
      rw [if_pos ea, hfar] at wk9
      have w9 := WalkAt.push (q := (t, 1)) (s9 _ _ hws) (Paired.imp' (fun _ _ z => PrA.same s9 z) hwp0) upd_same
      have s10 : Same H (upd (upd H8 b1 (.tup [.int ((t : Nat) : Int), .int 1])) Dw (.lst (ws ++ [.ref b1]))) := (s08.trans s9).put hDH
      have s69 : Same H6 (upd (upd H8 b1 (.tup [.int ((t : Nat) : Int), .int 1])) Dw (.lst (ws ++ [.ref b1]))) := (s8.trans s9).put hDn
      exact (exq rfl (ixq (SqT.of (s10 _ _ h1)) (atI_nat (j := 1) rfl) (exq rfl (ixq (SqT.of (s10 _ _ h2)) (atI_nat (j := t) hxbb) (ixq (SqT.of (s10 _ _ hctt)) (atI_nat (j := 1) rfl) ⟨_, _, _, _, rfl, s69, w9, wk9, by (first | lia | omega)⟩)))))
    · rw [decide_eq_false ea]
      refine iteF (exq rfl ⟨.inl ⟨rfl, _, SqL.of hws⟩, exq rfl (exq rfl ⟨dl rfl, fun b1 hb1 => ⟨Dw, ws, _, rfl, rfl, Same.new hb1 _ _ hws, hwsl, ?_⟩⟩)⟩)
      have s9 : Same H8 (upd H8 b1 (.tup [.int ((t : Nat) : Int), .int (-1)])) := Same.new hb1
      have wk9 := RM.Wk.next wk hl0 htt
      have hfar : (netOf p ts g).far t v = (netOf p ts g).a t := by unfold RM.Net.far; rw [if_neg ea]
      rw [if_neg ea, hfar] at wk9
      have w9 := WalkAt.push (q := (t, -1)) (s9 _ _ hws) (Paired.imp' (fun _ _ z => PrA.same s9 z) hwp0) upd_same
      have s10 : Same H (upd (upd H8 b1 (.tup [.int ((t : Nat) : Int), .int (-1)])) Dw (.lst (ws ++ [.ref b1]))) := (s08.trans s9).put hDH
      have s69 : Same H6 (upd (upd H8 b1 (.tup [.int ((t : Nat) : Int), .int (-1)])) Dw (.lst (ws ++ [.ref b1]))) := (s8.trans s9).put hDn
      exact (exq rfl (ixq (SqT.of (s10 _ _ h1)) (atI_nat (j := 1) rfl) (exq rfl (ixq (SqT.of (s10 _ _ h2)) (atI_nat (j := t) hxbb) (ixq (SqT.of (s10 _ _ hctt)) (atI_nat (j := 0) rfl) ⟨_, _, _, _, rfl, s69, w9, wk9, by (first | lia | omega)⟩)))))
end

def sp_leastR : Sp := fun vs H Q _ => ∃ (x : Option Int) (y : Int), vs = [oV x, .int y] ∧ Q (.int (RM.lst x y)) H
def sp_worthsR : Sp := fun vs H Q _ => ∃ (w : Addr) (p : Nat) (ts : List Tie), ∃ g : GoodWeb p ts, ∃ (m pt : Nat), vs = [.ref w, .int (m : Int), .int (pt : Int)] ∧ WebAt H w p ts ∧ pt < p ∧
  ∀ b ys R H', Same H H' → H' b = some (.tup ys) → Paired (PairAt H') ys R → R.length = p → (∀ x s, x < p → RM.Best (netOf p ts g) (lenAt ts) m pt x s (sel (prAt R x) s)) → Q (.ref b) H'
theorem sx (sb : Bool) (m k : Nat) : Builtin.bitXor (sb.toNat : Int) (Builtin.bitAnd ((m : Int) / 2 ^ (k : Int).toNat) 1) = ((sb ^^ m.testBit k).toNat : Int) := by
  have e : Builtin.bitAnd ((m : Int) / 2 ^ (k : Int).toNat) 1 = ((m.testBit k).toNat : Int) := by
    rw [Int.toNat_natCast, PyProof.Rows.bitAnd_m1, ← bit_nat]
    unfold bit
    obtain ⟨h0, h1⟩ := emod2 ((m : Int) / 2 ^ k) 2 (by decide)
    by_cases h : (m : Int) / 2 ^ k % 2 = 1
    · rw [decide_eq_true h, h]
      rfl
    · rw [decide_eq_false h]
      have : (m : Int) / 2 ^ k % 2 = 0 := by (first | lia | omega)
      rw [this]
      rfl
  rw [e]
  cases sb <;> cases m.testBit k <;> decide
section
variable {P : Program} {w : World} {K : PySem.W.Frag} {mg : Str → Option Value} {base : Heap} {a : Adr}
theorem G_law_least (T : Txt K mg a) : FnOk P w K mg base CX0 1 a.f_law_least a.d_law_least ["one", "more"] sp_leastR := by
  refine T.F_law_least.ok sc_law_least (fun vs H Q E h => ?_) (fun cdv A outer s H vs Q E hr h => ?_)
  · obtain ⟨x, y, rfl, _⟩ := h
    rfl
  · obtain ⟨x, y, rfl, q⟩ := h
    refine ⟨_, (@pss_cons _ _ _ _ _ (@ps_if _ _ _ _ _ _ _ _ (PW.pt (@pw_or _ _ _ _ _ _ _ (@pt_cmpR _ _ _ _ _ _ _ _ op_isN (pv 0) pe_non (nomark _)) (@pw_or1 _ _ _ _ (@pt_cmpR _ _ _ _ _ _ _ _ op_lt (pv 1) (pv 0) (nomark _))))) (@pss_one _ _ _ (@ps_ret _ _ _ _ (pv 1))) pss_nil) (@pss_one _ _ _ (@ps_ret _ _ _ _ (pv 0)))), ?_⟩
    refine hd_law_least ?_
    intro zz0 zz1
    cases x with
    | none => exact (exq rfl ⟨rfl, exq rfl (iteP rfl (exq rfl (q)))⟩)
    | some x =>
      refine (exq rfl ⟨rfl, exq rfl (iteD (fun z => nomatch z) (exq rfl (exq rfl (ijq (exq rfl (ite2 (fun h => (exq rfl (?_))) (fun h => (exq rfl (?_)))))))))⟩)
      · have e : RM.lst (some x) y = y := if_pos (of_decide_eq_true h)
        rw [e] at q
        exact q
      · have e : RM.lst (some x) y = x := if_neg (fun z => h (decide_eq_true z))
        rw [e] at q
        exact q
theorem G_law_worths (T : Txt K mg a) : FnOk P w K mg base CX0 2 a.f_law_worths a.d_law_worths ["web", "marks", "point"] sp_worthsR := by
  have G_law_least : FnOk P w K mg base CX0 1 a.f_law_least a.d_law_least ["one", "more"] sp_leastR := G_law_least T
  refine T.F_law_worths.ok sc_law_worths (fun vs H Q E h => ?_) (fun cdv A outer s H vs Q E hr h => ?_)
  · obtain ⟨w, p, ts, g, m, pt, rfl, _⟩ := h
    rfl
  · obtain ⟨wb, p, ts, g, m, pt, rfl, hw, hpt, q⟩ := h
    refine ⟨_, (@pss_cons _ _ _ _ _ (@ps_comp _ _ _ _ _ _ _ ["other"] [] [] _ _ _ _ 3 _ _ _ sc_law_worths.nd rfl rfl (compText_of (defScope s_law_worths) ["web", "marks", "point", "far", "turn", "k", "one", "other", "length", "bit", "a", "b", "s"]) rfl (@pi_range1 _ _ _ _ _ _ (by rfl) T.n_range (@pa_cons _ _ _ _ _ (@pe_ix _ _ _ _ _ _ _ (ixT K) (pv 0) pe_int (fun _ _ => rfl)) pa_nil (by rfl)) (by rfl)) (fun _ _ _ _ => (pg_name (i := 0) (show (["other"] : List Str).Nodup by decide +kernel) rfl (Or.inl rfl))) (fun _ _ _ _ => pts_nil) (fun _ _ _ _ => (pe_lst (pa_cons pe_non (pa_cons pe_non pa_nil)))) (by rfl) (by intro _; rfl)) (@pss_cons _ _ _ _ _ (@ps_asg _ _ _ _ _ _ pe_int (@pg_sub _ _ _ _ _ _ _ (@pe_ix _ _ _ _ _ _ _ (ixL K) (pv 3) (pv 2) (fun _ _ => rfl)) pe_int set_list (by intro _; rfl)) (by rfl) (by rfl) (by rfl)) (@pss_cons _ _ _ _ _ (@ps_for _ _ _ _ _ _ _ _ PassesOwn.never rfl (@pi_range1 _ _ _ _ _ _ (by rfl) T.n_range (@pa_cons _ _ _ _ _ (@pe_op _ _ _ _ _ _ _ _ op_mul pe_int (@pe_ix _ _ _ _ _ _ _ (ixT K) (pv 0) pe_int (fun _ _ => rfl))) pa_nil (by rfl)) (by rfl)) (pg_name (i := 4) sc_law_worths.nd rfl (Or.inl rfl)) (@pss_one _ _ _ (@ps_for _ _ _ _ _ _ _ _ PassesOwn.never rfl (@pi_range1 _ _ _ _ _ _ (by rfl) T.n_range (@pa_cons _ _ _ _ _ (@pe_callB _ _ _ _ _ _ _ _ _ (lenK K) (by rfl) T.n_len PySem.boot_len (@pa_cons _ _ _ _ _ (@pe_ix _ _ _ _ _ _ _ (ixT K) (pv 0) pe_int (fun _ _ => rfl)) pa_nil (by rfl)) (by decide) (by decide) (by rfl) (by rfl)) pa_nil (by rfl)) (by rfl)) (pg_name (i := 5) sc_law_worths.nd rfl (Or.inl rfl)) (@pss_cons _ _ _ _ _ (@ps_asg _ _ _ _ _ _ (@pe_ix _ _ _ _ _ _ _ (ixT K) (@pe_ix _ _ _ _ _ _ _ (ixT K) (pv 0) pe_int (fun _ _ => rfl)) (pv 5) (fun _ _ => rfl)) (@pgT _ _ K _ _ 3 _ rfl (@pgs_cons _ _ _ _ _ (pg_name (i := 6) sc_law_worths.nd rfl (Or.inl rfl)) (@pgs_cons _ _ _ _ _ (pg_name (i := 7) sc_law_worths.nd rfl (Or.inl rfl)) (@pgs_cons _ _ _ _ _ (pg_name (i := 8) sc_law_worths.nd rfl (Or.inl rfl)) pgs_nil (by rfl)) (by rfl)) (by rfl)) (by rfl) (by rfl) (by rfl)) (by rfl) (by rfl) (by rfl)) (@pss_cons _ _ _ _ _ (@ps_set _ _ 9 _ _ _ _ sc_law_worths.nd rfl (Or.inl rfl) (@pe_op _ _ _ _ _ _ _ _ op_and (@pe_op _ _ _ _ _ _ _ _ op_shr (pv 1) (pv 5)) pe_int) (by rfl) (by first | exact .inl rfl | exact .inr rfl | assumption)) (@pss_one _ _ _ (@ps_for _ _ _ _ _ _ _ _ PassesOwn.never rfl (@piL _ _ _ _ K (@pe_lst _ _ _ _ (@pa_cons _ _ _ _ _ (@pe_tup _ _ _ _ _ (@pa_cons _ _ _ _ _ (pv 6) (@pa_cons _ _ _ _ _ (pv 7) pa_nil (by rfl)) (by rfl))) (@pa_cons _ _ _ _ _ (@pe_tup _ _ _ _ _ (@pa_cons _ _ _ _ _ (pv 7) (@pa_cons _ _ _ _ _ (pv 6) pa_nil (by rfl)) (by rfl))) pa_nil (by rfl)) (by rfl))) (by rfl)) (@pgT _ _ K _ _ 2 _ rfl (@pgs_cons _ _ _ _ _ (pg_name (i := 10) sc_law_worths.nd rfl (Or.inl rfl)) (@pgs_cons _ _ _ _ _ (pg_name (i := 11) sc_law_worths.nd rfl (Or.inl rfl)) pgs_nil (by rfl)) (by rfl)) (by rfl) (by rfl) (by rfl)) (@pss_one _ _ _ (@ps_for _ _ _ _ _ _ _ _ PassesOwn.never rfl (@pi_range1 _ _ _ _ _ _ (by rfl) T.n_range (@pa_cons _ _ _ _ _ pe_int pa_nil (by rfl)) (by rfl)) (pg_name (i := 12) sc_law_worths.nd rfl (Or.inl rfl)) (@pss_one _ _ _ (@ps_if _ _ _ _ _ _ _ _ (@pt_cmpR _ _ _ _ _ _ _ _ op_notN (@pe_ix _ _ _ _ _ _ _ (ixL K) (@pe_ix _ _ _ _ _ _ _ (ixL K) (pv 3) (pv 10) (fun _ _ => rfl)) (pv 12) (fun _ _ => rfl)) pe_non (nomark _)) (@pss_one _ _ _ (@ps_asg _ _ _ _ _ _ (@pe_call _ _ _ _ _ _ _ _ _ _ _ _ _ _ _ _ G_law_least (hr.mono (by decide)) (by rfl) T.m_law_least T.k_law_least T.b_law_least .nil pass0 (@pa_cons _ _ _ _ _ (@pe_ix _ _ _ _ _ _ _ (ixL K) (@pe_ix _ _ _ _ _ _ _ (ixL K) (pv 3) (pv 11) (fun _ _ => rfl)) (@pe_op _ _ _ _ _ _ _ _ op_xor (pv 12) (pv 9)) (fun _ _ => rfl)) (@pa_cons _ _ _ _ _ (@pe_op _ _ _ _ _ _ _ _ op_add (@pe_ix _ _ _ _ _ _ _ (ixL K) (@pe_ix _ _ _ _ _ _ _ (ixL K) (pv 3) (pv 10) (fun _ _ => rfl)) (pv 12) (fun _ _ => rfl)) (pv 8)) pa_nil (by rfl)) (by rfl)) (by decide) (by rfl) (by rfl)) (@pg_sub _ _ _ _ _ _ _ (@pe_ix _ _ _ _ _ _ _ (ixL K) (pv 3) (pv 11) (fun _ _ => rfl)) (@pe_op _ _ _ _ _ _ _ _ op_xor (pv 12) (pv 9)) set_list (by intro _; rfl)) (by rfl) (by rfl) (by rfl))) pss_nil)) (by intro _; rfl))) (by intro _; rfl))))) (by intro _; rfl))) (by intro _; rfl)) (@pss_one _ _ _ (@ps_ret _ _ _ _ (@pe_callTy _ _ _ _ _ _ _ _ _ (tuplK K) (by rfl) T.n_tuple PyProof.Rows.boot_tuple (@pa_cons _ _ _ _ _ (@pe_comp _ _ _ _ _ _ _ ["pair"] [] [] _ _ _ _ (compText_of (defScope s_law_worths) ["web", "marks", "point", "far", "turn", "k", "one", "other", "length", "bit", "a", "b", "s"]) rfl (@piL _ _ _ _ K (pv 3) (by rfl)) (fun _ _ _ _ => (pg_name (i := 0) (show (["pair"] : List Str).Nodup by decide +kernel) rfl (Or.inl rfl))) (fun _ _ _ _ => pts_nil) (fun _ _ _ _ => (pe_callTy (tuplK K) (by rfl) T.n_tuple PyProof.Rows.boot_tuple (pa_cons (pv 0) pa_nil))) (by intro _; rfl)) pa_nil (by rfl)) (by decide) (by decide) (by rfl) (by rfl))))))), ?_⟩
    refine hd_law_worths ?_
    intro zz0 zz1 zz2 zz3 zz4 zz5 zz6 zz7 zz8 zz9
    obtain ⟨bt, xs, h1, h2, h3⟩ := id hw.ex
    have hxl := h3.length
    have wp := g.p2
    have wl := g.len
    refine (exq rfl (ixq (SqT.of h1) (atI_nat (j := 0) rfl) (exq rfl ⟨(by (first | lia | omega)), (by (first | lia | omega)), fun D hD => comp_range (lo := 0) (m := p) (FarC H D) (.start hD) (fun i acc H2 _ z => z.len) (dl (Nat.ble_eq.mpr (by (first | lia | omega)))) ?_ ?_⟩)))
    · rintro i acc H2 hi f2
      exact ⟨rfl, dl rfl, fun l hl => f2.next hl⟩
    rintro acc H2 ⟨es, rfl, hel, f2⟩
    obtain ⟨bb, e2, e3, hbb⟩ := f2.get (i := pt) (by (first | lia | omega))
    refine (exq rfl (exq rfl (ixl (SqL.of f2.lst) (atI_nat e2) ⟨bb, _, _, 0, rfl, rfl, hbb, ixN_nat (n := 2) (j := 0) (by decide), ?_⟩)))
    have f3 : FarV H D es (RM.putF (fun _ _ => none) pt false 0) (upd H2 bb (.lst (([oV none, oV none] : List V).set 0 (.int 0)))) := f2.put e3 false 0
    generalize upd H2 bb (.lst (([oV none, oV none] : List V).set 0 (.int 0))) = H3 at f3
    refine (exq rfl (ixq (SqT.of (f3.same _ _ h1)) (atI_nat (j := 0) rfl) (ijq ⟨.inl ⟨by decide, by decide⟩, exq rfl ⟨(by (first | lia | omega)), (by (first | lia | omega)), ?_⟩⟩)))
    have e2p : (2 * (p : Int)).toNat = 2 * p := by (first | lia | omega)
    refine for_range' (lo := 0) (n := (2 * (p : Int)).toNat) (fun i σ H4 => ∃ v4 v5 v6 v7 v8 v9 v10 v11 v12, σ = [some (.ref wb), some (.int (m : Int)), some (.int (pt : Int)), some (.ref D), v4, v5, v6, v7, v8, v9, v10, v11, v12] ∧ ∃ F, FarV H D es F H4 ∧ RM.Snd (netOf p ts g) (lenAt ts) m pt F ∧ RM.Cov (netOf p ts g) (lenAt ts) m pt i F) ⟨none, none, none, none, none, none, none, none, none, rfl, _, f3, RM.Snd.start, RM.Cov.start⟩ ?_ ?_
    · rintro i D' σ H4 hi ⟨v4, v5, v6, v7, v8, v9, v10, v11, v12, rfl, F0, f4, sn4, cv4⟩
      refine (exq rfl (ixq (SqT.of (f4.same _ _ h1)) (atI_nat (j := 1) rfl) (lnq rfl (.inr (SqT.of (f4.same _ _ h2))) (exq rfl ⟨(by (first | lia | omega)), (by (first | lia | omega)), ?_⟩))))
      refine for_range' (lo := 0) (n := (xs.length : Int).toNat) (fun k σ H5 => ∃ v4 v5 v6 v7 v8 v9 v10 v11 v12, σ = [some (.ref wb), some (.int (m : Int)), some (.int (pt : Int)), some (.ref D), v4, v5, v6, v7, v8, v9, v10, v11, v12] ∧ ∃ F, FarV H D es F H5 ∧ RM.Rl (netOf p ts g) (lenAt ts) m pt F0 F (4 * k)) ⟨_, _, _, _, _, _, _, _, _, rfl, _, f4, RM.Rl.start sn4⟩ ?_ ?_
      · rintro k D2' σ H5 hk ⟨v4, v5, v6, v7, v8, v9, v10, v11, v12, rfl, F, f5, r5⟩
        rw [Int.toNat_natCast] at hk
        rw [Int.zero_add]
        have hkl : k < ts.length := by (first | lia | omega)
        obtain ⟨ct, ex, hct⟩ := tie_in (g := g) h3 hkl
        have ha : (netOf p ts g).a k < p := (netOf p ts g).al k hkl
        have hb : (netOf p ts g).b k < p := (netOf p ts g).bl k hkl
        refine (exq rfl (ixq (SqT.of (f5.same _ _ h1)) (atI_nat (j := 1) rfl) (exq rfl (ixq (SqT.of (f5.same _ _ h2)) (atI_nat (j := k) ex) ⟨ct, _, rfl, SqT.of (f5.same _ _ hct), rfl, _, _, rfl, _, _, rfl, _, _, rfl, rfl, ?_⟩))))
        refine (exq rfl (exq rfl (ijq ⟨(by (first | lia | omega)), ijq (?_)⟩)))
        generalize hua : (netOf p ts g).a k = ua at ha
        generalize hub : (netOf p ts g).b k = ub at hb
        refine (exq rfl (exq rfl ⟨dl rfl, fun t1 ht1 => (exq rfl (exq rfl ⟨dl rfl, fun t2 ht2 => ⟨dl rfl, fun L hL => ⟨L, rfl, ⟨_, SqL.of upd_same⟩, ?_⟩⟩⟩))⟩))
        have hf : Same H5 (upd (upd (upd H5 t1 (.tup [.int (ua : Int), .int (ub : Int)])) t2 (.tup [.int (ub : Int), .int (ua : Int)])) L (.lst [.ref t1, .ref t2])) := ((Same.new ht1).trans (Same.new ht2)).trans (Same.new hL)
        have hLes : L ∉ es := f5.off (((Same.new ht1).trans (Same.new ht2)).free hL)
        have hL6 : upd (upd (upd H5 t1 (.tup [.int (ua : Int), .int (ub : Int)])) t2 (.tup [.int (ub : Int), .int (ua : Int)])) L (.lst [.ref t1, .ref t2]) L = some (.lst [.ref t1, .ref t2]) := upd_same
        have ht16 : upd (upd (upd H5 t1 (.tup [.int (ua : Int), .int (ub : Int)])) t2 (.tup [.int (ub : Int), .int (ua : Int)])) L (.lst [.ref t1, .ref t2]) t1 = some (.tup [.int (ua : Int), .int (ub : Int)]) := Same.new hL _ _ (Same.new ht2 _ _ upd_same)
        have ht26 : upd (upd (upd H5 t1 (.tup [.int (ua : Int), .int (ub : Int)])) t2 (.tup [.int (ub : Int), .int (ua : Int)])) L (.lst [.ref t1, .ref t2]) t2 = some (.tup [.int (ub : Int), .int (ua : Int)]) := Same.new hL _ _ upd_same
        have f6 := f5.go hf
        generalize upd (upd (upd H5 t1 (.tup [.int (ua : Int), .int (ub : Int)])) t2 (.tup [.int (ub : Int), .int (ua : Int)])) L (.lst [.ref t1, .ref t2]) = H6 at f6 hL6 ht16 ht26
        refine for_list' (K := K) (a := L) (xs := [.ref t1, .ref t2]) (fun j σ H7 => ∃ v4 v10 v11 v12, σ = [some (.ref wb), some (.int (m : Int)), some (.int (pt : Int)), some (.ref D), v4, some (.int (k : Int)), some (.int (ua : Int)), some (.int (ub : Int)), some (.int (tieAt ts k).2.2), some (.int (Builtin.bitAnd ((m : Int) / 2 ^ (k : Int).toNat) 1)), v10, v11, v12] ∧ (∃ F, FarV H D es F H7 ∧ RM.Rl (netOf p ts g) (lenAt ts) m pt F0 F (4 * k + 2 * j)) ∧ H7 L = some (.lst [.ref t1, .ref t2]) ∧ Tups H6 H7)
          ⟨_, _, _, _, rfl, ⟨F, f6, r5⟩, hL6, (Same.refl _).tups⟩ (fun j σ H7 _ ⟨_, _, _, _, _, _, z, _⟩ => SqL.of z) ?_ ?_
        · rintro j y D3' σ H7 hj ⟨v4, v10, v11, v12, rfl, ⟨F, f7, r7⟩, hL7, tp7⟩
          have hj2 : j < 2 := (List.getElem?_eq_some_iff.mp hj).1
          obtain ⟨cc, x1, x2, rfl, hcc, e1, e2, y1, y3⟩ : ∃ (cc : Addr) (x1 x2 : Nat), y = .ref cc ∧ H7 cc = some (.tup [.int (x1 : Int), .int (x2 : Int)]) ∧ (if j = 0 then ua else ub) = x1 ∧ (if j = 0 then ub else ua) = x2 ∧ x1 < p ∧ x2 < p := by
            match j, hj with
            | 0, hj => exact ⟨t1, ua, ub, (Option.some.inj hj).symm, tp7 _ _ ht16, rfl, rfl, ha, hb⟩
            | 1, hj => exact ⟨t2, ub, ua, (Option.some.inj hj).symm, tp7 _ _ ht26, rfl, rfl, hb, ha⟩
          refine ⟨cc, _, rfl, SqT.of hcc, rfl, _, _, rfl, _, _, rfl, rfl, ?_⟩
          refine (exq rfl ⟨(by decide), (by decide), ?_⟩)
          refine for_range' (lo := 0) (n := (2 : Int).toNat) (fun n σ H8 => ∃ v12, σ = [some (.ref wb), some (.int (m : Int)), some (.int (pt : Int)), some (.ref D), v4, some (.int (k : Int)), some (.int (ua : Int)), some (.int (ub : Int)), some (.int (tieAt ts k).2.2), some (.int (Builtin.bitAnd ((m : Int) / 2 ^ (k : Int).toNat) 1)), some (.int (x1 : Int)), some (.int (x2 : Int)), v12] ∧ (∃ F, FarV H D es F H8 ∧ RM.Rl (netOf p ts g) (lenAt ts) m pt F0 F (4 * k + 2 * j + n)) ∧ H8 L = some (.lst [.ref t1, .ref t2]) ∧ Tups H6 H8) (exq rfl ⟨⟨F, f7, r7⟩, hL7, tp7⟩) ?_ ?_
          · rintro n D4' σ H8 hn ⟨v12, rfl, ⟨F, f8, r8⟩, hL8, tp8⟩
            rw [Int.zero_add]
            have hn2 : n < 2 := hn
            obtain ⟨q1, q2, q3, q4⟩ := RM.q_facts (N := netOf p ts g) (k := k) hj2 hn2
            rw [hua, hub, e1] at q3
            rw [hua, hub, e2] at q4
            obtain ⟨sb, hsb⟩ : ∃ sb : Bool, n = sb.toNat ∧ decide (n = 1) = sb := by
              have : n = 0 ∨ n = 1 := by (first | lia | omega)
              rcases this with rfl | rfl
              · exact ⟨false, rfl, rfl⟩
              · exact ⟨true, rfl, rfl⟩
            obtain ⟨hsb, hsd⟩ := hsb
            rw [hsd] at q2
            clear hsd
            subst hsb
            obtain ⟨ba, ga, ea, hba⟩ := f8.get (i := x1) (by (first | lia | omega))
            obtain ⟨bb, gb, eb, hbb⟩ := f8.get (i := x2) (by (first | lia | omega))
            refine (exq rfl (exq rfl (ixl (SqL.of f8.lst) (atI_nat ga) (exq rfl (ixl (SqL.of hba) (atI_nat (far_at F x1 sb)) ⟨rfl, exq rfl (?_)⟩)))))
            cases hX : F x1 sb with
            | none => exact iteNS rfl (exq rfl ⟨⟨F, f8, r8.skip (by rw [q3, q2]; exact hX)⟩, hL8, tp8⟩)
            | some x =>
              have hsl : ([oV (F x1 false), oV (F x1 true)] : List V)[sb.toNat]? = some (.int x) := by
                have := far_at F x1 sb
                rw [hX] at this
                exact this
              refine iteNd (fun z => nomatch z) ?_
              refine (exq rfl (exq rfl (ixl (SqL.of f8.lst) (atI_nat gb) (exq rfl (exq rfl (ijq (ixl (SqL.of hbb) ((by rw [sx]; exact atI_nat (far_at F x2 _))) (exq rfl (exq rfl (ixl (SqL.of f8.lst) (atI_nat ga) (exq rfl (ixl (SqL.of hba) (atI_nat hsl) (exq rfl (ijq ⟨_, _, rfl, ?_⟩))))))))))))))
              have hu : (sb ^^ m.testBit k).toNat < 2 := by cases (sb ^^ m.testBit k) <;> decide
              refine (exq rfl (exq rfl (ixl (SqL.of f8.lst) (atI_nat gb) (exq rfl (exq rfl (ijq ⟨bb, _, _, (sb ^^ m.testBit k).toNat, rfl, rfl, hbb, (by rw [sx]; exact ixN_nat hu), ?_⟩))))))
              exact (exq rfl ⟨⟨_, f8.put eb _ _, r8.put' q1 q3 q4 q2 hkl hX⟩, by rw [upd_ne (fun z : L = bb => hLes (z ▸ List.mem_of_getElem? eb))]; exact hL8, tp8.trans (Tups.put hbb)⟩)
          · rintro σ H8 ⟨v12, rfl, f8, hL8, tp8⟩
            exact ⟨_, _, _, _, rfl, f8, hL8, tp8⟩
        · rintro σ H7 ⟨v4, v10, v11, v12, rfl, f7, hL7, tp7⟩
          exact ⟨_, _, _, _, _, _, _, _, _, rfl, f7⟩
      · rintro σ H5 ⟨v4, v5, v6, v7, v8, v9, v10, v11, v12, rfl, F, f5, r5⟩
        rw [Int.toNat_natCast, hxl] at r5
        exact ⟨_, _, _, _, _, _, _, _, _, rfl, F, f5, r5.snd, r5.cov cv4⟩
    · rintro σ H4 ⟨v4, v5, v6, v7, v8, v9, v10, v11, v12, rfl, F, f4, sn4, cv4⟩
      rw [e2p] at cv4
      have best := RM.cov_best (lenAt_pos g) (show pt < (netOf p ts g).p from hpt) cv4 sn4
      refine (exq rfl ⟨D, rfl, ⟨_, SqL.of f4.lst⟩, fun D2 hD2 => comp_list (xs := es.map V.ref) (fun i acc H5 => Same H4 H5 ∧ H5 D2 = some (.lst acc) ∧ Paired (PairAt H5) acc (prsOf F i)) ⟨Same.new hD2, upd_same, .nil⟩ ?_ (dl (Nat.ble_eq.mpr (by rw [List.length_map]; (first | lia | omega)))) ?_ ?_⟩)
      · rintro i acc H5 hi ⟨s5, hD5, pr5⟩
        exact ⟨SqL.of (s5 _ _ f4.lst), hD5, by rw [pr5.length, prs_len]; exact Nat.le_refl _⟩
      · rintro i x acc H5 hx ⟨s5, hD5, pr5⟩
        rw [List.getElem?_map] at hx
        obtain ⟨b, hb, rfl⟩ := Option.map_eq_some_iff.mp hx
        have hb5 := s5 _ _ (f4.at_ i b hb)
        refine ⟨rfl, exq rfl ⟨b, _, rfl, .inl ⟨SqL.of hb5, fun l hl => ?_⟩⟩⟩
        have s6 : Same H5 (upd H5 l (.tup [oV (F i false), oV (F i true)])) := Same.new hl
        refine ⟨s6 _ _ hD5, (s5.trans s6).put hD2, upd_same, ?_⟩
        rw [prs_succ]
        exact Paired.snoc (Paired.imp' (fun _ _ z => z.tups (s6.tups.trans (Tups.put (s6 _ _ hD5)))) pr5) ⟨l, rfl, Tups.put (s6 _ _ hD5) _ _ upd_same⟩
      · rintro acc H5 ⟨s5, hD5, pr5⟩
        rw [List.length_map, hel] at pr5
        refine ⟨D2, acc, rfl, .inl ⟨SqL.of hD5, fun l hl => ?_⟩⟩
        exact q l acc (prsOf F p) _ ((f4.same.trans s5).trans (Same.new hl)) upd_same (Paired.imp' (fun _ _ z => z.same (Same.new hl)) pr5) (prs_len F p) fun x s hx => by rw [prs_at hx]; exact best x s
end

def sp_llen : Sp := fun vs H Q _ => ∃ w p ts, ∃ g : GoodWeb p ts, ∃ (S : Int) (m : Nat), vs = [.ref w, .int S] ∧ S = (m : Int) ∧ WebAt H w p ts ∧ m < 2 ^ ts.length ∧ ∀ H', Same H H' → Q (.int (lenOf ts m)) H'
def sp_lodd : Sp := fun vs H Q _ => ∃ (S : Int) (m : Nat), vs = [.int S] ∧ S = (m : Int) ∧ ∀ v : Bool, (∀ d, m < 2 ^ d → v = RM.xsum (fun j => m.testBit j) d) → Q (.bl v) H
def sp_lcut : Sp := fun vs H Q _ => ∃ w p ts, ∃ g : GoodWeb p ts, ∃ (l : Addr) (xs : List Nat), vs = [.ref w, .ref l] ∧ WebAt H w p ts ∧ H l = some (.lst (natsV xs)) ∧ Q (.int (((netOf p ts g).cut (fun x => decide (x ∈ xs)) : Nat) : Int)) H
def LeastB (N : RM.Net) (L : Nat → Int) (m b : Nat) : Option Int → Prop
  | none => ∀ r, r < b → N.Ring r → N.par r m = false
  | some d => (∃ r, r < b ∧ N.Ring r ∧ N.par r m = true ∧ RM.lsum L (fun k => r.testBit k) N.n = d) ∧ ∀ r, r < b → N.Ring r → N.par r m = true → d ≤ RM.lsum L (fun k => r.testBit k) N.n
theorem LeastB.skip {N : RM.Net} {L : Nat → Int} {m b : Nat} {o : Option Int} (h : LeastB N L m b o) (hn : ¬ (N.Ring b ∧ N.par b m = true)) : LeastB N L m (b + 1) o := by
  have lt : ∀ r, r < b + 1 → r ≠ b → r < b := fun r h1 h2 => by (first | lia | omega)
  cases o with
  | none =>
    intro r hr rg
    by_cases e : r = b
    · subst e
      cases hp : N.par r m with
      | false => rfl
      | true => exact absurd ⟨rg, hp⟩ hn
    · exact h r (lt r hr e) rg
  | some d =>
    obtain ⟨⟨r, h1, h2⟩, h3⟩ := h
    refine ⟨⟨r, by (first | lia | omega), h2⟩, fun r hr rg hp => ?_⟩
    by_cases e : r = b
    · subst e
      exact absurd ⟨rg, hp⟩ hn
    · exact h3 r (lt r hr e) rg hp
theorem LeastB.put {N : RM.Net} {L : Nat → Int} {m b : Nat} {o : Option Int} (h : LeastB N L m b o) (rg : N.Ring b) (hp : N.par b m = true) : LeastB N L m (b + 1) (some (RM.lst o (RM.lsum L (fun k => b.testBit k) N.n))) := by
  have lt : ∀ r, r < b + 1 → r ≠ b → r < b := fun r h1 h2 => by (first | lia | omega)
  cases o with
  | none =>
    refine ⟨⟨b, by (first | lia | omega), rg, hp, rfl⟩, fun r hr rg hp => ?_⟩
    by_cases e : r = b
    · subst e
      exact Int.le_refl _
    · have := h r (lt r hr e) rg
      rw [hp] at this
      cases this
  | some d =>
    obtain ⟨⟨r0, h1, h2, h3, h4⟩, h5⟩ := h
    have l1 := RM.lst_le (some d) (RM.lsum L (fun k => b.testBit k) N.n)
    rcases RM.lst_or (some d) (RM.lsum L (fun k => b.testBit k) N.n) with e0 | e0
    · refine ⟨⟨b, by (first | lia | omega), rg, hp, e0.symm⟩, fun r hr rg hp => ?_⟩
      by_cases e : r = b
      · subst e
        exact l1.1
      · have := h5 r (lt r hr e) rg hp
        have := l1.2 d rfl
        (first | lia | omega)
    · refine ⟨⟨r0, by (first | lia | omega), h2, h3, h4.trans (Option.some.inj e0)⟩, fun r hr rg hp => ?_⟩
      by_cases e : r = b
      · subst e
        exact l1.1
      · have := h5 r (lt r hr e) rg hp
        have := l1.2 d rfl
        (first | lia | omega)
def sp_nearest : Sp := fun vs H Q _ => ∃ w p ts, ∃ g : GoodWeb p ts, ∃ (m : Nat), vs = [.ref w, .int (m : Int)] ∧ WebAt H w p ts ∧ ∀ o H', Same H H' → LeastB (netOf p ts g) (lenAt ts) m (2 ^ ts.length) o → Q (oV o) H'
theorem xsum_half (n : Nat) : ∀ e, RM.xsum (fun j => n.testBit j) (e + 1) = (decide (n % 2 = 1) ^^ RM.xsum (fun j => (n / 2).testBit j) e)
  | 0 => by
    show (false ^^ n.testBit 0) = (decide (n % 2 = 1) ^^ false)
    rw [Nat.testBit_zero, Bool.false_xor, Bool.xor_false]
  | e + 1 => by
    have ih := xsum_half n e
    show (RM.xsum (fun j => n.testBit j) (e + 1) ^^ n.testBit (e + 1)) = (decide (n % 2 = 1) ^^ (RM.xsum (fun j => (n / 2).testBit j) e ^^ (n / 2).testBit e))
    rw [ih, Nat.testBit_succ, Bool.xor_assoc]
section
variable {P : Program} {w : World} {K : PySem.W.Frag} {mg : Str → Option Value} {base : Heap} {a : Adr}
theorem G_law_length (T : Txt K mg a) : FnOk P w K mg base CX0 1 a.f_law_length a.d_law_length ["web", "some"] sp_llen := by
  refine T.F_law_length.ok sc_law_length (fun vs H Q E h => ?_) (fun cdv A outer s H vs Q E hr h => ?_)
  · obtain ⟨w, p, ts, g, S, m, rfl, _⟩ := h
    rfl
  · obtain ⟨wb, p, ts, g, S, m, rfl, rfl, hw, hm, q⟩ := h
    refine ⟨_, (@pss_one _ _ _ (@ps_ret _ _ _ _ (@pe_callB _ _ _ _ _ _ _ _ _ (sumK K rfl) (by rfl) T.n_sum PyProof.Rows.boot_sum (@pa_cons _ _ _ _ _ (@pe_comp _ _ _ _ _ _ _ ["k"] ["web", "some"] [0, 1] _ _ _ _ (compText_of (defScope s_law_length) ["web", "some"]) rfl (@pi_range1 _ _ _ _ _ _ (by rfl) T.n_range (@pa_cons _ _ _ _ _ (@pe_callB _ _ _ _ _ _ _ _ _ (lenK K) (by rfl) T.n_len PySem.boot_len (@pa_cons _ _ _ _ _ (@pe_ix _ _ _ _ _ _ _ (ixT K) (pv 0) pe_int (fun _ _ => rfl)) pa_nil (by rfl)) (by decide) (by decide) (by rfl) (by rfl)) pa_nil (by rfl)) (by rfl)) (fun _ _ _ _ => (pg_name (i := 0) (show (["k", "web", "some"] : List Str).Nodup by decide +kernel) rfl (Or.inl rfl))) (fun _ _ _ _ => (pts_one (pt_cmpR op_eq (pe_op op_and (pe_op op_shr (pv 2) (pv 0)) pe_int) pe_int (nomark _)))) (fun _ _ _ _ => (pe_ix (ixT K) (pe_ix (ixT K) (pe_ix (ixT K) (pv 1) pe_int (fun _ _ => rfl)) (pv 0) (fun _ _ => rfl)) pe_int (fun _ _ => rfl))) (by intro _; rfl)) pa_nil (by rfl)) (by decide) (by decide) (by rfl) (by rfl)))), ?_⟩
    obtain ⟨bt, xs, h1, h2, h3⟩ := id hw.ex
    have hxl := h3.length
    have wl := g.len
    refine (exq rfl (ixq (SqT.of h1) (atI_nat (j := 1) rfl) (lnq rfl (.inr (SqT.of h2)) (exq rfl ⟨(by (first | lia | omega)), (by (first | lia | omega)), fun D hD => comp_range (lo := 0) (m := xs.length) (fun i acc H2 => Same H H2 ∧ H2 D = some (.lst acc) ∧ acc = (((List.range i).filter (fun k => m.testBit k)).map fun k => (tieAt ts k).2.2).map V.int) ⟨Same.new hD, upd_same, rfl⟩ (fun i acc H2 _ z => ⟨z.2.1, by rw [z.2.2, List.length_map, List.length_map]; exact Nat.le_trans (List.length_filter_le _ _) (by rw [List.length_range]; exact Nat.le_refl _)⟩) (small24 (by (first | lia | omega))) ?_ ?_⟩))))
    · rintro i acc H2 hi ⟨s2, hD2, rfl⟩
      rw [Int.zero_add]
      obtain ⟨c, hxc, hct⟩ := tie_in (g := g) h3 (show i < ts.length by (first | lia | omega))
      refine ⟨rfl, exq rfl (exq rfl (ijq ⟨(by (first | lia | omega)), ijq ⟨rfl, exq rfl (?_)⟩⟩))⟩
      rw [Int.toNat_natCast, has_eq, bit_nat]
      cases hb : m.testBit i with
      | true =>
        refine (exq rfl (ixq (SqT.of (s2 _ _ h1)) (atI_nat (j := 1) rfl) (exq rfl (ixq (SqT.of (s2 _ _ h2)) (atI_nat (j := i) hxc) (ixq (SqT.of (s2 _ _ hct)) (atI_nat (j := 2) rfl) ⟨hD2, s2.put hD, upd_same, ?_⟩)))))
        rw [filter_range_succ, if_pos hb, List.map_append, List.map_append]
        rfl
      | false =>
        refine ⟨s2, hD2, ?_⟩
        rw [filter_range_succ, if_neg (by rw [hb]; decide), List.append_nil]
    · rintro acc H2 ⟨s2, hD2, rfl⟩
      refine ⟨D, _, rfl, SqL.of hD2, ?_⟩
      have e : lenOf ts m = (((List.range xs.length).filter (fun k => m.testBit k)).map fun k => (tieAt ts k).2.2).sum := by
        unfold lenOf
        rw [ties_nat hm, hxl]
      rw [← e]
      exact q H2 s2
theorem G_law_odd (T : Txt K mg a) : FnOk P w K mg base CX0 1 a.f_law_odd a.d_law_odd ["number"] sp_lodd := by
  refine T.F_law_odd.ok sc_law_odd (fun vs H Q E h => ?_) (fun cdv A outer s H vs Q E hr h => ?_)
  · obtain ⟨S, m, rfl, _⟩ := h
    rfl
  · obtain ⟨S, m, rfl, rfl, q⟩ := h
    refine ⟨_, (@pss_cons _ _ _ _ _ (@ps_set _ _ 1 _ _ _ _ sc_law_odd.nd rfl (Or.inl rfl) pe_bl (by rfl) (by first | exact .inl rfl | exact .inr rfl | assumption)) (@pss_cons _ _ _ _ _ (@ps_while _ _ _ _ _ _ PassesOwn.never (@pt_cmpR _ _ _ _ _ _ _ _ op_gt (pv 0) pe_int (nomark _)) (@pss_cons _ _ _ _ _ (@ps_set _ _ 1 _ _ _ _ sc_law_odd.nd rfl (Or.inl rfl) (@pe_cmpR _ _ _ _ _ _ _ _ op_ne (pv 1) (@pe_cmpR _ _ _ _ _ _ _ _ op_eq (@pe_op _ _ _ _ _ _ _ _ op_mod (pv 0) pe_int) pe_int (nomark _)) (nomark _)) (by rfl) (by first | exact .inl rfl | exact .inr rfl | assumption)) (@pss_one _ _ _ (@ps_set _ _ 0 _ _ _ _ sc_law_odd.nd rfl (Or.inl rfl) (@pe_op _ _ _ _ _ _ _ _ op_fdiv (pv 0) pe_int) (by rfl) (by first | exact .inl rfl | exact .inr rfl | assumption))))) (@pss_one _ _ _ (@ps_ret _ _ _ _ (pv 1))))), ?_⟩
    refine hd_law_odd ?_
    intro zz0 zz1 zz2 zz3
    refine ⟨fun k σ H2 => ∃ (n : Nat) (c : Bool), σ = [some (.int ((n : Nat) : Int)), some (.bl c)] ∧ H2 = H ∧ (∀ d, m < 2 ^ d → ∃ e, n < 2 ^ e ∧ RM.xsum (fun j => m.testBit j) d = (c ^^ RM.xsum (fun j => n.testBit j) e)) ∧ n = k, ⟨m, m, false, rfl, rfl, fun d hd => ⟨d, hd, by rw [Bool.false_xor]⟩, rfl⟩, ?_⟩
    rintro k σ H2 ⟨n, c, rfl, rfl, hc, rfl⟩
    refine (exq rfl (ijq (exq rfl (ite2 (fun hpos => ?_) (fun hpos => ?_)))))
    · have hpos : (0 : Int) < ((n : Nat) : Int) := of_decide_eq_true hpos
      refine ⟨fun σ H3 => ∃ (n' : Nat) (c : Bool), σ = [some (.int ((n' : Nat) : Int)), some (.bl c)] ∧ H3 = H2 ∧ (∀ d, m < 2 ^ d → ∃ e, n' < 2 ^ e ∧ RM.xsum (fun j => m.testBit j) d = (c ^^ RM.xsum (fun j => n'.testBit j) e)) ∧ n' < n, fun σ H3 ⟨n', c, z1, z2, z3, z4⟩ => ⟨n', z4, n', c, z1, z2, z3, rfl⟩, ?_⟩
      refine (exq rfl (exq rfl (ijq ⟨(modC rfl), rfl, rfl, exq rfl (ijq ⟨⟨by decide, by decide⟩, n / 2, c ^^ decide (n % 2 = 1), ?_, rfl, fun d hd => ?_, by (first | lia | omega)⟩)⟩)))
      · show [some (V.int (((n : Nat) : Int) / 2)), some (V.bl (!decide (V.bl c = V.bl (decide (V.int (((n : Nat) : Int) % 2) = V.int 1)))))] = _
        rw [len_mod, dec_bool]
        have : (!decide (c = decide (n % 2 = 1))) = (c ^^ decide (n % 2 = 1)) := by
          cases c <;> cases decide (n % 2 = 1) <;> rfl
        rw [this]
        rfl
      · obtain ⟨e, he, hce⟩ := hc d hd
        cases e with
        | zero => exact absurd he (by (first | lia | omega))
        | succ e =>
          rw [xsum_half] at hce
          exact ⟨e, by rw [Nat.pow_succ] at he; (first | lia | omega), by rw [hce, Bool.xor_assoc]⟩
    · have hz : n = 0 := by
        have : ¬ (0 : Int) < ((n : Nat) : Int) := fun z => hpos (decide_eq_true z)
        (first | lia | omega)
      subst hz
      refine (exq rfl (q c fun d hd => ?_))
      obtain ⟨e, he, hce⟩ := hc d hd
      rw [hce, RM.xsum_none fun k _ => Nat.zero_testBit k, Bool.xor_false]
theorem G_law_nearest (T : Txt K mg a) : FnOk P w K mg base CX0 2 a.f_law_nearest a.d_law_nearest ["web", "marks"] sp_nearest := by
  have G_law_odd : FnOk P w K mg base CX0 1 a.f_law_odd a.d_law_odd ["number"] sp_lodd := G_law_odd T
  have G_law_walk : FnOk P w K mg base CX0 1 a.f_law_walk a.d_law_walk ["web", "some"] sp_law_walk := G_law_walk T
  have G_law_length : FnOk P w K mg base CX0 1 a.f_law_length a.d_law_length ["web", "some"] sp_llen := G_law_length T
  have G_law_least : FnOk P w K mg base CX0 1 a.f_law_least a.d_law_least ["one", "more"] sp_leastR := G_law_least T
  refine T.F_law_nearest.ok sc_law_nearest (fun vs H Q E h => ?_) (fun cdv A outer s H vs Q E hr h => ?_)
  · obtain ⟨w, p, ts, g, m, rfl, _⟩ := h
    rfl
  · obtain ⟨wb, p, ts, g, m, rfl, hw, q⟩ := h
    refine ⟨_, (@pss_cons _ _ _ _ _ (@ps_set _ _ 2 _ _ _ _ sc_law_nearest.nd rfl (Or.inl rfl) pe_non (by rfl) (by first | exact .inl rfl | exact .inr rfl | assumption)) (@pss_cons _ _ _ _ _ (@ps_for _ _ _ _ _ _ _ _ PassesOwn.never rfl (@pi_range2 _ _ _ _ _ _ _ (by rfl) T.n_range (@pa_cons _ _ _ _ _ pe_int (@pa_cons _ _ _ _ _ (@pe_op _ _ _ _ _ _ _ _ op_shl pe_int (@pe_callB _ _ _ _ _ _ _ _ _ (lenK K) (by rfl) T.n_len PySem.boot_len (@pa_cons _ _ _ _ _ (@pe_ix _ _ _ _ _ _ _ (ixT K) (pv 0) pe_int (fun _ _ => rfl)) pa_nil (by rfl)) (by decide) (by decide) (by rfl) (by rfl))) pa_nil (by rfl)) (by rfl)) (by rfl) (by rfl)) (pg_name (i := 3) sc_law_nearest.nd rfl (Or.inl rfl)) (@pss_one _ _ _ (@ps_if _ _ _ _ _ _ _ _ (PW.pt (@pw_and _ _ _ _ _ _ _ (@pt_val _ _ _ (@pe_call _ _ _ _ _ _ _ _ _ _ _ _ _ _ _ _ G_law_odd (hr.mono (by decide)) (by rfl) T.m_law_odd T.k_law_odd T.b_law_odd .nil pass0 (@pa_cons _ _ _ _ _ (@pe_op _ _ _ _ _ _ _ _ op_and (pv 3) (pv 1)) pa_nil (by rfl)) (by decide) (by rfl) (by rfl)) (by intro _; rfl)) (@pw_and1 _ _ _ _ (@pt_cmpR _ _ _ _ _ _ _ _ op_notN (@pe_call _ _ _ _ _ _ _ _ _ _ _ _ _ _ _ _ G_law_walk (hr.mono (by decide)) (by rfl) T.m_law_walk T.k_law_walk T.b_law_walk .nil pass0 (@pa_cons _ _ _ _ _ (pv 0) (@pa_cons _ _ _ _ _ (pv 3) pa_nil (by rfl)) (by rfl)) (by decide) (by rfl) (by rfl)) pe_non (nomark _))))) (@pss_one _ _ _ (@ps_set _ _ 2 _ _ _ _ sc_law_nearest.nd rfl (Or.inl rfl) (@pe_call _ _ _ _ _ _ _ _ _ _ _ _ _ _ _ _ G_law_least (hr.mono (by decide)) (by rfl) T.m_law_least T.k_law_least T.b_law_least .nil pass0 (@pa_cons _ _ _ _ _ (pv 2) (@pa_cons _ _ _ _ _ (@pe_call _ _ _ _ _ _ _ _ _ _ _ _ _ _ _ _ G_law_length (hr.mono (by decide)) (by rfl) T.m_law_length T.k_law_length T.b_law_length .nil pass0 (@pa_cons _ _ _ _ _ (pv 0) (@pa_cons _ _ _ _ _ (pv 3) pa_nil (by rfl)) (by rfl)) (by decide) (by rfl) (by rfl)) pa_nil (by rfl)) (by rfl)) (by decide) (by rfl) (by rfl)) (by rfl) (by first | exact .inl rfl | exact .inr rfl | assumption))) pss_nil)) (by intro _; rfl)) (@pss_one _ _ _ (@ps_ret _ _ _ _ (pv 2))))), ?_⟩
    refine hd_law_nearest ?_
    intro zz0 zz1 zz2 zz3
    obtain ⟨bt, xs, h1, h2, h3⟩ := id hw.ex
    have hxl := h3.length
    have wl := g.len
    have hpw : (1 : Int) * 2 ^ ((xs.length : Nat) : Int).toNat = ((2 ^ ts.length : Nat) : Int) := by rw [shl_int, hxl]
    have pos := Nat.two_pow_pos ts.length
    have big : (2 : Nat) ^ ts.length ≤ 2 ^ 24 := Nat.pow_le_pow_right (by decide) wl
    refine (exq rfl (ixq (SqT.of h1) (atI_nat (j := 1) rfl) (lnq rfl (.inr (SqT.of h2)) (ijq ⟨⟨by (first | lia | omega), by (first | lia | omega), by decide⟩, 1, ((2 ^ ts.length : Nat) : Int), congrArg (fun z => [V.int 1, V.int z]) hpw, ⟨by decide, by decide, by (first | lia | omega), by (first | lia | omega)⟩, ?_⟩))))
    refine for_range' (lo := 1) (n := (((2 ^ ts.length : Nat) : Int) - 1).toNat) (fun i σ H2 => ∃ o v3, σ = [some (.ref wb), some (.int (m : Int)), some (oV o), v3] ∧ Same H H2 ∧ LeastB (netOf p ts g) (lenAt ts) m (i + 1) o) ⟨none, none, rfl, Same.refl _, fun r hr rg => absurd (show r = 0 by (first | lia | omega)) rg.1⟩ ?_ ?_
    · rintro i D' σ H2 hi ⟨o, v3, rfl, s2, lb⟩
      obtain ⟨r, hr1⟩ : ∃ r, r = i + 1 := ⟨_, rfl⟩
      have e1 : (1 : Int) + (i : Int) = (r : Int) := by (first | lia | omega)
      rw [e1]
      have hlt : r < 2 ^ ts.length := by (first | lia | omega)
      rw [← hr1] at lb
      have eb : Builtin.bitAnd ((r : Nat) : Int) (m : Int) = ((r &&& m : Nat) : Int) := and_int r m
      refine (exq rfl (exq rfl (ijq ⟨_, r &&& m, rfl, eb, fun v hv => (exq rfl (?_))⟩)))
      have hv2 : v = (netOf p ts g).par r m := by
        rw [hv ts.length (Nat.lt_of_le_of_lt Nat.and_le_left hlt)]
        exact RM.xsum_congr fun k _ => Nat.testBit_and ..
      cases hv3 : v with
      | false => exact iteF ⟨o, _, rfl, s2, by rw [← hr1]; exact lb.skip (fun z => by rw [← hv2, hv3] at z; cases z.2)⟩
      | true =>
        refine iteT (exq rfl (exq rfl ⟨wb, p, ts, g, _, r, rfl, rfl, hw.same s2, hlt, fun rg D H3 t0 acc v0 _ s3 _ _ _ _ => ?_, fun nr H3 s3 => ?_⟩))
        · refine ⟨rfl, exq rfl (iteNd (fun z => nomatch z) ?_)⟩
          refine (exq rfl (exq rfl (exq rfl ⟨wb, p, ts, g, _, r, rfl, rfl, hw.same (s2.trans s3), hlt, fun H4 s4 => ?_⟩)))
          refine ⟨o, _, rfl, some (RM.lst o (lenOf ts r)), exq rfl ⟨(s2.trans s3).trans s4, ?_⟩⟩
          rw [lenOf_lsum hlt, ← hr1]
          exact lb.put rg (by rw [← hv2, hv3])
        · exact ⟨rfl, exq rfl (iteNS rfl ⟨o, _, rfl, s2.trans s3, by rw [← hr1]; exact lb.skip fun z => nr z.1⟩)⟩
    · rintro σ H2 ⟨o, v3, rfl, s2, lb⟩
      rw [show (((2 ^ ts.length : Nat) : Int) - 1).toNat + 1 = 2 ^ ts.length by (first | lia | omega)] at lb
      exact (exq rfl (q o H2 s2 lb))
theorem G_law_cut (T : Txt K mg a) : FnOk P w K mg base CX0 1 a.f_law_cut a.d_law_cut ["web", "side"] sp_lcut := by
  refine T.F_law_cut.ok sc_law_cut (fun vs H Q E h => ?_) (fun cdv A outer s H vs Q E hr h => ?_)
  · obtain ⟨w, p, ts, g, l, xs, rfl, _⟩ := h
    rfl
  · obtain ⟨wb, p, ts, g, l, zs, rfl, hw, hl, q⟩ := h
    refine ⟨_, (@pss_cons _ _ _ _ _ (@ps_set _ _ 2 _ _ _ _ sc_law_cut.nd rfl (Or.inl rfl) pe_int (by rfl) (by first | exact .inl rfl | exact .inr rfl | assumption)) (@pss_cons _ _ _ _ _ (@ps_for _ _ _ _ _ _ _ _ PassesOwn.never rfl (@pi_range1 _ _ _ _ _ _ (by rfl) T.n_range (@pa_cons _ _ _ _ _ (@pe_callB _ _ _ _ _ _ _ _ _ (lenK K) (by rfl) T.n_len PySem.boot_len (@pa_cons _ _ _ _ _ (@pe_ix _ _ _ _ _ _ _ (ixT K) (pv 0) pe_int (fun _ _ => rfl)) pa_nil (by rfl)) (by decide) (by decide) (by rfl) (by rfl)) pa_nil (by rfl)) (by rfl)) (pg_name (i := 3) sc_law_cut.nd rfl (Or.inl rfl)) (@pss_one _ _ _ (@ps_if _ _ _ _ _ _ _ _ (@pt_cmpR _ _ _ _ _ _ _ _ op_ne (@pe_cmpR _ _ _ _ _ _ _ _ (inK K) (@pe_ix _ _ _ _ _ _ _ (ixT K) (@pe_ix _ _ _ _ _ _ _ (ixT K) (@pe_ix _ _ _ _ _ _ _ (ixT K) (pv 0) pe_int (fun _ _ => rfl)) (pv 3) (fun _ _ => rfl)) pe_int (fun _ _ => rfl)) (pv 1) (by with_unfolding_all rfl)) (@pe_cmpR _ _ _ _ _ _ _ _ (inK K) (@pe_ix _ _ _ _ _ _ _ (ixT K) (@pe_ix _ _ _ _ _ _ _ (ixT K) (@pe_ix _ _ _ _ _ _ _ (ixT K) (pv 0) pe_int (fun _ _ => rfl)) (pv 3) (fun _ _ => rfl)) pe_int (fun _ _ => rfl)) (pv 1) (by with_unfolding_all rfl)) (nomark _)) (@pss_one _ _ _ (@ps_set _ _ 2 _ _ _ _ sc_law_cut.nd rfl (Or.inl rfl) (@pe_op _ _ _ _ _ _ _ _ op_add (pv 2) (@pe_op _ _ _ _ _ _ _ _ op_shl pe_int (pv 3))) (by rfl) (by first | exact .inl rfl | exact .inr rfl | assumption))) pss_nil)) (by intro _; rfl)) (@pss_one _ _ _ (@ps_ret _ _ _ _ (pv 2))))), ?_⟩
    refine hd_law_cut ?_
    intro zz0 zz1 zz2 zz3
    obtain ⟨bt, xs, h1, h2, h3⟩ := id hw.ex
    have hxl := h3.length
    have wl := g.len
    refine (exq rfl (ixq (SqT.of h1) (atI_nat (j := 1) rfl) (lnq rfl (.inr (SqT.of h2)) (exq rfl ⟨(by (first | lia | omega)), (by (first | lia | omega)), ?_⟩))))
    refine for_range' (lo := 0) (n := (xs.length : Int).toNat) (fun j σ H2 => ∃ v3, σ = [some (.ref wb), some (.ref l), some (.int ((maskOf (fun k => decide ((netOf p ts g).a k ∈ zs) ^^ decide ((netOf p ts g).b k ∈ zs)) j : Nat) : Int)), v3] ∧ H2 = H) ⟨none, rfl, rfl⟩ ?_ ?_
    · rintro j D' σ H2 hj ⟨v3, rfl, rfl⟩
      rw [Int.toNat_natCast, hxl] at hj
      rw [Int.zero_add]
      obtain ⟨c, hxc, hct⟩ := tie_in (g := g) h3 hj
      refine (exq rfl (ixq (SqT.of h1) (atI_nat (j := 1) rfl) (exq rfl (ixq (SqT.of h2) (atI_nat (j := j) hxc) (ixq (SqT.of hct) (atI_nat (j := 0) rfl) (exq rfl (lnq rfl (.inl (SqL.of hl)) ⟨rfl, flat_nats _, ?_⟩)))))))
      refine (exq rfl (ixq (SqT.of h1) (atI_nat (j := 1) rfl) (exq rfl (ixq (SqT.of h2) (atI_nat (j := j) hxc) (ixq (SqT.of hct) (atI_nat (j := 1) rfl) (exq rfl (lnq rfl (.inl (SqL.of hl)) ⟨rfl, flat_nats _, rfl, exq rfl (?_)⟩)))))))
      rw [inV_nats, inV_nats]
      have hms : maskOf (fun k => decide ((netOf p ts g).a k ∈ zs) ^^ decide ((netOf p ts g).b k ∈ zs)) (j + 1) = maskOf (fun k => decide ((netOf p ts g).a k ∈ zs) ^^ decide ((netOf p ts g).b k ∈ zs)) j + (if (decide ((netOf p ts g).a j ∈ zs) ^^ decide ((netOf p ts g).b j ∈ zs)) = true then 2 ^ j else 0) := Nat.add_comm _ _
      have yes : (decide ((netOf p ts g).a j ∈ zs) ^^ decide ((netOf p ts g).b j ∈ zs)) = true → ((maskOf (fun k => decide ((netOf p ts g).a k ∈ zs) ^^ decide ((netOf p ts g).b k ∈ zs)) j : Nat) : Int) + 1 * 2 ^ ((j : Nat) : Int).toNat = ((maskOf (fun k => decide ((netOf p ts g).a k ∈ zs) ^^ decide ((netOf p ts g).b k ∈ zs)) (j + 1) : Nat) : Int) := fun z => by
        rw [hms, if_pos z, shl_int]
        (first | lia | omega)
      have no : (decide ((netOf p ts g).a j ∈ zs) ^^ decide ((netOf p ts g).b j ∈ zs)) = false → maskOf (fun k => decide ((netOf p ts g).a k ∈ zs) ^^ decide ((netOf p ts g).b k ∈ zs)) (j + 1) = maskOf (fun k => decide ((netOf p ts g).a k ∈ zs) ^^ decide ((netOf p ts g).b k ∈ zs)) j := fun z => by
        rw [hms, if_neg (by rw [z]; decide), Nat.add_zero]
      cases e1 : decide ((netOf p ts g).a j ∈ zs) <;> cases e2 : decide ((netOf p ts g).b j ∈ zs)
      · exact iteF ⟨_, by rw [no (by rw [e1, e2]; rfl)]; rfl, rfl⟩
      · exact iteT (exq rfl (exq rfl (ijq ⟨⟨by (first | lia | omega), by (first | lia | omega), by decide⟩, ijq ⟨_, by rw [← yes (by rw [e1, e2]; rfl)]; rfl, rfl⟩⟩)))
      · exact iteT (exq rfl (exq rfl (ijq ⟨⟨by (first | lia | omega), by (first | lia | omega), by decide⟩, ijq ⟨_, by rw [← yes (by rw [e1, e2]; rfl)]; rfl, rfl⟩⟩)))
      · exact iteF ⟨_, by rw [no (by rw [e1, e2]; rfl)]; rfl, rfl⟩
    · rintro σ H2 ⟨v3, rfl, rfl⟩
      rw [Int.toNat_natCast, hxl]
      exact (exq rfl (q))
end

def sp_lowered : Sp := fun vs H Q _ => ∃ (w b : Addr) (p : Nat) (ts : List Tie) (W : List (List Pr)) (z : Int), vs = [.ref w, .ref b, .int z] ∧ WebAt H w p ts ∧ GoodWeb p ts ∧ WorthsAt H b W ∧ Sqr p W ∧ ∀ b' W' H', Same H H' → WorthsAt H' b' W' → Sqr p W' → Q (.ref b') H'
def sp_any : Sp := fun vs H Q _ => ∃ (w : Addr) (p : Nat) (ts : List Tie) (z : Int), vs = [.ref w, .int z] ∧ WebAt H w p ts ∧ GoodWeb p ts ∧ ∀ b' W' H', Same H H' → WorthsAt H' b' W' → Sqr p W' → Q (.ref b') H'
def sp_raised : Sp := fun vs H Q _ => ∃ (b : Addr) (p : Nat) (W : List (List Pr)) (y : Int), vs = [.ref b, .int y] ∧ WorthsAt H b W ∧ Sqr p W ∧ p ≤ 10 ∧ ∀ b' W' H', Same H H' → WorthsAt H' b' W' → Sqr p W' → Q (.ref b') H'
def Made (p : Nat) (H0 : Hp) (D : Addr) (i : Nat) (H : Hp) : Prop := Same H0 H ∧ H0 D = none ∧ ∃ acc W, H D = some (.lst acc) ∧ Paired (RowW H) acc W ∧ W.length = i ∧ ∀ R ∈ W, R.length = p
theorem Made.start {p : Nat} {H : Hp} {D : Addr} (hD : H D = none) : Made p H D 0 (upd H D (.lst [])) := ⟨Same.new hD, hD, [], [], upd_same, .nil, rfl, fun R hR => nomatch hR⟩
theorem Made.go {p : Nat} {H0 H H' : Hp} {D : Addr} {i : Nat} (h : Made p H0 D i H) (s : Same H H') : Made p H0 D i H' :=
  let ⟨s0, hD, acc, W, h1, h2, h3⟩ := h; ⟨s0.trans s, hD, acc, W, s _ _ h1, Paired.imp' (fun _ _ z => z.same s) h2, h3⟩
theorem Made.put {p : Nat} {H0 H : Hp} {D c : Addr} {i : Nat} {ys : List V} {R : List Pr} (h : Made p H0 D i H) (hi : i ≤ 10) (hc : H c = some (.tup ys)) (pr : Paired (PairAt H) ys R) (hR : R.length = p) : ∃ acc, H D = some (.lst acc) ∧ acc.length ≤ 10 ∧ Made p H0 D (i + 1) (upd H D (.lst (acc ++ [.ref c]))) := by
  obtain ⟨s0, hD, acc, W, h1, h2, h3, h4⟩ := h
  refine ⟨acc, h1, by rw [h2.length, h3]; exact hi, s0.put hD, hD, acc ++ [.ref c], W ++ [R], upd_same, Paired.snoc (Paired.imp' (fun _ _ z => z.tups (Tups.put h1)) h2) (RowW.tups (Tups.put h1) ⟨c, ys, rfl, hc, pr⟩), by rw [List.length_append, List.length_singleton, h3], fun x hx => ?_⟩
  rcases List.mem_append.mp hx with hx | hx
  · exact h4 x hx
  · have e : x = R := by simpa using hx
    rw [e, hR]
theorem Made.fin {p : Nat} {H0 H : Hp} {D : Addr} (h : Made p H0 D p H) : ∃ acc W, H D = some (.lst acc) ∧ ∀ l, H l = none → Same H0 (upd H l (.tup acc)) ∧ WorthsAt (upd H l (.tup acc)) l W ∧ Sqr p W := by
  obtain ⟨s0, hD, acc, W, h1, h2, h3, h4⟩ := h
  exact ⟨acc, W, h1, fun l hl => ⟨s0.trans (Same.new hl), ⟨acc, upd_same, Paired.imp' (fun _ _ z => z.same (Same.new hl)) h2⟩, h3, h4⟩⟩
def MadeR (H0 : Hp) (E : Addr) (j : Nat) (H : Hp) : Prop := Same H0 H ∧ H0 E = none ∧ ∃ acc R, H E = some (.lst acc) ∧ Paired (PairAt H) acc R ∧ R.length = j
theorem MadeR.start {H : Hp} {E : Addr} (hE : H E = none) : MadeR H E 0 (upd H E (.lst [])) := ⟨Same.new hE, hE, [], [], upd_same, .nil, rfl⟩
theorem MadeR.put {H0 H H' : Hp} {E c : Addr} {j : Nat} {q : Pr} (h : MadeR H0 E j H) (hj : j ≤ 10) (s : Same H H') (hc : H' c = some (.tup [oV q.1, oV q.2])) : ∃ acc, H' E = some (.lst acc) ∧ acc.length ≤ 10 ∧ MadeR H0 E (j + 1) (upd H' E (.lst (acc ++ [.ref c]))) := by
  obtain ⟨s0, hE, acc, R, h1, h2, h3⟩ := h
  have h1' := s _ _ h1
  exact ⟨acc, h1', by rw [h2.length, h3]; exact hj, (s0.trans s).put hE, hE, acc ++ [.ref c], R ++ [q], upd_same, Paired.snoc (Paired.imp' (fun _ _ z => z.tups (s.tups.trans (Tups.put h1'))) h2) ⟨c, rfl, Tups.put h1' _ _ hc⟩, by rw [List.length_append, List.length_singleton, h3]⟩
theorem MadeR.fin {H0 H : Hp} {E : Addr} {j : Nat} (h : MadeR H0 E j H) : ∃ acc R, H E = some (.lst acc) ∧ R.length = j ∧ ∀ l, H l = none → Same H0 (upd H l (.tup acc)) ∧ Paired (PairAt (upd H l (.tup acc))) acc R := by
  obtain ⟨s0, hE, acc, R, h1, h2, h3⟩ := h
  exact ⟨acc, R, h1, h3, fun l hl => ⟨s0.trans (Same.new hl), Paired.imp' (fun _ _ z => z.same (Same.new hl)) h2⟩⟩
theorem bit01 (k : Bool) : -(2 ^ 64) < (if k = true then (1 : Int) else 0) ∧ (if k = true then (1 : Int) else 0) < 2 ^ 64 := by
  cases k <;> decide
section
variable {P : Program} {w : World} {K : PySem.W.Frag} {mg : Str → Option Value} {base : Heap} {a : Adr}
theorem G_law_any (T : Txt K mg a) : FnOk P w K mg base CX0 2 a.f_law_any a.d_law_any ["web", "left"] sp_any := by
  have G_law_left : FnOk P w K mg base CX0 1 a.f_law_left a.d_law_left ["cell", "k", "way"] sp_left := G_law_left T
  refine T.F_law_any.ok sc_law_any (fun vs H Q E h => ?_) (fun cdv A outer s H vs Q E hr h => ?_)
  · obtain ⟨w, p, ts, z, rfl, _⟩ := h
    rfl
  · obtain ⟨wb, p, ts, z, rfl, hw, g, q⟩ := h
    refine ⟨_, (@pss_cons _ _ _ _ _ (@ps_set _ _ 2 _ _ _ _ sc_law_any.nd rfl (Or.inl rfl) (@pe_lst _ _ _ _ pa_nil) (by rfl) (by first | exact .inl rfl | exact .inr rfl | assumption)) (@pss_cons _ _ _ _ _ (@ps_for _ _ _ _ _ _ _ _ PassesOwn.never rfl (@pi_range1 _ _ _ _ _ _ (by rfl) T.n_range (@pa_cons _ _ _ _ _ (@pe_ix _ _ _ _ _ _ _ (ixT K) (pv 0) pe_int (fun _ _ => rfl)) pa_nil (by rfl)) (by rfl)) (pg_name (i := 3) sc_law_any.nd rfl (Or.inl rfl)) (@pss_cons _ _ _ _ _ (@ps_set _ _ 4 _ _ _ _ sc_law_any.nd rfl (Or.inl rfl) (@pe_lst _ _ _ _ pa_nil) (by rfl) (by first | exact .inl rfl | exact .inr rfl | assumption)) (@pss_cons _ _ _ _ _ (@ps_for _ _ _ _ _ _ _ _ PassesOwn.never rfl (@pi_range1 _ _ _ _ _ _ (by rfl) T.n_range (@pa_cons _ _ _ _ _ (@pe_ix _ _ _ _ _ _ _ (ixT K) (pv 0) pe_int (fun _ _ => rfl)) pa_nil (by rfl)) (by rfl)) (pg_name (i := 5) sc_law_any.nd rfl (Or.inl rfl)) (@pss_cons _ _ _ _ _ (@ps_set _ _ 6 _ _ _ _ sc_law_any.nd rfl (Or.inl rfl) (@pe_call _ _ _ _ _ _ _ _ _ _ _ _ _ _ _ _ G_law_left (hr.mono (by decide)) (by rfl) T.m_law_left T.k_law_left T.b_law_left .nil pass0 (@pa_cons _ _ _ _ _ (pv 1) (@pa_cons _ _ _ _ _ (@pe_op _ _ _ _ _ _ _ _ op_add (@pe_op _ _ _ _ _ _ _ _ op_mul pe_int (pv 3)) (pv 5)) (@pa_cons _ _ _ _ _ pe_int pa_nil (by rfl)) (by rfl)) (by rfl)) (by decide) (by rfl) (by rfl)) (by rfl) (by first | exact .inl rfl | exact .inr rfl | assumption)) (@pss_cons _ _ _ _ _ (@ps_set _ _ 7 _ _ _ _ sc_law_any.nd rfl (Or.inl rfl) (@pe_op _ _ _ _ _ _ _ _ op_mod (@pe_op _ _ _ _ _ _ _ _ op_fdiv (pv 6) pe_int) pe_int) (by rfl) (by first | exact .inl rfl | exact .inr rfl | assumption)) (@pss_cons _ _ _ _ _ (@ps_if _ _ _ _ _ _ _ _ (@pt_cmpR _ _ _ _ _ _ _ _ op_eq (@pe_op _ _ _ _ _ _ _ _ op_mod (pv 1) pe_int) pe_int (nomark _)) (@pss_one _ _ _ (@ps_set _ _ 7 _ _ _ _ sc_law_any.nd rfl (Or.inl rfl) pe_non (by rfl) (by first | exact .inl rfl | exact .inr rfl | assumption))) pss_nil) (@pss_one _ _ _ (@ps_expr _ _ _ _ (@bmK _ _ _ _ _ _ K (@pe_bm _ _ _ _ _ _ _ _ _ _ _ _ PySem.F.plainAttrs_list PySem.F.slot_list_append PySem.F.type_list_append mt_append (pv 4) (@pa_cons _ _ _ _ _ (@pe_tup _ _ _ _ _ (@pa_cons _ _ _ _ _ (@pe_op _ _ _ _ _ _ _ _ op_mul (@pe_op _ _ _ _ _ _ _ _ op_mod (pv 6) pe_int) (@pe_callTy _ _ _ _ _ _ _ _ _ call_int1 (by rfl) T.n_int PyProof.Rows.boot_int (@pa_cons _ _ _ _ _ (@pe_cmpR _ _ _ _ _ _ _ _ op_ne (pv 5) (pv 3) (nomark _)) pa_nil (by rfl)) (by decide) (by decide) (by rfl) (by rfl))) (@pa_cons _ _ _ _ _ (pv 7) pa_nil (by rfl)) (by rfl))) pa_nil (by rfl)) (by rfl) (by rfl) (by rfl) (by rfl) (by rfl)) (by rfl)) (by rfl)))))) (by intro _; rfl)) (@pss_one _ _ _ (@ps_expr _ _ _ _ (@bmK _ _ _ _ _ _ K (@pe_bm _ _ _ _ _ _ _ _ _ _ _ _ PySem.F.plainAttrs_list PySem.F.slot_list_append PySem.F.type_list_append mt_append (pv 2) (@pa_cons _ _ _ _ _ (@pe_callTy _ _ _ _ _ _ _ _ _ (tuplK K) (by rfl) T.n_tuple PyProof.Rows.boot_tuple (@pa_cons _ _ _ _ _ (pv 4) pa_nil (by rfl)) (by decide) (by decide) (by rfl) (by rfl)) pa_nil (by rfl)) (by rfl) (by rfl) (by rfl) (by rfl) (by rfl)) (by rfl)) (by rfl))))) (by intro _; rfl)) (@pss_one _ _ _ (@ps_ret _ _ _ _ (@pe_callTy _ _ _ _ _ _ _ _ _ (tuplK K) (by rfl) T.n_tuple PyProof.Rows.boot_tuple (@pa_cons _ _ _ _ _ (pv 2) pa_nil (by rfl)) (by decide) (by decide) (by rfl) (by rfl)))))), ?_⟩
    refine hd_law_any ?_
    intro zz0 zz1 zz2 zz3 zz4 zz5 zz6 zz7 zz8 zz9
    obtain ⟨bt, xs, h1, h2, h3⟩ := id hw.ex
    have wp := g.p2
    refine ⟨dl rfl, fun D hD => ?_⟩
    have hs : Made p H D 0 (upd H D (.lst [])) := .start hD
    generalize upd H D (.lst []) = H1 at hs
    refine (exq rfl (ixq (SqT.of (hs.1 _ _ h1)) (atI_nat (j := 0) rfl) (exq rfl ⟨(by (first | lia | omega)), (by (first | lia | omega)), ?_⟩)))
    refine for_range' (lo := 0) (n := (p : Int).toNat) (fun i σ H2 => ∃ v3 v4 v5 v6 v7, σ = [some (.ref wb), some (.int z), some (.ref D), v3, v4, v5, v6, v7] ∧ Made p H D i H2) ⟨none, none, none, none, none, rfl, hs⟩ ?_ ?_
    · rintro i D' σ H2 hi ⟨v3, v4, v5, v6, v7, rfl, m2⟩
      rw [Int.toNat_natCast] at hi
      rw [Int.zero_add]
      refine ⟨dl rfl, fun E hE => ?_⟩
      have r3 : MadeR H2 E 0 (upd H2 E (.lst [])) := .start hE
      generalize upd H2 E (.lst []) = H3 at r3
      refine (exq rfl (ixq (SqT.of (r3.1 _ _ (m2.1 _ _ h1))) (atI_nat (j := 0) rfl) (exq rfl ⟨(by (first | lia | omega)), (by (first | lia | omega)), ?_⟩)))
      refine for_range' (lo := 0) (n := (p : Int).toNat) (fun j σ H4 => ∃ v5 v6 v7, σ = [some (.ref wb), some (.int z), some (.ref D), some (.int (i : Int)), some (.ref E), v5, v6, v7] ∧ MadeR H2 E j H4) ⟨v5, v6, v7, rfl, r3⟩ ?_ ?_
      · rintro j D2' σ H4 hj ⟨v5, v6, v7, rfl, r4⟩
        rw [Int.toNat_natCast] at hj
        rw [Int.zero_add]
        refine (exq rfl (exq rfl (ijq ⟨.inl ⟨by decide, by decide⟩, exq rfl (ijq ⟨_, _, _, rfl, fun st => ?_⟩)⟩)))
        have cont : ∀ o : Option Int, zz2 D2' [some (.ref wb), some (.int z), some (.ref D), some (.int (i : Int)), some (.ref E), some (.int (j : Int)), some (.int st), some (oV o)] H4 := fun o => by
          obtain ⟨_, _, acc4, R4, hE4, _⟩ := id r4
          refine (exq rfl ⟨.inl ⟨rfl, _, SqL.of hE4⟩, exq rfl (ijq ⟨(modC rfl), exq rfl (exq rfl ⟨rfl, .inr (exq rfl (ijq ⟨.inr (bit01 _), exq rfl ⟨dl rfl, fun l hl => ?_⟩⟩))⟩)⟩)⟩)
          obtain ⟨acc, e1, e2, m5⟩ := r4.put (by (first | lia | omega)) (Same.new hl) (q := (some _, o)) upd_same
          exact ⟨E, _, _, rfl, rfl, e1, smallL (by (first | lia | omega)), _, _, _, rfl, m5⟩
        refine (exq rfl (ijq ⟨⟨by decide, by decide⟩, ijq ⟨(modC rfl), ?_⟩⟩))
        refine (exq rfl (ijq ⟨(modC rfl), rfl, exq rfl (ite2 (fun _ => cont none) (fun _ => cont (some _)))⟩))
      · rintro σ H4 ⟨v5, v6, v7, rfl, r4⟩
        rw [Int.toNat_natCast] at r4
        obtain ⟨acc, R, hE4, rl, fin⟩ := r4.fin
        obtain ⟨_, _, accD, _, hD2, _⟩ := id m2
        refine (exq rfl ⟨.inl ⟨rfl, _, SqL.of (r4.1 _ _ hD2)⟩, exq rfl ⟨E, _, rfl, .inl ⟨SqL.of hE4, fun l hl => ?_⟩⟩⟩)
        obtain ⟨f1, f2⟩ := fin l hl
        obtain ⟨acc5, e1, e2, m5⟩ := (m2.go f1).put (by (first | lia | omega)) upd_same f2 rl
        exact ⟨D, _, _, rfl, rfl, e1, smallL (by (first | lia | omega)), _, _, _, _, _, rfl, m5⟩
    · rintro σ H2 ⟨v3, v4, v5, v6, v7, rfl, m2⟩
      rw [Int.toNat_natCast] at m2
      obtain ⟨acc, W, hD2, fin⟩ := m2.fin
      exact (exq rfl ⟨D, _, rfl, .inl ⟨SqL.of hD2, fun l hl => let ⟨f1, f2, f3⟩ := fin l hl; q l W _ f1 f2 f3⟩⟩)
theorem G_law_lowered (T : Txt K mg a) : FnOk P w K mg base CX0 1 a.f_law_lowered a.d_law_lowered ["web", "worths", "left"] sp_lowered := by
  refine T.F_law_lowered.ok sc_law_lowered (fun vs H Q E h => ?_) (fun cdv A outer s H vs Q E hr h => ?_)
  · obtain ⟨w, b, p, ts, W, z, rfl, _⟩ := h
    rfl
  · obtain ⟨wb, b, p, ts, W, z, rfl, hw, g, hW, sq, q⟩ := h
    refine ⟨_, (@pss_cons _ _ _ _ _ (@ps_set _ _ 3 _ _ _ _ sc_law_lowered.nd rfl (Or.inl rfl) (@pe_lst _ _ _ _ pa_nil) (by rfl) (by first | exact .inl rfl | exact .inr rfl | assumption)) (@pss_cons _ _ _ _ _ (@ps_for _ _ _ _ _ _ _ _ PassesOwn.never rfl (@pi_range1 _ _ _ _ _ _ (by rfl) T.n_range (@pa_cons _ _ _ _ _ (@pe_ix _ _ _ _ _ _ _ (ixT K) (pv 0) pe_int (fun _ _ => rfl)) pa_nil (by rfl)) (by rfl)) (pg_name (i := 4) sc_law_lowered.nd rfl (Or.inl rfl)) (@pss_cons _ _ _ _ _ (@ps_set _ _ 5 _ _ _ _ sc_law_lowered.nd rfl (Or.inl rfl) (@pe_lst _ _ _ _ pa_nil) (by rfl) (by first | exact .inl rfl | exact .inr rfl | assumption)) (@pss_cons _ _ _ _ _ (@ps_for _ _ _ _ _ _ _ _ PassesOwn.never rfl (@pi_range1 _ _ _ _ _ _ (by rfl) T.n_range (@pa_cons _ _ _ _ _ (@pe_ix _ _ _ _ _ _ _ (ixT K) (pv 0) pe_int (fun _ _ => rfl)) pa_nil (by rfl)) (by rfl)) (pg_name (i := 6) sc_law_lowered.nd rfl (Or.inr rfl)) (@pss_cons _ _ _ _ _ (@ps_set _ _ 7 _ _ _ _ sc_law_lowered.nd rfl (Or.inr rfl) (@pe_comp _ _ _ _ _ _ _ ["s"] ["left", "other"] [2, 6] _ _ _ _ (compText_of (defScope s_law_lowered) ["web", "worths", "left", "made", "point", "row", "other", "less", "pair"]) rfl (@pi_range1 _ _ _ _ _ _ (by rfl) T.n_range (@pa_cons _ _ _ _ _ pe_int pa_nil (by rfl)) (by rfl)) (fun _ _ _ _ => (pg_name (i := 0) (show (["s", "left", "other"] : List Str).Nodup by decide +kernel) rfl (Or.inl rfl))) (fun _ _ _ _ => pts_nil) (fun _ _ _ _ => (pe_op op_mod (pe_op op_shr (pv 1) (pe_op op_add (pe_op op_mul pe_int (pv 2)) (pv 0))) pe_int)) (by intro _; rfl)) (by rfl) (by first | exact .inl rfl | exact .inr rfl | assumption)) (@pss_cons _ _ _ _ _ (@ps_asg _ _ _ _ _ _ (@pe_op _ _ _ _ _ _ _ _ op_mul (@pe_ix _ _ _ _ _ _ _ (ixL K) (pv 7) pe_int (fun _ _ => rfl)) (@pe_callTy _ _ _ _ _ _ _ _ _ call_int1 (by rfl) T.n_int PyProof.Rows.boot_int (@pa_cons _ _ _ _ _ (@pe_cmpR _ _ _ _ _ _ _ _ op_ne (pv 6) (pv 4) (nomark _)) pa_nil (by rfl)) (by decide) (by decide) (by rfl) (by rfl))) (@pg_sub _ _ _ _ _ _ _ (pv 7) pe_int set_list (by intro _; rfl)) (by rfl) (by rfl) (by rfl)) (@pss_cons _ _ _ _ _ (@ps_set _ _ 8 _ _ _ _ sc_law_lowered.nd rfl (Or.inr rfl) (@pe_ix _ _ _ _ _ _ _ (ixT K) (@pe_ix _ _ _ _ _ _ _ (ixT K) (pv 1) (pv 4) (fun _ _ => rfl)) (pv 6) (fun _ _ => rfl)) (by rfl) (by first | exact .inl rfl | exact .inr rfl | assumption)) (@pss_one _ _ _ (@ps_expr _ _ _ _ (@bmK _ _ _ _ _ _ K (@pe_bm _ _ _ _ _ _ _ _ _ _ _ _ PySem.F.plainAttrs_list PySem.F.slot_list_append PySem.F.type_list_append mt_append (pv 5) (@pa_cons _ _ _ _ _ (@pe_callTy _ _ _ _ _ _ _ _ _ (tuplK K) (by rfl) T.n_tuple PyProof.Rows.boot_tuple (@pa_cons _ _ _ _ _ (@pe_comp _ _ _ _ _ _ _ ["s"] ["less", "pair"] [7, 8] _ _ _ _ (compText_of (defScope s_law_lowered) ["web", "worths", "left", "made", "point", "row", "other", "less", "pair"]) rfl (@pi_range1 _ _ _ _ _ _ (by rfl) T.n_range (@pa_cons _ _ _ _ _ pe_int pa_nil (by rfl)) (by rfl)) (fun _ _ _ _ => (pg_name (i := 0) (show (["s", "less", "pair"] : List Str).Nodup by decide +kernel) rfl (Or.inl rfl))) (fun _ _ _ _ => pts_nil) (fun _ _ _ _ => (pe_ifExp (pt_cmpR op_isN (pe_ix (ixT K) (pv 2) (pv 0) (fun _ _ => rfl)) pe_non (nomark _)) pe_non (pe_op op_sub (pe_ix (ixT K) (pv 2) (pv 0) (fun _ _ => rfl)) (pe_ix (ixL K) (pv 1) (pv 0) (fun _ _ => rfl))))) (by intro _; rfl)) pa_nil (by rfl)) (by decide) (by decide) (by rfl) (by rfl)) pa_nil (by rfl)) (by rfl) (by rfl) (by rfl) (by rfl) (by rfl)) (by rfl)) (by rfl)))))) (by intro _; rfl)) (@pss_one _ _ _ (@ps_expr _ _ _ _ (@bmK _ _ _ _ _ _ K (@pe_bm _ _ _ _ _ _ _ _ _ _ _ _ PySem.F.plainAttrs_list PySem.F.slot_list_append PySem.F.type_list_append mt_append (pv 3) (@pa_cons _ _ _ _ _ (@pe_callTy _ _ _ _ _ _ _ _ _ (tuplK K) (by rfl) T.n_tuple PyProof.Rows.boot_tuple (@pa_cons _ _ _ _ _ (pv 5) pa_nil (by rfl)) (by decide) (by decide) (by rfl) (by rfl)) pa_nil (by rfl)) (by rfl) (by rfl) (by rfl) (by rfl) (by rfl)) (by rfl)) (by rfl))))) (by intro _; rfl)) (@pss_one _ _ _ (@ps_ret _ _ _ _ (@pe_callTy _ _ _ _ _ _ _ _ _ (tuplK K) (by rfl) T.n_tuple PyProof.Rows.boot_tuple (@pa_cons _ _ _ _ _ (pv 3) pa_nil (by rfl)) (by decide) (by decide) (by rfl) (by rfl)))))), ?_⟩
    refine hd_law_lowered ?_
    intro zz0 zz1 zz2 zz3 zz4 zz5 zz6 zz7 zz8
    obtain ⟨bt, xs, h1, h2, h3⟩ := id hw.ex
    obtain ⟨ws, hws, prW⟩ := id hW
    have wp := g.p2
    refine ⟨dl rfl, fun D hD => ?_⟩
    have hs : Made p H D 0 (upd H D (.lst [])) := .start hD
    generalize upd H D (.lst []) = H1 at hs
    refine (exq rfl (ixq (SqT.of (hs.1 _ _ h1)) (atI_nat (j := 0) rfl) (exq rfl ⟨(by (first | lia | omega)), (by (first | lia | omega)), ?_⟩)))
    refine for_range' (lo := 0) (n := (p : Int).toNat) (fun i σ H2 => ∃ v4 v5 v6 v7 v8, σ = [some (.ref wb), some (.ref b), some (.int z), some (.ref D), v4, v5, v6, v7, v8] ∧ Made p H D i H2) ⟨none, none, none, none, none, rfl, hs⟩ ?_ ?_
    · rintro i D' σ H2 hi ⟨v3, v4, v5, v6, v7, rfl, m2⟩
      rw [Int.toNat_natCast] at hi
      rw [Int.zero_add]
      obtain ⟨x, hx, bR, ys, rfl, hbR, prR⟩ := paired_at prW (i := i) (by rw [sq.1]; exact hi) []
      have rl := sq.row hi
      generalize W.getD i [] = Rw at prR rl
      refine ⟨dl rfl, fun E hE => ?_⟩
      have r3 : MadeR H2 E 0 (upd H2 E (.lst [])) := .start hE
      generalize upd H2 E (.lst []) = H3 at r3
      refine (exq rfl (ixq (SqT.of (r3.1 _ _ (m2.1 _ _ h1))) (atI_nat (j := 0) rfl) (exq rfl ⟨(by (first | lia | omega)), (by (first | lia | omega)), ?_⟩)))
      refine for_range' (lo := 0) (n := (p : Int).toNat) (fun j σ H4 => ∃ v6 v7 v8, σ = [some (.ref wb), some (.ref b), some (.int z), some (.ref D), some (.int (i : Int)), some (.ref E), v6, v7, v8] ∧ MadeR H2 E j H4) ⟨v5, v6, v7, rfl, r3⟩ ?_ ?_
      · rintro j D2' σ H4 hj ⟨v5, v6, v7, rfl, r4⟩
        rw [Int.toNat_natCast] at hj
        rw [Int.zero_add]
        obtain ⟨c, ec, hc⟩ := RowW.at prR (i := j) (by (first | lia | omega))
        have s4 := m2.1.trans r4.1
        refine (exq rfl ⟨(by decide), (by decide), fun L hL => comp_range (lo := 0) (m := 2) (fun k acc H5 => Same H4 H5 ∧ H5 L = some (.lst acc) ∧ ∃ f : Nat → Int, (∀ j, 0 ≤ f j ∧ f j < 2) ∧ acc = ((List.range k).map f).map V.int) ⟨Same.new hL, upd_same, fun _ => 0, fun _ => ⟨Int.le_refl 0, show (0 : Int) < 2 by decide⟩, rfl⟩ (fun k acc H5 _ z => ⟨z.2.1, by obtain ⟨f, _, e⟩ := z.2.2; rw [e, List.length_map, List.length_map, List.length_range]; exact Nat.le_refl _⟩) (small24 (by decide)) ?_ ?_⟩)
        · rintro k acc H5 hk ⟨s5, hL5, f, hf, rfl⟩
          rw [Int.zero_add]
          refine ⟨rfl, exq rfl (exq rfl (ijq ⟨.inl ⟨by decide, by decide⟩, exq rfl (ijq (ijq ⟨(by (first | lia | omega)), ijq ⟨(modC rfl), hL5, s5.put hL, upd_same, fun n => if n = k then z / 2 ^ (2 * (j : Int) + (k : Int)).toNat % 2 else f n, fun n => ?_, ?_⟩⟩))⟩))⟩
          · dsimp only
            split
            · exact emod2 _ 2 (by decide)
            · exact hf n
          · rw [List.range_succ, List.map_append, List.map_append]
            congr 1
            · congr 1
              exact List.map_congr_left fun n hn => (if_neg (by have := List.mem_range.mp hn; (first | lia | omega))).symm
            · show [V.int _] = [V.int (if k = k then _ else _)]
              rw [if_pos rfl]
        · rintro acc H5 ⟨s5, hL5, f, hf, rfl⟩
          have hf0 := hf 0
          have hL5 : H5 L = some (.lst [.int (f 0), .int (f 1)]) := hL5
          refine (exq rfl (ixl (SqL.of hL5) (atI_nat (j := 0) rfl) (exq rfl (exq rfl ⟨rfl, .inr (exq rfl (ijq ⟨.inr (bit01 _), ?_⟩))⟩))))
          refine (exq rfl ⟨L, _, _, 0, rfl, rfl, hL5, ixN_nat (n := 2) (j := 0) (by decide), ?_⟩)
          have fin : ∀ y0 y1 : Int, zz3 D2' [some (.ref wb), some (.ref b), some (.int z), some (.ref D), some (.int (i : Int)), some (.ref E), some (.int (j : Int)), some (.ref L), v7] (upd H5 L (.lst [.int y0, .int y1])) := fun y0 y1 => by
            have s6 : Same H4 (upd H5 L (.lst [.int y0, .int y1])) := s5.put hL
            have hL6 : upd H5 L (.lst [.int y0, .int y1]) L = some (.lst [.int y0, .int y1]) := upd_same
            generalize upd H5 L (.lst [.int y0, .int y1]) = H6 at s6 hL6
            obtain ⟨_, _, accE, _, hE4, _⟩ := id r4
            have s06 := s4.trans s6
            refine (exq rfl (exq rfl (ixq (SqT.of (s06 _ _ hws)) (atI_nat (j := i) hx) (exq rfl (ixq (SqT.of (s06 _ _ hbR)) (atI_nat (j := j) ec) (?_))))))
            refine (exq rfl ⟨.inl ⟨rfl, _, SqL.of (s6 _ _ hE4)⟩, exq rfl ⟨(by decide), (by decide), fun M hM => comp_range (lo := 0) (m := 2) (fun k acc H7 => Same H6 H7 ∧ H7 M = some (.lst acc) ∧ ∃ o : Nat → Option Int, acc = (List.range k).map fun n => oV (o n)) ⟨Same.new hM, upd_same, fun _ => none, rfl⟩ (fun k acc H7 _ z => ⟨z.2.1, by obtain ⟨f, e⟩ := z.2.2; rw [e, List.length_map, List.length_range]; exact Nat.le_refl _⟩) (small24 (by decide)) ?_ ?_⟩⟩)
            · rintro k acc H7 hk ⟨s7, hM7, o, rfl⟩
              rw [Int.zero_add]
              obtain ⟨sb, rfl⟩ : ∃ sb : Bool, k = sb.toNat := by
                have : k = 0 ∨ k = 1 := by (first | lia | omega)
                rcases this with rfl | rfl
                · exact ⟨false, rfl⟩
                · exact ⟨true, rfl⟩
              have hc7 := s7 _ _ (s06 _ _ hc)
              have nxt : ∀ o' : Option Int, H7 M = some (.lst ((List.range sb.toNat).map fun n => oV (o n))) ∧ Same H6 (upd H7 M (.lst ((List.range sb.toNat).map (fun n => oV (o n)) ++ [oV o']))) ∧ upd H7 M (.lst ((List.range sb.toNat).map (fun n => oV (o n)) ++ [oV o'])) M = some (.lst ((List.range sb.toNat).map (fun n => oV (o n)) ++ [oV o'])) ∧ ∃ o2 : Nat → Option Int, (List.range sb.toNat).map (fun n => oV (o n)) ++ [oV o'] = (List.range (sb.toNat + 1)).map fun n => oV (o2 n) := fun o' => by
                refine ⟨hM7, s7.put hM, upd_same, fun n => if n = sb.toNat then o' else o n, ?_⟩
                rw [List.range_succ, List.map_append]
                congr 1
                · exact List.map_congr_left fun n hn => congrArg oV (if_neg (by have := List.mem_range.mp hn; (first | lia | omega))).symm
                · show [oV o'] = [oV (if sb.toNat = sb.toNat then o' else _)]
                  rw [if_pos rfl]
              have hsel := sel_at (prAt Rw j) sb
              refine ⟨rfl, exq rfl (exq rfl (ixq (SqT.of hc7) (atI_nat hsel) ⟨rfl, exq rfl (?_)⟩))⟩
              cases hX : sel (prAt Rw j) sb with
              | none => exact iteP rfl (nxt none)
              | some x =>
                rw [hX] at hsel
                obtain ⟨y, hy⟩ : ∃ y : Int, ([.int y0, .int y1] : List V)[sb.toNat]? = some (.int y) := by
                  cases sb
                  · exact ⟨_, rfl⟩
                  · exact ⟨_, rfl⟩
                exact iteD (fun z => nomatch z) (exq rfl (exq rfl (ixq (SqT.of hc7) (atI_nat hsel) (exq rfl (exq rfl (ixl (SqL.of (s7 _ _ hL6)) (atI_nat hy) (ijq (nxt (some (x - y))))))))))
            · rintro acc H7 ⟨s7, hM7, o, rfl⟩
              refine ⟨M, _, rfl, .inl ⟨SqL.of hM7, fun l hl => ?_⟩⟩
              obtain ⟨acc, e1, e2, m5⟩ := r4.put (by (first | lia | omega)) ((s6.trans s7).trans (Same.new hl)) (q := (o 0, o 1)) upd_same
              exact ⟨E, _, _, rfl, rfl, e1, smallL (by (first | lia | omega)), _, _, _, rfl, m5⟩
          exact fin _ _
      · rintro σ H4 ⟨v5, v6, v7, rfl, r4⟩
        rw [Int.toNat_natCast] at r4
        obtain ⟨acc, R, hE4, rl, fin⟩ := r4.fin
        obtain ⟨_, _, accD, _, hD2, _⟩ := id m2
        refine (exq rfl ⟨.inl ⟨rfl, _, SqL.of (r4.1 _ _ hD2)⟩, exq rfl ⟨E, _, rfl, .inl ⟨SqL.of hE4, fun l hl => ?_⟩⟩⟩)
        obtain ⟨f1, f2⟩ := fin l hl
        obtain ⟨acc5, e1, e2, m5⟩ := (m2.go f1).put (by (first | lia | omega)) upd_same f2 rl
        exact ⟨D, _, _, rfl, rfl, e1, smallL (by (first | lia | omega)), _, _, _, _, _, rfl, m5⟩
    · rintro σ H2 ⟨v3, v4, v5, v6, v7, rfl, m2⟩
      rw [Int.toNat_natCast] at m2
      obtain ⟨acc, W, hD2, fin⟩ := m2.fin
      exact (exq rfl ⟨D, _, rfl, .inl ⟨SqL.of hD2, fun l hl => let ⟨f1, f2, f3⟩ := fin l hl; q l W _ f1 f2 f3⟩⟩)
theorem G_law_raised (T : Txt K mg a) : FnOk P w K mg base CX0 1 a.f_law_raised a.d_law_raised ["worths", "more"] sp_raised := by
  refine T.F_law_raised.ok sc_law_raised (fun vs H Q E h => ?_) (fun cdv A outer s H vs Q E hr h => ?_)
  · obtain ⟨b, p, W, y, rfl, _⟩ := h
    rfl
  · obtain ⟨b, p, W, y, rfl, hW, sq, wp, q⟩ := h
    refine ⟨_, (@pss_one _ _ _ (@ps_ret _ _ _ _ (@pe_callTy _ _ _ _ _ _ _ _ _ (tuplK K) (by rfl) T.n_tuple PyProof.Rows.boot_tuple (@pa_cons _ _ _ _ _ (@pe_comp _ _ _ _ _ _ _ ["row"] ["more"] [1] _ _ _ _ (compText_of (defScope s_law_raised) ["worths", "more"]) rfl (@piT _ _ _ _ K (pv 0) (by rfl)) (fun _ _ _ _ => (pg_name (i := 0) (show (["row", "more"] : List Str).Nodup by decide +kernel) rfl (Or.inl rfl))) (fun _ _ _ _ => pts_nil) (fun _ _ _ _ => (pe_callTy (tuplK K) (by rfl) T.n_tuple PyProof.Rows.boot_tuple (pa_cons (pe_comp (own := ["pair"]) (frees := ["more"]) (js := [1]) (compText_of (relabelS _ (defScope s_law_raised)) ["row", "more"]) rfl (piT K (pv 0)) (fun _ _ _ _ => (pg_name (i := 0) (show (["pair", "more"] : List Str).Nodup by decide +kernel) rfl (Or.inl rfl))) (fun _ _ _ _ => pts_nil) (fun _ _ _ _ => (pe_tup (pa_cons (pe_ix (ixT K) (pv 0) pe_int (fun _ _ => rfl)) (pa_cons (pe_ifExp (pt_cmpR op_isN (pe_ix (ixT K) (pv 0) pe_int (fun _ _ => rfl)) pe_non (nomark _)) pe_non (pe_op op_add (pe_ix (ixT K) (pv 0) pe_int (fun _ _ => rfl)) (pv 1))) pa_nil))))) pa_nil))) (by intro _; rfl)) pa_nil (by rfl)) (by decide) (by decide) (by rfl) (by rfl)))), ?_⟩
    obtain ⟨ws, hws, prW⟩ := id hW
    have wsl : ws.length = p := by rw [prW.length, sq.1]
    refine (exq rfl ⟨b, rfl, ⟨_, SqT.of hws⟩, fun D hD => comp_tup (xs := ws) (fun i acc H2 => Made p H D i H2 ∧ H2 D = some (.lst acc)) ⟨.start hD, upd_same⟩ ?_ (dl (Nat.ble_eq.mpr (by (first | lia | omega)))) ?_ ?_⟩)
    · rintro i acc H2 hi ⟨m2, hD2⟩
      refine ⟨SqT.of (m2.1 _ _ hws), hD2, ?_⟩
      obtain ⟨_, _, acc', W', e1, e2, e3, _⟩ := m2
      rw [hD2] at e1
      cases e1
      rw [e2.length, e3]
      exact Nat.le_refl _
    · rintro i x acc H2 hx ⟨m2, hD2⟩
      have hi : i < p := by have := (List.getElem?_eq_some_iff.mp hx).1; (first | lia | omega)
      obtain ⟨x', hx', bR, ys, rfl, hbR, prR⟩ := paired_at prW (i := i) (by rw [sq.1]; exact hi) []
      have rl := sq.row hi
      rw [hx] at hx'
      cases hx'
      generalize W.getD i [] = Rw at prR rl
      have ysl : ys.length = p := by rw [prR.length, rl]
      refine ⟨rfl, exq rfl ⟨bR, rfl, ⟨_, SqT.of (m2.1 _ _ hbR)⟩, fun E hE => comp_tup (xs := ys) (fun j acc H4 => MadeR H2 E j H4 ∧ H4 E = some (.lst acc)) ⟨.start hE, upd_same⟩ ?_ (dl (Nat.ble_eq.mpr (by (first | lia | omega)))) ?_ ?_⟩⟩
      · rintro j acc4 H4 hj ⟨r4, hE4⟩
        refine ⟨SqT.of (r4.1 _ _ (m2.1 _ _ hbR)), hE4, ?_⟩
        obtain ⟨_, _, acc', W', e1, e2, e3⟩ := r4
        rw [hE4] at e1
        cases e1
        rw [e2.length, e3]
        exact Nat.le_refl _
      · rintro j x4 acc4 H4 hx4 ⟨r4, hE4⟩
        have hj : j < p := by have := (List.getElem?_eq_some_iff.mp hx4).1; (first | lia | omega)
        obtain ⟨c, ec, hc⟩ := RowW.at prR (i := j) (by (first | lia | omega))
        rw [hx4] at ec
        cases ec
        have hc4 := r4.1 _ _ (m2.1 _ _ hc)
        generalize hq : prAt Rw j = qq at hc4
        obtain ⟨q0, q1⟩ := qq
        have nxt : ∀ (o : Option Int) (l : Addr), H4 l = none → upd H4 l (.tup [oV q0, oV o]) E = some (.lst acc4) ∧ MadeR H2 E (j + 1) (upd (upd H4 l (.tup [oV q0, oV o])) E (.lst (acc4 ++ [.ref l]))) ∧ upd (upd H4 l (.tup [oV q0, oV o])) E (.lst (acc4 ++ [.ref l])) E = some (.lst (acc4 ++ [.ref l])) := fun o l hl => by
          obtain ⟨acc, e1, e2, m5⟩ := r4.put (by (first | lia | omega)) (Same.new hl) (q := (q0, o)) upd_same
          have e3 : upd H4 l (.tup [oV q0, oV o]) E = some (.lst acc4) := Same.new hl _ _ hE4
          rw [e3] at e1
          cases e1
          exact ⟨e3, m5, upd_same⟩
        refine ⟨rfl, exq rfl (ixq (SqT.of hc4) (atI_nat (j := 0) rfl) (exq rfl (ixq (SqT.of hc4) (atI_nat (j := 1) rfl) ⟨rfl, exq rfl (?_)⟩)))⟩
        cases q1 with
        | none => exact iteP rfl ⟨dl rfl, fun l hl => nxt none l hl⟩
        | some d => exact iteD (fun z => nomatch z) (exq rfl (ixq (SqT.of hc4) (atI_nat (j := 1) rfl) (exq rfl (ijq ⟨dl rfl, fun l hl => nxt (some (d + y)) l hl⟩))))
      · rintro acc4 H4 ⟨r4, hE4⟩
        refine ⟨E, _, rfl, .inl ⟨SqL.of hE4, fun l hl => ?_⟩⟩
        obtain ⟨accR, R, hE5, rl5, fin⟩ := r4.fin
        rw [hE4] at hE5
        cases hE5
        obtain ⟨f1, f2⟩ := fin l hl
        obtain ⟨acc5, e1, e2, m5⟩ := (m2.go f1).put (by (first | lia | omega)) upd_same f2 (by (first | lia | omega))
        have e3 := f1 _ _ hD2
        rw [e3] at e1
        cases e1
        exact ⟨e3, m5, upd_same⟩
    · rintro acc H2 ⟨m2, hD2⟩
      rw [wsl] at m2
      obtain ⟨acc', W', e1, fin⟩ := m2.fin
      rw [hD2] at e1
      cases e1
      exact ⟨D, _, rfl, .inl ⟨SqL.of hD2, fun l hl => let ⟨f1, f2, f3⟩ := fin l hl; q l W' _ f1 f2 f3⟩⟩
end
def AllW (p : Nat) (H : Hp) (ys : List V) : Prop := ∀ y ∈ ys, ∃ b W, y = .ref b ∧ WorthsAt H b W ∧ Sqr p W
theorem AllW.same {p : Nat} {H H' : Hp} {ys : List V} (h : AllW p H ys) (s : Same H H') : AllW p H' ys := fun y hy => let ⟨b, W, e, w, q⟩ := h y hy; ⟨b, W, e, w.same s, q⟩
def sp_tried (K : PySem.W.Frag) : Sp := fun vs H Q _ => ∃ (w b : Addr) (p : Nat) (ts : List Tie) (W : List (List Pr)) (sc : Addr) (ns : List Int), vs = [.ref w, .ref b, .ref sc] ∧ WebAt H w p ts ∧ GoodWeb p ts ∧ WorthsAt H b W ∧ Sqr p W ∧ SqL K H sc (ns.map V.int) ∧ ∀ l ys H', Same H H' → H' l = some (.lst ys) → AllW p H' ys → Q (.ref l) H'
section
variable {P : Program} {w : World} {K : PySem.W.Frag} {mg : Str → Option Value} {base : Heap} {a : Adr}
theorem G_law_tried (T : Txt K mg a) : FnOk P w K mg base CX0 3 a.f_law_tried a.d_law_tried ["web", "worths", "script"] (sp_tried K) := by
  have G_law_raised : FnOk P w K mg base CX0 1 a.f_law_raised a.d_law_raised ["worths", "more"] sp_raised := G_law_raised T
  have G_law_lowered : FnOk P w K mg base CX0 1 a.f_law_lowered a.d_law_lowered ["web", "worths", "left"] sp_lowered := G_law_lowered T
  have G_law_any : FnOk P w K mg base CX0 2 a.f_law_any a.d_law_any ["web", "left"] sp_any := G_law_any T
  have G_law_left : FnOk P w K mg base CX0 1 a.f_law_left a.d_law_left ["cell", "k", "way"] sp_left := G_law_left T
  have G_law_cell_at : FnOk P w K mg base CX0 1 a.f_law_cell_at a.d_law_cell_at ["script", "k"] (sp_cell K) := G_law_cell_at T
  refine T.F_law_tried.ok sc_law_tried (fun vs H Q E h => ?_) (fun cdv A outer s H vs Q E hr h => ?_)
  · obtain ⟨w, b, p, ts, W, sc, ns, rfl, _⟩ := h
    rfl
  · obtain ⟨wb, b, p, ts, W, sc, ns, rfl, hw, g, hW, sq, hS, q⟩ := h
    refine ⟨_, (@pss_cons _ _ _ _ _ (@ps_set _ _ 3 _ _ _ _ sc_law_tried.nd rfl (Or.inl rfl) (@pe_lst _ _ _ _ (@pa_cons _ _ _ _ _ (pv 1) (@pa_cons _ _ _ _ _ (@pe_call _ _ _ _ _ _ _ _ _ _ _ _ _ _ _ _ G_law_raised (hr.mono (by decide)) (by rfl) T.m_law_raised T.k_law_raised T.b_law_raised .nil pass0 (@pa_cons _ _ _ _ _ (pv 1) (@pa_cons _ _ _ _ _ pe_int pa_nil (by rfl)) (by rfl)) (by decide) (by rfl) (by rfl)) (@pa_cons _ _ _ _ _ (@pe_call _ _ _ _ _ _ _ _ _ _ _ _ _ _ _ _ G_law_raised (hr.mono (by decide)) (by rfl) T.m_law_raised T.k_law_raised T.b_law_raised .nil pass0 (@pa_cons _ _ _ _ _ (pv 1) (@pa_cons _ _ _ _ _ pe_int pa_nil (by rfl)) (by rfl)) (by decide) (by rfl) (by rfl)) pa_nil (by rfl)) (by rfl)) (by rfl))) (by rfl) (by first | exact .inl rfl | exact .inr rfl | assumption)) (@pss_cons _ _ _ _ _ (@ps_for _ _ _ _ _ _ _ _ PassesOwn.never rfl (@pi_range1 _ _ _ _ _ _ (by rfl) T.n_range (@pa_cons _ _ _ _ _ pe_int pa_nil (by rfl)) (by rfl)) (pg_name (i := 4) sc_law_tried.nd rfl (Or.inl rfl)) (@pss_cons _ _ _ _ _ (@ps_set _ _ 5 _ _ _ _ sc_law_tried.nd rfl (Or.inl rfl) (@pe_call _ _ _ _ _ _ _ _ _ _ _ _ _ _ _ _ G_law_cell_at (hr.mono (by decide)) (by rfl) T.m_law_cell_at T.k_law_cell_at T.b_law_cell_at .nil pass0 (@pa_cons _ _ _ _ _ (pv 2) (@pa_cons _ _ _ _ _ (@pe_op _ _ _ _ _ _ _ _ op_add pe_int (pv 4)) pa_nil (by rfl)) (by rfl)) (by decide) (by rfl) (by rfl)) (by rfl) (by first | exact .inl rfl | exact .inr rfl | assumption)) (@pss_one _ _ _ (@ps_set _ _ 3 _ _ _ _ sc_law_tried.nd rfl (Or.inl rfl) (@pe_op _ _ _ _ _ _ _ _ (catL K) (pv 3) (@pe_lst _ _ _ _ (@pa_cons _ _ _ _ _ (@pe_call _ _ _ _ _ _ _ _ _ _ _ _ _ _ _ _ G_law_lowered (hr.mono (by decide)) (by rfl) T.m_law_lowered T.k_law_lowered T.b_law_lowered .nil pass0 (@pa_cons _ _ _ _ _ (pv 0) (@pa_cons _ _ _ _ _ (pv 1) (@pa_cons _ _ _ _ _ (@pe_call _ _ _ _ _ _ _ _ _ _ _ _ _ _ _ _ G_law_left (hr.mono (by decide)) (by rfl) T.m_law_left T.k_law_left T.b_law_left .nil pass0 (@pa_cons _ _ _ _ _ (pv 5) (@pa_cons _ _ _ _ _ (pv 4) (@pa_cons _ _ _ _ _ pe_int pa_nil (by rfl)) (by rfl)) (by rfl)) (by decide) (by rfl) (by rfl)) pa_nil (by rfl)) (by rfl)) (by rfl)) (by decide) (by rfl) (by rfl)) (@pa_cons _ _ _ _ _ (@pe_call _ _ _ _ _ _ _ _ _ _ _ _ _ _ _ _ G_law_any (hr.mono (by decide)) (by rfl) T.m_law_any T.k_law_any T.b_law_any .nil pass0 (@pa_cons _ _ _ _ _ (pv 0) (@pa_cons _ _ _ _ _ (@pe_op _ _ _ _ _ _ _ _ op_add (@pe_op _ _ _ _ _ _ _ _ op_mod (pv 5) (@pe_op _ _ _ _ _ _ _ _ op_pow pe_int pe_int)) (pv 4)) pa_nil (by rfl)) (by rfl)) (by decide) (by rfl) (by rfl)) pa_nil (by rfl)) (by rfl)))) (by rfl) (by first | exact .inl rfl | exact .inr rfl | assumption)))) (by intro _; rfl)) (@pss_one _ _ _ (@ps_ret _ _ _ _ (pv 3))))), ?_⟩
    refine hd_law_tried ?_
    intro zz0 zz1 zz2 zz3
    have wp := g.p2
    refine (exq rfl (exq rfl ⟨b, p, W, _, rfl, hW, sq, wp, fun b1 W1 H1 s1 w1 q1 => ?_⟩))
    refine (exq rfl ⟨b, p, W, _, rfl, hW.same s1, sq, wp, fun b2 W2 H2 s2 w2 q2 => ⟨dl rfl, fun l hl => ?_⟩⟩)
    have s3 : Same H2 (upd H2 l (.lst [.ref b, .ref b1, .ref b2])) := Same.new hl
    have hl3 : upd H2 l (.lst [.ref b, .ref b1, .ref b2]) l = some (.lst [.ref b, .ref b1, .ref b2]) := upd_same
    generalize upd H2 l (.lst [.ref b, .ref b1, .ref b2]) = H3 at s3 hl3
    refine (exq rfl ⟨(by decide), (by decide), ?_⟩)
    refine for_range' (lo := 0) (n := (2 : Int).toNat) (fun i σ H4 => ∃ l v4 v5 ys, σ = [some (.ref wb), some (.ref b), some (.ref sc), some (.ref l), v4, v5] ∧ Same H H4 ∧ H4 l = some (.lst ys) ∧ AllW p H4 ys ∧ ys.length = 3 + 2 * i)
      ⟨l, none, none, _, rfl, (s1.trans s2).trans s3, hl3, fun y hy => ?_, rfl⟩ ?_ ?_
    · have e : y = .ref b ∨ y = .ref b1 ∨ y = .ref b2 := by simpa using hy
      rcases e with e | e | e
      · exact ⟨b, W, e, hW.same ((s1.trans s2).trans s3), sq⟩
      · exact ⟨b1, W1, e, w1.same (s2.trans s3), q1⟩
      · exact ⟨b2, W2, e, w2.same s3, q2⟩
    · rintro i D' σ H4 hi ⟨l, v4, v5, ys, rfl, s4, hl4, all4, yl4⟩
      have hi2 : i < 2 := hi
      rw [Int.zero_add]
      refine (exq rfl (exq rfl (ijq ⟨sc, ns, _, rfl, (by (first | lia | omega)), s4.seq hS, fun zc => ?_⟩)))
      refine (exq rfl (exq rfl (exq rfl (exq rfl (exq rfl ⟨_, _, _, rfl, fun z1 => ?_⟩)))))
      refine ⟨wb, b, p, ts, W, z1, rfl, hw.same s4, g, hW.same s4, sq, fun b5 W5 H5 s5 w5 q5 => ?_⟩
      refine (exq rfl (exq rfl (ijq ⟨⟨by decide, by decide, by decide⟩, ijq ⟨(modC (by decide)), exq rfl (ijq ⟨wb, p, ts, _, rfl, hw.same (s4.trans s5), g, fun b6 W6 H6 s6 w6 q6 => ⟨dl rfl, fun l1 hl1 => ?_⟩⟩)⟩⟩)))
      have s7 : Same H6 (upd H6 l1 (.lst [.ref b5, .ref b6])) := Same.new hl1
      have hl7 : upd H6 l1 (.lst [.ref b5, .ref b6]) l1 = some (.lst [.ref b5, .ref b6]) := upd_same
      generalize upd H6 l1 (.lst [.ref b5, .ref b6]) = H7 at s7 hl7
      have s47 := (s5.trans s6).trans s7
      refine ⟨l, l1, _, _, rfl, rfl, SqL.of (s47 _ _ hl4), SqL.of hl7, dl (Nat.ble_eq.mpr (by show ys.length + 2 ≤ 1000; (first | lia | omega))), fun l2 hl2 => ?_⟩
      have s8 : Same H7 (upd H7 l2 (.lst (ys ++ [.ref b5, .ref b6]))) := Same.new hl2
      refine ⟨l2, _, _, _, rfl, (s4.trans s47).trans s8, upd_same, fun y hy => ?_, by rw [List.length_append, yl4]; show _ + 2 = _; (first | lia | omega)⟩
      rcases List.mem_append.mp hy with hy | hy
      · exact (all4.same (s47.trans s8)) y hy
      · have e : y = .ref b5 ∨ y = .ref b6 := by simpa using hy
        rcases e with e | e
        · exact ⟨b5, W5, e, w5.same ((s6.trans s7).trans s8), q5⟩
        · exact ⟨b6, W6, e, w6.same (s7.trans s8), q6⟩
    · rintro σ H4 ⟨l, v4, v5, ys, rfl, s4, hl4, all4, yl4⟩
      exact (exq rfl (q l ys H4 s4 hl4 all4))
end

def sp_law (K : PySem.W.Frag) : Sp := fun vs H Q _ => ∃ (a : Addr) (ns : List Int), vs = [.ref a] ∧ SqL K H a (ns.map V.int) ∧ ns.length ≤ 63 ∧ ∀ H', Q (.bl true) H'
theorem right_near {p : Nat} {ts : List Tie} {g : GoodWeb p ts} {m : Nat} (hm : m < 2 ^ ts.length) {o : Option Int} (lb : LeastB (netOf p ts g) (lenAt ts) m (2 ^ ts.length) o) {r : Nat} {W : List (List Pr)} (h : RightO p ts g m (.inr ((r : Int), W))) : (netOf p ts g).par r m = true ∧ some (lenOf ts r) = o := by
  obtain ⟨r2, e, hr, rg, ho, st, ns⟩ := h
  have er : r2 = r := by (first | lia | omega)
  subst er
  have hp := (odd_par (g := g) hm).mp ho
  refine ⟨hp, ?_⟩
  cases o with
  | none =>
    have := lb r2 hr rg
    rw [hp] at this
    cases this
  | some d =>
    obtain ⟨⟨r0, h1, h2, h3, h4⟩, h5⟩ := lb
    have l1 : lenOf ts r2 ≤ _ := stands_least st ns h1 h2 h3
    have l2 := h5 r2 hr rg hp
    have e2 := lenOf_lsum hr
    have h4 : RM.lsum (lenAt ts) (fun k => r0.testBit k) ts.length = d := h4
    have l2 : d ≤ RM.lsum (lenAt ts) (fun k => r2.testBit k) ts.length := l2
    rw [show lenOf ts r2 = d by (first | lia | omega)]
theorem near_right {p : Nat} {ts : List Tie} {g : GoodWeb p ts} {m : Nat} (hm : m < 2 ^ ts.length) {o : Option Int} (lb : LeastB (netOf p ts g) (lenAt ts) m (2 ^ ts.length) o) {r : Nat} {W : List (List Pr)} (bw : BestW p ts g m W) (hr : r < 2 ^ ts.length) (rg : (netOf p ts g).Ring r) (h : (netOf p ts g).par r m = true ∧ some (lenOf ts r) = o) : RightO p ts g m (.inr ((r : Int), W)) := by
  obtain ⟨hp, rfl⟩ := h
  exact ⟨r, rfl, hr, rg, (odd_par (g := g) hm).mpr hp, bw.stands, best_none bw fun r2 h2 h3 h4 => lb.2 r2 h2 h3 h4⟩
theorem pow_pos (n : Nat) : (0 : Int) < 2 ^ n := by
  have h : ((2 : Int) ^ n) = ((2 ^ n : Nat) : Int) := by simp
  have := Nat.two_pow_pos n
  (first | lia | omega)
theorem mod_set (z : Int) (n : Nat) : ∃ k : Nat, z % 2 ^ n = (k : Int) ∧ k < 2 ^ n := by
  obtain ⟨h0, h1⟩ := emod2 z (2 ^ n) (pow_pos n)
  refine ⟨(z % 2 ^ n).toNat, by (first | lia | omega), ?_⟩
  have h : ((2 : Int) ^ n) = ((2 ^ n : Nat) : Int) := by simp
  (first | lia | omega)
section
variable {P : Program} {w : World} {K : PySem.W.Frag} {mg : Str → Option Value} {base : Heap} {a : Adr}
theorem G_law (T : Txt K mg a) : FnOk P w K mg base CX0 11 a.f_law a.d_law ["script"] (sp_law K) := by
  have G_law_web : FnOk P w K mg base CX0 2 a.f_law_web a.d_law_web ["script", "most_points", "most_ties"] (sp_web K) := G_law_web T
  have G_law_worths : FnOk P w K mg base CX0 2 a.f_law_worths a.d_law_worths ["web", "marks", "point"] sp_worthsR := G_law_worths T
  have G_law_nearest : FnOk P w K mg base CX0 2 a.f_law_nearest a.d_law_nearest ["web", "marks"] sp_nearest := G_law_nearest T
  have G_law_walk : FnOk P w K mg base CX0 1 a.f_law_walk a.d_law_walk ["web", "some"] sp_law_walk := G_law_walk T
  have G_law_tried : FnOk P w K mg base CX0 3 a.f_law_tried a.d_law_tried ["web", "worths", "script"] (sp_tried K) := G_law_tried T
  have G_law_odd : FnOk P w K mg base CX0 1 a.f_law_odd a.d_law_odd ["number"] sp_lodd := G_law_odd T
  have G_law_length : FnOk P w K mg base CX0 1 a.f_law_length a.d_law_length ["web", "some"] sp_llen := G_law_length T
  have G_law_cut : FnOk P w K mg base CX0 1 a.f_law_cut a.d_law_cut ["web", "side"] sp_lcut := G_law_cut T
  have G_odd_judged : FnOk P w K mg base (CX1 P w) 10 a.f_odd_judged a.d_odd_judged ["web", "marks", "answer"] (sp_odd_judged a.c_BadSet) := G_odd_judged T
  refine T.F_law.ok sc_law (fun vs H Q E h => ?_) (fun cdv A outer s H vs Q E hr h => ?_)
  · obtain ⟨b, ns, rfl, _⟩ := h
    rfl
  · obtain ⟨b, ns, rfl, hS, hn, fin⟩ := h
    refine ⟨_, (@pss_cons _ _ _ _ _ (@ps_asg _ _ _ _ _ _ (@pe_call _ _ _ _ _ _ _ _ _ _ _ _ _ _ _ _ G_law_web (hr.mono (by decide)) (by rfl) T.m_law_web T.k_law_web T.b_law_web .nil pass0 (@pa_cons _ _ _ _ _ (pv 0) (@pa_cons _ _ _ _ _ pe_int (@pa_cons _ _ _ _ _ pe_int pa_nil (by rfl)) (by rfl)) (by rfl)) (by decide) (by rfl) (by rfl)) (@pgT _ _ K _ _ 2 _ rfl (@pgs_cons _ _ _ _ _ (pg_name (i := 1) sc_law.nd rfl (Or.inr rfl)) (@pgs_cons _ _ _ _ _ (pg_name (i := 2) sc_law.nd rfl (Or.inl rfl)) pgs_nil (by rfl)) (by rfl)) (by rfl) (by rfl) (by rfl)) (by rfl) (by rfl) (by rfl)) (@pss_cons _ _ _ _ _ (@ps_set _ _ 3 _ _ _ _ sc_law.nd rfl (Or.inr rfl) (@pe_op _ _ _ _ _ _ _ _ op_mod (pv 2) (@pe_op _ _ _ _ _ _ _ _ op_shl pe_int (@pe_callB _ _ _ _ _ _ _ _ _ (lenK K) (by rfl) T.n_len PySem.boot_len (@pa_cons _ _ _ _ _ (@pe_ix _ _ _ _ _ _ _ (ixT K) (pv 1) pe_int (fun _ _ => rfl)) pa_nil (by rfl)) (by decide) (by decide) (by rfl) (by rfl)))) (by rfl) (by first | exact .inl rfl | exact .inr rfl | assumption)) (@pss_cons _ _ _ _ _ (@ps_set _ _ 4 _ _ _ _ sc_law.nd rfl (Or.inl rfl) (@pe_callTy _ _ _ _ _ _ _ _ _ (tuplK K) (by rfl) T.n_tuple PyProof.Rows.boot_tuple (@pa_cons _ _ _ _ _ (@pe_comp _ _ _ _ _ _ _ ["point"] ["web", "marks"] [1, 3] _ _ _ _ (compText_of (defScope s_law) ["script", "web", "left", "marks", "worths", "least", "rings", "tried", "ring", "near", "some", "k", "side"]) rfl (@pi_range1 _ _ _ _ _ _ (by rfl) T.n_range (@pa_cons _ _ _ _ _ (@pe_ix _ _ _ _ _ _ _ (ixT K) (pv 1) pe_int (fun _ _ => rfl)) pa_nil (by rfl)) (by rfl)) (fun _ _ _ _ => (pg_name (i := 0) (show (["point", "web", "marks"] : List Str).Nodup by decide +kernel) rfl (Or.inl rfl))) (fun _ _ _ _ => pts_nil) (fun _ _ _ _ => (pe_call G_law_worths (hr.mono (by decide)) (by rfl) T.m_law_worths T.k_law_worths T.b_law_worths .nil pass0 (pa_cons (pv 1) (pa_cons (pv 2) (pa_cons (pv 0) pa_nil))))) (by intro _; rfl)) pa_nil (by rfl)) (by decide) (by decide) (by rfl) (by rfl)) (by rfl) (by first | exact .inl rfl | exact .inr rfl | assumption)) (@pss_cons _ _ _ _ _ (@ps_set _ _ 5 _ _ _ _ sc_law.nd rfl (Or.inl rfl) (@pe_call _ _ _ _ _ _ _ _ _ _ _ _ _ _ _ _ G_law_nearest (hr.mono (by decide)) (by rfl) T.m_law_nearest T.k_law_nearest T.b_law_nearest .nil pass0 (@pa_cons _ _ _ _ _ (pv 1) (@pa_cons _ _ _ _ _ (pv 3) pa_nil (by rfl)) (by rfl)) (by decide) (by rfl) (by rfl)) (by rfl) (by first | exact .inl rfl | exact .inr rfl | assumption)) (@pss_cons _ _ _ _ _ (@ps_comp _ _ _ _ _ _ _ ["some"] ["web"] [1] _ _ _ _ 6 _ _ _ sc_law.nd rfl rfl (compText_of (defScope s_law) ["script", "web", "left", "marks", "worths", "least", "rings", "tried", "ring", "near", "some", "k", "side"]) rfl (@pi_range1 _ _ _ _ _ _ (by rfl) T.n_range (@pa_cons _ _ _ _ _ (@pe_op _ _ _ _ _ _ _ _ op_shl pe_int (@pe_callB _ _ _ _ _ _ _ _ _ (lenK K) (by rfl) T.n_len PySem.boot_len (@pa_cons _ _ _ _ _ (@pe_ix _ _ _ _ _ _ _ (ixT K) (pv 1) pe_int (fun _ _ => rfl)) pa_nil (by rfl)) (by decide) (by decide) (by rfl) (by rfl))) pa_nil (by rfl)) (by rfl)) (fun _ _ _ _ => (pg_name (i := 0) (show (["some", "web"] : List Str).Nodup by decide +kernel) rfl (Or.inl rfl))) (fun _ _ _ _ => (pts_one (pt_cmpR op_notN (pe_call G_law_walk (hr.mono (by decide)) (by rfl) T.m_law_walk T.k_law_walk T.b_law_walk .nil pass0 (pa_cons (pv 1) (pa_cons (pv 0) pa_nil))) pe_non (nomark _)))) (fun _ _ _ _ => (pv 0)) (by rfl) (by intro _; rfl)) (@pss_cons _ _ _ _ _ (@ps_set _ _ 7 _ _ _ _ sc_law.nd rfl (Or.inl rfl) (@pe_call _ _ _ _ _ _ _ _ _ _ _ _ _ _ _ _ G_law_tried (hr.mono (by decide)) (by rfl) T.m_law_tried T.k_law_tried T.b_law_tried .nil pass0 (@pa_cons _ _ _ _ _ (pv 1) (@pa_cons _ _ _ _ _ (pv 4) (@pa_cons _ _ _ _ _ (pv 0) pa_nil (by rfl)) (by rfl)) (by rfl)) (by decide) (by rfl) (by rfl)) (by rfl) (by first | exact .inl rfl | exact .inr rfl | assumption)) (@pss_cons _ _ _ _ _ (@ps_for _ _ _ _ _ _ _ _ PassesOwn.never rfl (@piL _ _ _ _ K (pv 6) (by rfl)) (pg_name (i := 8) sc_law.nd rfl (Or.inl rfl)) (@pss_cons _ _ _ _ _ (@ps_set _ _ 9 _ _ _ _ sc_law.nd rfl (Or.inl rfl) (@pe_and _ _ _ _ _ _ _ (@pe_call _ _ _ _ _ _ _ _ _ _ _ _ _ _ _ _ G_law_odd (hr.mono (by decide)) (by rfl) T.m_law_odd T.k_law_odd T.b_law_odd .nil pass0 (@pa_cons _ _ _ _ _ (@pe_op _ _ _ _ _ _ _ _ op_and (pv 8) (pv 3)) pa_nil (by rfl)) (by decide) (by rfl) (by rfl)) (@pe_one _ _ _ _ _ (@pe_cmpR _ _ _ _ _ _ _ _ op_eq (@pe_call _ _ _ _ _ _ _ _ _ _ _ _ _ _ _ _ G_law_length (hr.mono (by decide)) (by rfl) T.m_law_length T.k_law_length T.b_law_length .nil pass0 (@pa_cons _ _ _ _ _ (pv 1) (@pa_cons _ _ _ _ _ (pv 8) pa_nil (by rfl)) (by rfl)) (by decide) (by rfl) (by rfl)) (pv 5) (nomark _)))) (by rfl) (by first | exact .inl rfl | exact .inr rfl | assumption)) (@pss_cons _ _ _ _ _ (@ps_if _ _ _ _ _ _ _ _ (@pt_cmpR _ _ _ _ _ _ _ _ op_ne (@pe_call _ _ _ _ _ _ _ _ _ _ _ _ _ _ _ _ G_odd_judged (hr.mono (by decide)) (by rfl) T.m_odd_judged T.k_odd_judged T.b_odd_judged .nil passN (@pa_cons _ _ _ _ _ (pv 1) (@pa_cons _ _ _ _ _ (pv 3) (@pa_cons _ _ _ _ _ (@pe_tup _ _ _ _ _ (@pa_cons _ _ _ _ _ pe_str (@pa_cons _ _ _ _ _ (pv 8) (@pa_cons _ _ _ _ _ (pv 4) pa_nil (by rfl)) (by rfl)) (by rfl))) pa_nil (by rfl)) (by rfl)) (by rfl)) (by decide) (by rfl) (by rfl)) (pv 9) (nomark _)) (@pss_one _ _ _ (@ps_ret _ _ _ _ pe_bl)) pss_nil) (@pss_one _ _ _ (@ps_for _ _ _ _ _ _ _ _ PassesOwn.never rfl (@piL _ _ _ _ K (pv 7) (by rfl)) (pg_name (i := 10) sc_law.nd rfl (Or.inl rfl)) (@pss_one _ _ _ (@ps_if _ _ _ _ _ _ _ _ (PW.pt (@pw_and _ _ _ _ _ _ _ (@pt_val _ _ _ (@pe_call _ _ _ _ _ _ _ _ _ _ _ _ _ _ _ _ G_odd_judged (hr.mono (by decide)) (by rfl) T.m_odd_judged T.k_odd_judged T.b_odd_judged .nil passN (@pa_cons _ _ _ _ _ (pv 1) (@pa_cons _ _ _ _ _ (pv 3) (@pa_cons _ _ _ _ _ (@pe_tup _ _ _ _ _ (@pa_cons _ _ _ _ _ pe_str (@pa_cons _ _ _ _ _ (pv 8) (@pa_cons _ _ _ _ _ (pv 10) pa_nil (by rfl)) (by rfl)) (by rfl))) pa_nil (by rfl)) (by rfl)) (by rfl)) (by decide) (by rfl) (by rfl)) (by intro _; rfl)) (@pw_and1 _ _ _ _ (@pt_not _ _ _ _ (@pt_val _ _ _ (pv 9) (by intro _; rfl)))))) (@pss_one _ _ _ (@ps_ret _ _ _ _ pe_bl)) pss_nil)) (by intro _; rfl))))) (by intro _; rfl)) (@pss_cons _ _ _ _ _ (@ps_for _ _ _ _ _ _ _ _ PassesOwn.never rfl (@pi_range1 _ _ _ _ _ _ (by rfl) T.n_range (@pa_cons _ _ _ _ _ (@pe_op _ _ _ _ _ _ _ _ op_shl pe_int (@pe_callB _ _ _ _ _ _ _ _ _ (call_min2 rfl) (by rfl) T.n_min PyProof.Rows.boot_min (@pa_cons _ _ _ _ _ pe_int (@pa_cons _ _ _ _ _ (@pe_ix _ _ _ _ _ _ _ (ixT K) (pv 1) pe_int (fun _ _ => rfl)) pa_nil (by rfl)) (by rfl)) (by decide) (by decide) (by rfl) (by rfl))) pa_nil (by rfl)) (by rfl)) (pg_name (i := 11) sc_law.nd rfl (Or.inr rfl)) (@pss_cons _ _ _ _ _ (@ps_comp _ _ _ _ _ _ _ ["point"] ["k"] [11] _ _ _ _ 12 _ _ _ sc_law.nd rfl rfl (compText_of (defScope s_law) ["script", "web", "left", "marks", "worths", "least", "rings", "tried", "ring", "near", "some", "k", "side"]) rfl (@pi_range1 _ _ _ _ _ _ (by rfl) T.n_range (@pa_cons _ _ _ _ _ (@pe_ix _ _ _ _ _ _ _ (ixT K) (pv 1) pe_int (fun _ _ => rfl)) pa_nil (by rfl)) (by rfl)) (fun _ _ _ _ => (pg_name (i := 0) (show (["point", "k"] : List Str).Nodup by decide +kernel) rfl (Or.inl rfl))) (fun _ _ _ _ => (pts_one (pt_cmpR op_eq (pe_op op_mod (pe_op op_shr (pv 1) (pv 0)) pe_int) pe_int (nomark _)))) (fun _ _ _ _ => (pv 0)) (by rfl) (by intro _; rfl)) (@pss_cons _ _ _ _ _ (@ps_if _ _ _ _ _ _ _ _ (@pt_cmpR _ _ _ _ _ _ _ _ op_ne (@pe_call _ _ _ _ _ _ _ _ _ _ _ _ _ _ _ _ G_odd_judged (hr.mono (by decide)) (by rfl) T.m_odd_judged T.k_odd_judged T.b_odd_judged .nil passN (@pa_cons _ _ _ _ _ (pv 1) (@pa_cons _ _ _ _ _ (pv 3) (@pa_cons _ _ _ _ _ (@pe_tup _ _ _ _ _ (@pa_cons _ _ _ _ _ pe_str (@pa_cons _ _ _ _ _ (pv 12) pa_nil (by rfl)) (by rfl))) pa_nil (by rfl)) (by rfl)) (by rfl)) (by decide) (by rfl) (by rfl)) (@pe_cmpR _ _ _ _ _ _ _ _ op_eq (@pe_call _ _ _ _ _ _ _ _ _ _ _ _ _ _ _ _ G_law_cut (hr.mono (by decide)) (by rfl) T.m_law_cut T.k_law_cut T.b_law_cut .nil pass0 (@pa_cons _ _ _ _ _ (pv 1) (@pa_cons _ _ _ _ _ (pv 12) pa_nil (by rfl)) (by rfl)) (by decide) (by rfl) (by rfl)) (pv 3) (nomark _)) (nomark _)) (@pss_one _ _ _ (@ps_ret _ _ _ _ pe_bl)) pss_nil) (@pss_one _ _ _ (@ps_if _ _ _ _ _ _ _ _ (PW.pt (@pw_and _ _ _ _ _ _ _ (@pt_cmpR _ _ _ _ _ _ _ _ op_eq (@pe_call _ _ _ _ _ _ _ _ _ _ _ _ _ _ _ _ G_law_cut (hr.mono (by decide)) (by rfl) T.m_law_cut T.k_law_cut T.b_law_cut .nil pass0 (@pa_cons _ _ _ _ _ (pv 1) (@pa_cons _ _ _ _ _ (pv 12) pa_nil (by rfl)) (by rfl)) (by decide) (by rfl) (by rfl)) (pv 3) (nomark _)) (@pw_and1 _ _ _ _ (@pt_cmpR _ _ _ _ _ _ _ _ op_notN (pv 5) pe_non (nomark _))))) (@pss_one _ _ _ (@ps_ret _ _ _ _ pe_bl)) pss_nil)))) (by intro _; rfl)) (@pss_one _ _ _ (@ps_ret _ _ _ _ pe_bl)))))))))), ?_⟩
    refine hd_law ?_
    intro zz0 zz1 zz2 zz3 zz4 zz5 zz6 zz7 zz8 zz9 zz10 zz11 zz12 zz13 zz14 zz15 zz16 zz17 zz18
    refine (exq rfl ⟨b, ns, 5, 6, rfl, hS, hn, by decide, by decide, by decide, by decide, fun r wb p ts lf H1 s1 g p6 t9 hw hr1 => ?_⟩)
    refine ⟨r, _, rfl, SqT.of hr1, rfl, _, _, rfl, _, _, rfl, rfl, ?_⟩
    obtain ⟨bt, xs, h1, h2, h3⟩ := id hw.ex
    have hxl := h3.length
    have wl := g.len
    have p1 := g.p1
    have pp := pow_pos ts.length
    have epw : (1 : Int) * 2 ^ ((xs.length : Nat) : Int).toNat = 2 ^ ts.length := by rw [Int.toNat_natCast, hxl, Int.one_mul]
    refine (exq rfl (exq rfl (ixq (SqT.of h1) (atI_nat (j := 1) rfl) (lnq rfl (.inr (SqT.of h2)) (ijq ⟨⟨by (first | lia | omega), by (first | lia | omega), by decide⟩, ijq ⟨(by rw [epw]; exact pp), ?_⟩⟩)))))
    dsimp only
    rw [epw]
    obtain ⟨m, hm, hml⟩ := mod_set lf ts.length
    rw [hm]
    refine (exq rfl (ixq (SqT.of h1) (atI_nat (j := 0) rfl) (exq rfl ⟨(by (first | lia | omega)), (by (first | lia | omega)), fun D hD => comp_range (lo := 0) (m := (p : Int).toNat) (fun i acc H2 => Same H1 H2 ∧ H2 D = some (.lst acc) ∧ ∃ W, Paired (RowW H2) acc W ∧ W.length = i ∧ (∀ R ∈ W, R.length = p) ∧ ∀ j, j < i → ∀ x s, x < p → RM.Best (netOf p ts g) (lenAt ts) m j x s (sel (prAt (W.getD j []) x) s)) ⟨Same.new hD, upd_same, [], .nil, rfl, (fun R hR => nomatch hR), (fun j hj => by (first | lia | omega))⟩ ?_ (dl (Nat.ble_eq.mpr (by (first | lia | omega)))) ?_ ?_⟩)))
    · rintro i acc H2 hi ⟨s2, hD2, W, pr2, wl2, _⟩
      exact ⟨hD2, by rw [pr2.length, wl2]; exact Nat.le_refl _⟩
    · rintro i acc H2 hi ⟨s2, hD2, W, pr2, wl2, rr2, bb2⟩
      rw [Int.toNat_natCast] at hi
      rw [Int.zero_add]
      refine ⟨rfl, exq rfl (exq rfl (exq rfl ⟨wb, p, ts, g, m, i, rfl, hw.same s2, hi, fun bb ys R H3 s3 hb pr rl bst => ?_⟩))⟩
      have hD3 := s3 _ _ hD2
      refine ⟨hD3, (s2.trans s3).put hD, upd_same, W ++ [R], Paired.snoc (Paired.imp' (fun _ _ z => z.tups (s3.tups.trans (Tups.put hD3))) pr2) (RowW.tups (Tups.put hD3) ⟨bb, ys, rfl, hb, pr⟩), by rw [List.length_append, List.length_singleton, wl2], fun x hx => ?_, fun j hj x s hx => ?_⟩
      · rcases List.mem_append.mp hx with hx | hx
        · exact rr2 x hx
        · have e : x = R := by simpa using hx
          rw [e, rl]
      · by_cases e : j = i
        · subst e
          have : (W ++ [R]).getD j [] = R := by
            rw [List.getD_eq_getElem?_getD, List.getElem?_append_right (by (first | lia | omega)), wl2, Nat.sub_self]
            rfl
          rw [this]
          exact bst x s hx
        · have : (W ++ [R]).getD j [] = W.getD j [] := by
            rw [List.getD_eq_getElem?_getD, List.getElem?_append_left (by (first | lia | omega)), List.getD_eq_getElem?_getD]
          rw [this]
          exact bb2 j (by (first | lia | omega)) x s hx
    rintro acc H2 ⟨s2, hD2, W, pr2, wl2, rr2, bb2⟩
    rw [Int.toNat_natCast] at wl2 bb2
    have bw : BestW p ts g m W := bb2
    have sqr : Sqr p W := ⟨wl2, rr2⟩
    refine ⟨D, acc, rfl, .inl ⟨SqL.of hD2, fun br hbr => ?_⟩⟩
    have s3 : Same H1 (upd H2 br (.tup acc)) := s2.trans (Same.new hbr)
    have hWr : WorthsAt (upd H2 br (.tup acc)) br W := ⟨acc, upd_same, Paired.imp' (fun _ _ z => z.same (Same.new hbr)) pr2⟩
    generalize upd H2 br (.tup acc) = H3 at s3 hWr
    refine (exq rfl (exq rfl ⟨wb, p, ts, g, m, rfl, hw.same s3, fun o H4 s4 lb => ?_⟩))
    have s14 := s3.trans s4
    have hpw : (1 : Int) * 2 ^ ((xs.length : Nat) : Int).toNat = ((2 ^ ts.length : Nat) : Int) := by rw [shl_int, hxl]
    have big : (2 : Nat) ^ ts.length ≤ 2 ^ 6 := Nat.pow_le_pow_right (by decide) t9
    refine (exq rfl (ixq (SqT.of (s14 _ _ h1)) (atI_nat (j := 1) rfl) (lnq rfl (.inr (SqT.of (s14 _ _ h2))) (ijq ⟨⟨by (first | lia | omega), by (first | lia | omega), by decide⟩, ((2 ^ ts.length : Nat) : Int), congrArg (fun z => [V.int z]) hpw, by (first | lia | omega), by (first | lia | omega), fun L hL => comp_range (lo := 0) (m := (((2 ^ ts.length : Nat) : Int)).toNat) (Pick (fun r => ringB p ts g r) H4 L) (.start hL) (fun i acc H2 _ z => z.len) (Nat.le_of_lt (smallL (by (first | lia | omega)))) ?_ ?_⟩))))
    · intro i acc5 H5 hi pk
      rw [Int.zero_add]
      have hi : i < 2 ^ ts.length := by (first | lia | omega)
      refine ⟨rfl, exq rfl (exq rfl ⟨wb, p, ts, g, _, i, rfl, rfl, hw.same (s14.trans pk.1), hi, fun rg D6 H6 t0 acc6 v0 _ s6 _ _ _ _ => ?_, fun nr H6 s6 => ?_⟩)⟩
      · refine ⟨rfl, exq rfl (iteNd (fun z => nomatch z) (exq rfl (pk.yes hL s6 ((ringB_iff g hi).mpr rg))))⟩
      · refine ⟨rfl, exq rfl (iteNS rfl (pk.no s6 ?_))⟩
        cases hb : ringB p ts g i with
        | false => rfl
        | true => exact absurd ((ringB_iff g hi).mp hb) nr
    intro acc5 H5 pk
    have hL5 := pk.2.1
    rw [pk.2.2, Int.toNat_natCast] at hL5
    have s45 := pk.1
    clear pk
    have s15 := s14.trans s45
    refine (exq rfl (exq rfl (exq rfl ⟨wb, br, p, ts, W, b, ns, rfl, hw.same s15, g, hWr.same (s4.trans s45), sqr, (s1.trans s15).seq hS, fun tr ys H6 s6 htr all6 => ?_⟩)))
    have hw6 := hw.same (s15.trans s6)
    have hWr6 := hWr.same ((s4.trans s45).trans s6)
    have hL6 := s6 _ _ hL5
    have s16 := s15.trans s6
    clear hL5 s45 s15 s14 s4 s3 s2 pr2 hD2
    refine (exq rfl ⟨L, rfl, ⟨_, SqL.of hL6⟩, for_list' (K := K) (a := L) (xs := natsV ((List.range (2 ^ ts.length)).filter fun r => ringB p ts g r)) (fun i σ H7 => ∃ v8 v9 v10, σ = [some (.ref b), some (.ref wb), some (.int lf), some (.int (m : Int)), some (.ref br), some (oV o), some (.ref L), some (.ref tr), v8, v9, v10, none, none] ∧ Same H6 H7) ⟨none, none, none, rfl, Same.refl _⟩ (fun i σ H7 _ ⟨_, _, _, _, z⟩ => SqL.of (z _ _ hL6)) ?_ ?_⟩)
    · rintro i y D' σ H7 hi ⟨v8, v9, v10, rfl, s7⟩
      obtain ⟨r, hri, rfl⟩ := natsV_get hi
      obtain ⟨hr1, hr2⟩ := List.mem_filter.mp (List.mem_of_getElem? hri)
      have hrl := List.mem_range.mp hr1
      have rg := (ringB_iff g hrl).mp hr2
      have cont : ∀ (nb : Bool) (H8 : Hp), Same H6 H8 → (nb = true ↔ ((netOf p ts g).par r m = true ∧ some (lenOf ts r) = o)) → zz11 D' [some (.ref b), some (.ref wb), some (.int lf), some (.int (m : Int)), some (.ref br), some (oV o), some (.ref L), some (.ref tr), some (.int (r : Int)), some (.bl nb), v10, none, none] H8 := fun nb H8 s8 hnb => by
        refine (exq rfl (exq rfl (exq rfl (exq rfl ⟨dl rfl, fun c hc => ?_⟩))))
        have s9 : Same H8 (upd H8 c (.tup [.str "ring", .int (r : Int), .ref br])) := Same.new hc
        have hc9 : upd H8 c (.tup [.str "ring", .int (r : Int), .ref br]) c = some (.tup [.str "ring", .int (r : Int), .ref br]) := upd_same
        generalize upd H8 c (.tup [.str "ring", .int (r : Int), .ref br]) = H9 at s9 hc9
        have s69 := s8.trans s9
        refine ⟨wb, p, ts, g, _, c, .inr ((r : Int), W), rfl, hw6.same s69, ⟨br, hc9, hWr6.same s69, sqr⟩, .inl ⟨m, rfl, hml, fun H10 d s10 hd => ?_⟩⟩
        have hdn : d = nb := by
          rw [Bool.eq_iff_iff, hd, hnb]
          exact ⟨fun h => right_near hml lb h, fun h => near_right hml lb bw hrl rg h⟩
        refine (exq rfl ⟨rfl, exq rfl (iteNS (by rw [hdn]) ?_)⟩)
        have s610 := s69.trans s10
        refine (exq rfl ⟨tr, rfl, ⟨_, SqL.of (s610 _ _ htr)⟩, for_list' (K := K) (a := tr) (xs := ys) (fun i σ H11 => ∃ v10, σ = [some (.ref b), some (.ref wb), some (.int lf), some (.int (m : Int)), some (.ref br), some (oV o), some (.ref L), some (.ref tr), some (.int (r : Int)), some (.bl nb), v10, none, none] ∧ Same H6 H11) (exq rfl (s610)) (fun i σ H11 _ ⟨_, _, z⟩ => SqL.of (z _ _ htr)) ?_ ?_⟩)
        · rintro n y2 D2' σ H11 hn ⟨v10, rfl, s11⟩
          obtain ⟨bw2, W2, rfl, hW2, sq2⟩ := all6 y2 (List.mem_of_getElem? hn)
          refine (exq rfl (exq rfl (exq rfl (exq rfl ⟨dl rfl, fun c2 hc2 => ?_⟩))))
          have s12 : Same H11 (upd H11 c2 (.tup [.str "ring", .int (r : Int), .ref bw2])) := Same.new hc2
          have hc12 : upd H11 c2 (.tup [.str "ring", .int (r : Int), .ref bw2]) c2 = some (.tup [.str "ring", .int (r : Int), .ref bw2]) := upd_same
          generalize upd H11 c2 (.tup [.str "ring", .int (r : Int), .ref bw2]) = H12 at s12 hc12
          have s612 := s11.trans s12
          refine ⟨wb, p, ts, g, _, c2, .inr ((r : Int), W2), rfl, hw6.same s612, ⟨bw2, hc12, hW2.same s612, sq2⟩, .inl ⟨m, rfl, hml, fun H13 d2 s13 hd2 => (exq rfl (?_))⟩⟩
          cases d2 with
          | false => exact iteF (exq rfl (s612.trans s13))
          | true =>
            have e : nb = true := hnb.mpr (right_near hml lb (hd2.mp rfl))
            subst e
            exact iteT (exq rfl (exq rfl (iteF (exq rfl (s612.trans s13)))))
        · rintro σ H11 ⟨v10, rfl, s11⟩
          exact ⟨_, _, _, rfl, s11⟩
      have eb : Builtin.bitAnd ((r : Nat) : Int) (m : Int) = ((r &&& m : Nat) : Int) := and_int r m
      refine (exq rfl (exq rfl (ijq ⟨_, r &&& m, rfl, eb, fun v hv => (exq rfl (?_))⟩)))
      have hv2 : v = (netOf p ts g).par r m := by
        rw [hv ts.length (Nat.lt_of_le_of_lt Nat.and_le_left hrl)]
        exact RM.xsum_congr fun k _ => Nat.testBit_and ..
      cases hv3 : v with
      | false => exact iteF (cont false H7 s7 ⟨(fun z => nomatch z), fun z => by rw [← hv2, hv3] at z; exact z.1⟩)
      | true =>
        refine iteT (exq rfl (exq rfl ⟨wb, p, ts, g, _, r, rfl, rfl, hw6.same s7, hrl, fun H8 s8 => (exq rfl ⟨by cases o <;> rfl, cont _ H8 (s7.trans s8) ?_⟩)⟩))
        rw [decide_eq_true_iff, ← hv2, hv3]
        constructor
        · intro e
          refine ⟨rfl, ?_⟩
          cases o with
          | none => cases e
          | some d => rw [V.int.inj e]
        · rintro ⟨_, e⟩
          rw [← e]
          rfl
    · rintro σ H7 ⟨v8, v9, v10, rfl, s7⟩
      have hw7 := hw6.same s7
      have s17 := s16.trans s7
      have wp5 : p ≤ 5 := p6
      obtain ⟨M, hM, hM4⟩ : ∃ M, min 4 p = M ∧ M ≤ 4 := (exq rfl (Nat.min_le_left 4 p))
      have hmn : (if (p : Int) < 4 then (p : Int) else 4) = (M : Int) := by rw [← hM]; exact min_int 4 p
      have hpm : (1 : Int) * 2 ^ (if (p : Int) < 4 then (p : Int) else 4).toNat = ((2 ^ M : Nat) : Int) := by rw [hmn, shl_int]
      have pp4 := Nat.two_pow_pos M
      have big4 : (2 : Nat) ^ M ≤ 2 ^ 4 := Nat.pow_le_pow_right (by decide) hM4
      refine (exq rfl (ixq (SqT.of (s17 _ _ h1)) (atI_nat (j := 0) rfl) ⟨_, _, rfl, _, _, rfl, rfl, ⟨by (first | lia | omega), by (first | lia | omega), by decide⟩, ((2 ^ M : Nat) : Int), congrArg (fun z => [V.int z]) hpm, by (first | lia | omega), by (first | lia | omega), ?_⟩))
      refine for_range' (lo := 0) (n := (((2 ^ M : Nat) : Int)).toNat) (fun i σ H8 => ∃ v11 v12, σ = [some (.ref b), some (.ref wb), some (.int lf), some (.int (m : Int)), some (.ref br), some (oV o), some (.ref L), some (.ref tr), v8, v9, v10, v11, v12] ∧ Same H7 H8) ⟨none, none, rfl, Same.refl _⟩ ?_ ?_
      · rintro k D' σ H8 hk ⟨v11, v12, rfl, s8⟩
        rw [Int.zero_add]
        have s18 := s17.trans s8
        refine (exq rfl (ixq (SqT.of (s18 _ _ h1)) (atI_nat (j := 0) rfl) (exq rfl ⟨(by (first | lia | omega)), (by (first | lia | omega)), fun C hC => comp_range (lo := 0) (m := (p : Int).toNat) (Pick (fun x => k.testBit x) H8 C) (.start hC) (fun i acc H2 _ pk => pk.len) (small24 (by (first | lia | omega))) ?_ ?_⟩)))
        · intro i acc H9 hi pk
          rw [Int.zero_add]
          refine ⟨rfl, exq rfl (exq rfl (ijq ⟨(by (first | lia | omega)), ijq ⟨(modC rfl), rfl, exq rfl (?_)⟩⟩))⟩
          rw [Int.toNat_natCast, bit_eq, bit_nat]
          cases hb : k.testBit i with
          | true => exact (exq rfl (pk.yes hC (Same.refl _) hb))
          | false => exact pk.no (Same.refl _) hb
        · intro acc H9 pk
          have hC9 : H9 C = some (.lst (natsV ((List.range p).filter fun x => k.testBit x))) := by rw [pk.2.1, pk.2.2, Int.toNat_natCast]
          have sd := side_filter p fun x => k.testBit x
          have s9 := s8.trans pk.1
          generalize (List.range p).filter (fun x => k.testBit x) = side at hC9 sd
          have hlen : side.length ≤ 40 := by
            have := RM.nodup_le (List.Pairwise.imp (fun h => Nat.ne_of_lt h) sd.up) sd.lt
            (first | lia | omega)
          refine (exq rfl (exq rfl (exq rfl ⟨dl rfl, fun c hc => ?_⟩)))
          have s10 : Same H9 (upd H9 c (.tup [.str "side", .ref C])) := Same.new hc
          have hc10 : upd H9 c (.tup [.str "side", .ref C]) c = some (.tup [.str "side", .ref C]) := upd_same
          generalize upd H9 c (.tup [.str "side", .ref C]) = H10 at s10 hc10
          have s710 := s9.trans s10
          have hC10 := s10 _ _ hC9
          refine ⟨wb, p, ts, g, _, c, .inl (side.map fun x => ((x : Nat) : Int)), rfl, hw7.same s710, ⟨C, hc10, by rw [← natsV_ints]; exact hC10, by rw [List.length_map]; exact hlen⟩, .inl ⟨m, rfl, hml, fun H11 d s11 hd => ?_⟩⟩
          have hC11 := s11 _ _ hC10
          have s711 := s710.trans s11
          have hcut : d = decide ((netOf p ts g).cut (fun x => decide (x ∈ side)) = m) := by
            rw [Bool.eq_iff_iff, hd, decide_eq_true_iff]
            constructor
            · rintro ⟨ys2, e, _, hcc⟩
              have e2 : ys2 = side := by
                have := congrArg (List.map Int.toNat) e
                rw [List.map_map, List.map_map] at this
                have h1 : (Int.toNat ∘ fun x => ((x : Nat) : Int)) = id := funext fun x => rfl
                rw [h1, List.map_id, List.map_id] at this
                exact this.symm
              rw [e2] at hcc
              exact hcc
            · intro e
              exact ⟨side, rfl, sd, e⟩
          refine (exq rfl (exq rfl ⟨wb, p, ts, g, C, side, rfl, hw7.same s711, hC11, _, rfl, rfl, rfl, exq rfl (?_)⟩))
          rw [dec_nat, ← hcut]
          refine iteNS rfl ?_
          refine (exq rfl (exq rfl ⟨wb, p, ts, g, C, side, rfl, hw7.same s711, hC11, _, rfl, rfl, exq rfl (?_)⟩))
          rw [dec_nat, ← hcut]
          cases hd2 : d with
          | false => exact iteF ⟨_, _, rfl, s711⟩
          | true =>
            rw [hd2] at hcut
            have ecut := of_decide_eq_true hcut.symm
            have eo : o = none := by
              cases o with
              | none => rfl
              | some x =>
                obtain ⟨⟨r0, _, r2, r3, _⟩, _⟩ := lb
                rw [← ecut, RM.par_cut r2.2.1] at r3
                cases r3
            subst eo
            exact iteT (exq rfl ⟨rfl, exq rfl (iteNS rfl ⟨_, _, rfl, s711⟩)⟩)
      · rintro σ H8 ⟨v11, v12, rfl, s8⟩
        exact fin H8
end

theorem all_mk {l : PySem.W.OpenLaw} {w : World} {K : PySem.W.Frag} {h : Heap} {mg : Str → Option Value} {fa : Addr} (X : K.In h) (G : h.Ns mainGlobals mg) (hfa : mg "law" = some (.ref fa))
    {f0 f1 f2 f3 f4 f5 f6 f7 f8 f9 f10 f11 f12 f13 f14 f15 f16 f17 f18 f19 f20 f21 f22 f23 f24 f25 f26 f27 f28 f29 f30 f31 f32 f33 f34 f35 f36 f37 f38 f39 f40 : Addr} {od0 an0 od1 an1 od2 an2 od3 an3 od4 an4 od5 an5 od6 an6 od7 an7 od8 an8 od9 an9 od10 an10 od11 an11 od12 an12 od13 an13 od14 an14 od15 an15 od16 an16 od17 an17 od18 an18 od19 an19 od20 an20 od21 an21 od22 an22 od23 an23 od24 an24 od25 an25 od26 an26 od27 an27 od28 an28 od29 an29 od30 an30 od31 an31 od32 an32 od33 an33 od34 an34 od35 an35 od36 an36 od37 an37 od38 an38 od39 an39 od40 an40 : Option Addr} {sl0 sl1 sl2 sl3 sl4 sl5 sl6 sl7 sl8 sl9 sl10 sl11 sl12 sl13 sl14 sl15 sl16 sl17 sl18 sl19 sl20 sl21 sl22 sl23 sl24 sl25 sl26 sl27 sl28 sl29 sl30 sl31 sl32 sl33 sl34 sl35 sl36 sl37 sl38 sl39 sl40 : Array (Option Value)}
    {oc0 kV0 dc0 pm0 cd0 ct0 oc1 kV1 dc1 pm1 cd1 ct1 oc2 kV2 dc2 pm2 cd2 ct2 oc3 kV3 dc3 pm3 cd3 ct3 oc4 kV4 dc4 pm4 cd4 ct4 oc5 kV5 dc5 pm5 cd5 ct5 oc6 kV6 dc6 pm6 cd6 ct6 oc7 kV7 dc7 pm7 cd7 ct7 oc8 kV8 dc8 pm8 cd8 ct8 oc9 kV9 dc9 pm9 cd9 ct9 oc10 kV10 dc10 pm10 cd10 ct10 oc11 kV11 dc11 pm11 cd11 ct11 oc12 kV12 dc12 pm12 cd12 ct12 oc13 kV13 dc13 pm13 cd13 ct13 oc14 kV14 dc14 pm14 cd14 ct14 oc15 kV15 dc15 pm15 cd15 ct15 oc16 kV16 dc16 pm16 cd16 ct16 oc17 kV17 dc17 pm17 cd17 ct17 oc18 kV18 dc18 pm18 cd18 ct18 oc19 kV19 dc19 pm19 cd19 ct19 oc20 kV20 dc20 pm20 cd20 ct20 oc21 kV21 dc21 pm21 cd21 ct21 oc22 kV22 dc22 pm22 cd22 ct22 oc23 kV23 dc23 pm23 cd23 ct23 oc24 kV24 dc24 pm24 cd24 ct24 oc25 kV25 dc25 pm25 cd25 ct25 oc26 kV26 dc26 pm26 cd26 ct26 oc27 kV27 dc27 pm27 cd27 ct27 oc28 kV28 dc28 pm28 cd28 ct28 oc29 kV29 dc29 pm29 cd29 ct29 oc30 kV30 dc30 pm30 cd30 ct30 oc31 kV31 dc31 pm31 cd31 ct31 oc32 kV32 dc32 pm32 cd32 ct32 oc33 kV33 dc33 pm33 cd33 ct33 oc34 kV34 dc34 pm34 cd34 ct34 oc35 kV35 dc35 pm35 cd35 ct35 oc36 kV36 dc36 pm36 cd36 ct36 oc37 kV37 dc37 pm37 cd37 ct37 oc38 kV38 dc38 pm38 cd38 ct38 oc39 kV39 dc39 pm39 cd39 ct39 oc40 kV40 dc40 pm40 cd40 ct40 : Value}
    {u_BadSet u_BadPoint : Addr}
    (a0 : PySem.W.nsIn K mainGlobals "has_tie" = some (some (.ref f0)))
    (l0 : K.lookup f0 = some ⟨oc0, od0, .func (PySem.W.fnOf "has_tie" "has_tie" (defArgs s_has_tie) (defBody s_has_tie) (defScope s_has_tie) .none kV0 dc0 pm0 an0 cd0 ct0), sl0⟩)
    (c0 : PySem.W.codeIn K cd0 "has_tie" = true) (k0 : PySem.W.keepIn K (.ref f0) = true)
    (a1 : PySem.W.nsIn K mainGlobals "ties_in" = some (some (.ref f1)))
    (l1 : K.lookup f1 = some ⟨oc1, od1, .func (PySem.W.fnOf "ties_in" "ties_in" (defArgs s_ties_in) (defBody s_ties_in) (defScope s_ties_in) .none kV1 dc1 pm1 an1 cd1 ct1), sl1⟩)
    (c1 : PySem.W.codeIn K cd1 "ties_in" = true) (k1 : PySem.W.keepIn K (.ref f1) = true)
    (a2 : PySem.W.nsIn K mainGlobals "set_of" = some (some (.ref f2)))
    (l2 : K.lookup f2 = some ⟨oc2, od2, .func (PySem.W.fnOf "set_of" "set_of" (defArgs s_set_of) (defBody s_set_of) (defScope s_set_of) .none kV2 dc2 pm2 an2 cd2 ct2), sl2⟩)
    (c2 : PySem.W.codeIn K cd2 "set_of" = true) (k2 : PySem.W.keepIn K (.ref f2) = true)
    (a3 : PySem.W.nsIn K mainGlobals "all_ties" = some (some (.ref f3)))
    (l3 : K.lookup f3 = some ⟨oc3, od3, .func (PySem.W.fnOf "all_ties" "all_ties" (defArgs s_all_ties) (defBody s_all_ties) (defScope s_all_ties) .none kV3 dc3 pm3 an3 cd3 ct3), sl3⟩)
    (c3 : PySem.W.codeIn K cd3 "all_ties" = true) (k3 : PySem.W.keepIn K (.ref f3) = true)
    (a4 : PySem.W.nsIn K mainGlobals "is_set" = some (some (.ref f4)))
    (l4 : K.lookup f4 = some ⟨oc4, od4, .func (PySem.W.fnOf "is_set" "is_set" (defArgs s_is_set) (defBody s_is_set) (defScope s_is_set) .none kV4 dc4 pm4 an4 cd4 ct4), sl4⟩)
    (c4 : PySem.W.codeIn K cd4 "is_set" = true) (k4 : PySem.W.keepIn K (.ref f4) = true)
    (a5 : PySem.W.nsIn K mainGlobals "check_set" = some (some (.ref f5)))
    (l5 : K.lookup f5 = some ⟨oc5, od5, .func (PySem.W.fnOf "check_set" "check_set" (defArgs s_check_set) (defBody s_check_set) (defScope s_check_set) .none kV5 dc5 pm5 an5 cd5 ct5), sl5⟩)
    (c5 : PySem.W.codeIn K cd5 "check_set" = true) (k5 : PySem.W.keepIn K (.ref f5) = true)
    (a6 : PySem.W.nsIn K mainGlobals "triples_in" = some (some (.ref f6)))
    (l6 : K.lookup f6 = some ⟨oc6, od6, .func (PySem.W.fnOf "triples_in" "triples_in" (defArgs s_triples_in) (defBody s_triples_in) (defScope s_triples_in) .none kV6 dc6 pm6 an6 cd6 ct6), sl6⟩)
    (c6 : PySem.W.codeIn K cd6 "triples_in" = true) (k6 : PySem.W.keepIn K (.ref f6) = true)
    (a7 : PySem.W.nsIn K mainGlobals "length_of" = some (some (.ref f7)))
    (l7 : K.lookup f7 = some ⟨oc7, od7, .func (PySem.W.fnOf "length_of" "length_of" (defArgs s_length_of) (defBody s_length_of) (defScope s_length_of) .none kV7 dc7 pm7 an7 cd7 ct7), sl7⟩)
    (c7 : PySem.W.codeIn K cd7 "length_of" = true) (k7 : PySem.W.keepIn K (.ref f7) = true)
    (a8 : PySem.W.nsIn K mainGlobals "odd_points" = some (some (.ref f8)))
    (l8 : K.lookup f8 = some ⟨oc8, od8, .func (PySem.W.fnOf "odd_points" "odd_points" (defArgs s_odd_points) (defBody s_odd_points) (defScope s_odd_points) .none kV8 dc8 pm8 an8 cd8 ct8), sl8⟩)
    (c8 : PySem.W.codeIn K cd8 "odd_points" = true) (k8 : PySem.W.keepIn K (.ref f8) = true)
    (a9 : PySem.W.nsIn K mainGlobals "drawn_together" = some (some (.ref f9)))
    (l9 : K.lookup f9 = some ⟨oc9, od9, .func (PySem.W.fnOf "drawn_together" "drawn_together" (defArgs s_drawn_together) (defBody s_drawn_together) (defScope s_drawn_together) .none kV9 dc9 pm9 an9 cd9 ct9), sl9⟩)
    (c9 : PySem.W.codeIn K cd9 "drawn_together" = true) (k9 : PySem.W.keepIn K (.ref f9) = true)
    (a10 : PySem.W.nsIn K mainGlobals "pieces" = some (some (.ref f10)))
    (l10 : K.lookup f10 = some ⟨oc10, od10, .func (PySem.W.fnOf "pieces" "pieces" (defArgs s_pieces) (defBody s_pieces) (defScope s_pieces) .none kV10 dc10 pm10 an10 cd10 ct10), sl10⟩)
    (c10 : PySem.W.codeIn K cd10 "pieces" = true) (k10 : PySem.W.keepIn K (.ref f10) = true)
    (a11 : PySem.W.nsIn K mainGlobals "is_even" = some (some (.ref f11)))
    (l11 : K.lookup f11 = some ⟨oc11, od11, .func (PySem.W.fnOf "is_even" "is_even" (defArgs s_is_even) (defBody s_is_even) (defScope s_is_even) .none kV11 dc11 pm11 an11 cd11 ct11), sl11⟩)
    (c11 : PySem.W.codeIn K cd11 "is_even" = true) (k11 : PySem.W.keepIn K (.ref f11) = true)
    (a12 : PySem.W.nsIn K mainGlobals "is_ring" = some (some (.ref f12)))
    (l12 : K.lookup f12 = some ⟨oc12, od12, .func (PySem.W.fnOf "is_ring" "is_ring" (defArgs s_is_ring) (defBody s_is_ring) (defScope s_is_ring) .none kV12 dc12 pm12 an12 cd12 ct12), sl12⟩)
    (c12 : PySem.W.codeIn K cd12 "is_ring" = true) (k12 : PySem.W.keepIn K (.ref f12) = true)
    (a13 : PySem.W.nsIn K mainGlobals "is_ring_number" = some (some (.ref f13)))
    (l13 : K.lookup f13 = some ⟨oc13, od13, .func (PySem.W.fnOf "is_ring_number" "is_ring_number" (defArgs s_is_ring_number) (defBody s_is_ring_number) (defScope s_is_ring_number) .none kV13 dc13 pm13 an13 cd13 ct13), sl13⟩)
    (c13 : PySem.W.codeIn K cd13 "is_ring_number" = true) (k13 : PySem.W.keepIn K (.ref f13) = true)
    (a14 : PySem.W.nsIn K mainGlobals "common" = some (some (.ref f14)))
    (l14 : K.lookup f14 = some ⟨oc14, od14, .func (PySem.W.fnOf "common" "common" (defArgs s_common) (defBody s_common) (defScope s_common) .none kV14 dc14 pm14 an14 cd14 ct14), sl14⟩)
    (c14 : PySem.W.codeIn K cd14 "common" = true) (k14 : PySem.W.keepIn K (.ref f14) = true)
    (a15 : PySem.W.nsIn K mainGlobals "bears_oddly" = some (some (.ref f15)))
    (l15 : K.lookup f15 = some ⟨oc15, od15, .func (PySem.W.fnOf "bears_oddly" "bears_oddly" (defArgs s_bears_oddly) (defBody s_bears_oddly) (defScope s_bears_oddly) .none kV15 dc15 pm15 an15 cd15 ct15), sl15⟩)
    (c15 : PySem.W.codeIn K cd15 "bears_oddly" = true) (k15 : PySem.W.keepIn K (.ref f15) = true)
    (a16 : PySem.W.nsIn K mainGlobals "is_side" = some (some (.ref f16)))
    (l16 : K.lookup f16 = some ⟨oc16, od16, .func (PySem.W.fnOf "is_side" "is_side" (defArgs s_is_side) (defBody s_is_side) (defScope s_is_side) .none kV16 dc16 pm16 an16 cd16 ct16), sl16⟩)
    (c16 : PySem.W.codeIn K cd16 "is_side" = true) (k16 : PySem.W.keepIn K (.ref f16) = true)
    (a17 : PySem.W.nsIn K mainGlobals "cut_of" = some (some (.ref f17)))
    (l17 : K.lookup f17 = some ⟨oc17, od17, .func (PySem.W.fnOf "cut_of" "cut_of" (defArgs s_cut_of) (defBody s_cut_of) (defScope s_cut_of) .none kV17 dc17 pm17 an17 cd17 ct17), sl17⟩)
    (c17 : PySem.W.codeIn K cd17 "cut_of" = true) (k17 : PySem.W.keepIn K (.ref f17) = true)
    (a18 : PySem.W.nsIn K mainGlobals "is_side_of" = some (some (.ref f18)))
    (l18 : K.lookup f18 = some ⟨oc18, od18, .func (PySem.W.fnOf "is_side_of" "is_side_of" (defArgs s_is_side_of) (defBody s_is_side_of) (defScope s_is_side_of) .none kV18 dc18 pm18 an18 cd18 ct18), sl18⟩)
    (c18 : PySem.W.codeIn K cd18 "is_side_of" = true) (k18 : PySem.W.keepIn K (.ref f18) = true)
    (a19 : PySem.W.nsIn K mainGlobals "near_enough" = some (some (.ref f19)))
    (l19 : K.lookup f19 = some ⟨oc19, od19, .func (PySem.W.fnOf "near_enough" "near_enough" (defArgs s_near_enough) (defBody s_near_enough) (defScope s_near_enough) .none kV19 dc19 pm19 an19 cd19 ct19), sl19⟩)
    (c19 : PySem.W.codeIn K cd19 "near_enough" = true) (k19 : PySem.W.keepIn K (.ref f19) = true)
    (a20 : PySem.W.nsIn K mainGlobals "tie_stands" = some (some (.ref f20)))
    (l20 : K.lookup f20 = some ⟨oc20, od20, .func (PySem.W.fnOf "tie_stands" "tie_stands" (defArgs s_tie_stands) (defBody s_tie_stands) (defScope s_tie_stands) .none kV20 dc20 pm20 an20 cd20 ct20), sl20⟩)
    (c20 : PySem.W.codeIn K cd20 "tie_stands" = true) (k20 : PySem.W.keepIn K (.ref f20) = true)
    (a21 : PySem.W.nsIn K mainGlobals "worths_stand" = some (some (.ref f21)))
    (l21 : K.lookup f21 = some ⟨oc21, od21, .func (PySem.W.fnOf "worths_stand" "worths_stand" (defArgs s_worths_stand) (defBody s_worths_stand) (defScope s_worths_stand) .none kV21 dc21 pm21 an21 cd21 ct21), sl21⟩)
    (c21 : PySem.W.codeIn K cd21 "worths_stand" = true) (k21 : PySem.W.keepIn K (.ref f21) = true)
    (a22 : PySem.W.nsIn K mainGlobals "none_shorter" = some (some (.ref f22)))
    (l22 : K.lookup f22 = some ⟨oc22, od22, .func (PySem.W.fnOf "none_shorter" "none_shorter" (defArgs s_none_shorter) (defBody s_none_shorter) (defScope s_none_shorter) .none kV22 dc22 pm22 an22 cd22 ct22), sl22⟩)
    (c22 : PySem.W.codeIn K cd22 "none_shorter" = true) (k22 : PySem.W.keepIn K (.ref f22) = true)
    (a23 : PySem.W.nsIn K mainGlobals "ring_stands" = some (some (.ref f23)))
    (l23 : K.lookup f23 = some ⟨oc23, od23, .func (PySem.W.fnOf "ring_stands" "ring_stands" (defArgs s_ring_stands) (defBody s_ring_stands) (defScope s_ring_stands) .none kV23 dc23 pm23 an23 cd23 ct23), sl23⟩)
    (c23 : PySem.W.codeIn K cd23 "ring_stands" = true) (k23 : PySem.W.keepIn K (.ref f23) = true)
    (a24 : PySem.W.nsIn K mainGlobals "odd_judged" = some (some (.ref f24)))
    (l24 : K.lookup f24 = some ⟨oc24, od24, .func (PySem.W.fnOf "odd_judged" "odd_judged" (defArgs s_odd_judged) (defBody s_odd_judged) (defScope s_odd_judged) .none kV24 dc24 pm24 an24 cd24 ct24), sl24⟩)
    (c24 : PySem.W.codeIn K cd24 "odd_judged" = true) (k24 : PySem.W.keepIn K (.ref f24) = true)
    (a25 : PySem.W.nsIn K mainGlobals "_law_cell_at" = some (some (.ref f25)))
    (l25 : K.lookup f25 = some ⟨oc25, od25, .func (PySem.W.fnOf "_law_cell_at" "_law_cell_at" (defArgs s_law_cell_at) (defBody s_law_cell_at) (defScope s_law_cell_at) .none kV25 dc25 pm25 an25 cd25 ct25), sl25⟩)
    (c25 : PySem.W.codeIn K cd25 "_law_cell_at" = true) (k25 : PySem.W.keepIn K (.ref f25) = true)
    (a26 : PySem.W.nsIn K mainGlobals "_law_left" = some (some (.ref f26)))
    (l26 : K.lookup f26 = some ⟨oc26, od26, .func (PySem.W.fnOf "_law_left" "_law_left" (defArgs s_law_left) (defBody s_law_left) (defScope s_law_left) .none kV26 dc26 pm26 an26 cd26 ct26), sl26⟩)
    (c26 : PySem.W.codeIn K cd26 "_law_left" = true) (k26 : PySem.W.keepIn K (.ref f26) = true)
    (a27 : PySem.W.nsIn K mainGlobals "_law_tie" = some (some (.ref f27)))
    (l27 : K.lookup f27 = some ⟨oc27, od27, .func (PySem.W.fnOf "_law_tie" "_law_tie" (defArgs s_law_tie) (defBody s_law_tie) (defScope s_law_tie) .none kV27 dc27 pm27 an27 cd27 ct27), sl27⟩)
    (c27 : PySem.W.codeIn K cd27 "_law_tie" = true) (k27 : PySem.W.keepIn K (.ref f27) = true)
    (a28 : PySem.W.nsIn K mainGlobals "_law_web" = some (some (.ref f28)))
    (l28 : K.lookup f28 = some ⟨oc28, od28, .func (PySem.W.fnOf "_law_web" "_law_web" (defArgs s_law_web) (defBody s_law_web) (defScope s_law_web) .none kV28 dc28 pm28 an28 cd28 ct28), sl28⟩)
    (c28 : PySem.W.codeIn K cd28 "_law_web" = true) (k28 : PySem.W.keepIn K (.ref f28) = true)
    (a29 : PySem.W.nsIn K mainGlobals "_law_walk" = some (some (.ref f29)))
    (l29 : K.lookup f29 = some ⟨oc29, od29, .func (PySem.W.fnOf "_law_walk" "_law_walk" (defArgs s_law_walk) (defBody s_law_walk) (defScope s_law_walk) .none kV29 dc29 pm29 an29 cd29 ct29), sl29⟩)
    (c29 : PySem.W.codeIn K cd29 "_law_walk" = true) (k29 : PySem.W.keepIn K (.ref f29) = true)
    (a30 : PySem.W.nsIn K mainGlobals "_law_least" = some (some (.ref f30)))
    (l30 : K.lookup f30 = some ⟨oc30, od30, .func (PySem.W.fnOf "_law_least" "_law_least" (defArgs s_law_least) (defBody s_law_least) (defScope s_law_least) .none kV30 dc30 pm30 an30 cd30 ct30), sl30⟩)
    (c30 : PySem.W.codeIn K cd30 "_law_least" = true) (k30 : PySem.W.keepIn K (.ref f30) = true)
    (a31 : PySem.W.nsIn K mainGlobals "_law_worths" = some (some (.ref f31)))
    (l31 : K.lookup f31 = some ⟨oc31, od31, .func (PySem.W.fnOf "_law_worths" "_law_worths" (defArgs s_law_worths) (defBody s_law_worths) (defScope s_law_worths) .none kV31 dc31 pm31 an31 cd31 ct31), sl31⟩)
    (c31 : PySem.W.codeIn K cd31 "_law_worths" = true) (k31 : PySem.W.keepIn K (.ref f31) = true)
    (a32 : PySem.W.nsIn K mainGlobals "_law_length" = some (some (.ref f32)))
    (l32 : K.lookup f32 = some ⟨oc32, od32, .func (PySem.W.fnOf "_law_length" "_law_length" (defArgs s_law_length) (defBody s_law_length) (defScope s_law_length) .none kV32 dc32 pm32 an32 cd32 ct32), sl32⟩)
    (c32 : PySem.W.codeIn K cd32 "_law_length" = true) (k32 : PySem.W.keepIn K (.ref f32) = true)
    (a33 : PySem.W.nsIn K mainGlobals "_law_odd" = some (some (.ref f33)))
    (l33 : K.lookup f33 = some ⟨oc33, od33, .func (PySem.W.fnOf "_law_odd" "_law_odd" (defArgs s_law_odd) (defBody s_law_odd) (defScope s_law_odd) .none kV33 dc33 pm33 an33 cd33 ct33), sl33⟩)
    (c33 : PySem.W.codeIn K cd33 "_law_odd" = true) (k33 : PySem.W.keepIn K (.ref f33) = true)
    (a34 : PySem.W.nsIn K mainGlobals "_law_nearest" = some (some (.ref f34)))
    (l34 : K.lookup f34 = some ⟨oc34, od34, .func (PySem.W.fnOf "_law_nearest" "_law_nearest" (defArgs s_law_nearest) (defBody s_law_nearest) (defScope s_law_nearest) .none kV34 dc34 pm34 an34 cd34 ct34), sl34⟩)
    (c34 : PySem.W.codeIn K cd34 "_law_nearest" = true) (k34 : PySem.W.keepIn K (.ref f34) = true)
    (a35 : PySem.W.nsIn K mainGlobals "_law_cut" = some (some (.ref f35)))
    (l35 : K.lookup f35 = some ⟨oc35, od35, .func (PySem.W.fnOf "_law_cut" "_law_cut" (defArgs s_law_cut) (defBody s_law_cut) (defScope s_law_cut) .none kV35 dc35 pm35 an35 cd35 ct35), sl35⟩)
    (c35 : PySem.W.codeIn K cd35 "_law_cut" = true) (k35 : PySem.W.keepIn K (.ref f35) = true)
    (a36 : PySem.W.nsIn K mainGlobals "_law_lowered" = some (some (.ref f36)))
    (l36 : K.lookup f36 = some ⟨oc36, od36, .func (PySem.W.fnOf "_law_lowered" "_law_lowered" (defArgs s_law_lowered) (defBody s_law_lowered) (defScope s_law_lowered) .none kV36 dc36 pm36 an36 cd36 ct36), sl36⟩)
    (c36 : PySem.W.codeIn K cd36 "_law_lowered" = true) (k36 : PySem.W.keepIn K (.ref f36) = true)
    (a37 : PySem.W.nsIn K mainGlobals "_law_any" = some (some (.ref f37)))
    (l37 : K.lookup f37 = some ⟨oc37, od37, .func (PySem.W.fnOf "_law_any" "_law_any" (defArgs s_law_any) (defBody s_law_any) (defScope s_law_any) .none kV37 dc37 pm37 an37 cd37 ct37), sl37⟩)
    (c37 : PySem.W.codeIn K cd37 "_law_any" = true) (k37 : PySem.W.keepIn K (.ref f37) = true)
    (a38 : PySem.W.nsIn K mainGlobals "_law_raised" = some (some (.ref f38)))
    (l38 : K.lookup f38 = some ⟨oc38, od38, .func (PySem.W.fnOf "_law_raised" "_law_raised" (defArgs s_law_raised) (defBody s_law_raised) (defScope s_law_raised) .none kV38 dc38 pm38 an38 cd38 ct38), sl38⟩)
    (c38 : PySem.W.codeIn K cd38 "_law_raised" = true) (k38 : PySem.W.keepIn K (.ref f38) = true)
    (a39 : PySem.W.nsIn K mainGlobals "_law_tried" = some (some (.ref f39)))
    (l39 : K.lookup f39 = some ⟨oc39, od39, .func (PySem.W.fnOf "_law_tried" "_law_tried" (defArgs s_law_tried) (defBody s_law_tried) (defScope s_law_tried) .none kV39 dc39 pm39 an39 cd39 ct39), sl39⟩)
    (c39 : PySem.W.codeIn K cd39 "_law_tried" = true) (k39 : PySem.W.keepIn K (.ref f39) = true)
    (a40 : PySem.W.nsIn K mainGlobals "law" = some (some (.ref f40)))
    (l40 : K.lookup f40 = some ⟨oc40, od40, .func (PySem.W.fnOf "law" "law" (defArgs s_law) (defBody s_law) (defScope s_law) .none kV40 dc40 pm40 an40 cd40 ct40), sl40⟩)
    (c40 : PySem.W.codeIn K cd40 "law" = true) (k40 : PySem.W.keepIn K (.ref f40) = true)
    (z_ValueError : PySem.W.nsIn K mainGlobals "ValueError" = some none)
    (z_abs : PySem.W.nsIn K mainGlobals "abs" = some none)
    (z_all : PySem.W.nsIn K mainGlobals "all" = some none)
    (z_enumerate : PySem.W.nsIn K mainGlobals "enumerate" = some none)
    (z_int : PySem.W.nsIn K mainGlobals "int" = some none)
    (z_len : PySem.W.nsIn K mainGlobals "len" = some none)
    (z_list : PySem.W.nsIn K mainGlobals "list" = some none)
    (z_max : PySem.W.nsIn K mainGlobals "max" = some none)
    (z_min : PySem.W.nsIn K mainGlobals "min" = some none)
    (z_range : PySem.W.nsIn K mainGlobals "range" = some none)
    (z_sum : PySem.W.nsIn K mainGlobals "sum" = some none)
    (z_tuple : PySem.W.nsIn K mainGlobals "tuple" = some none)
    (d_BadSet : PySem.W.nsIn K mainGlobals "BadSet" = some (some (.ref u_BadSet)))
    (d_BadPoint : PySem.W.nsIn K mainGlobals "BadPoint" = some (some (.ref u_BadPoint)))
    (xc_BadSet : PySem.W.excIn K u_BadSet [.type "ValueError", .type "Exception", .type "BaseException", .type "object"] "ValueError.__new__" = true)
    : ∃ fd : FuncData, (∀ (s : Shared) (v : Value), BindsTo s fd ⟨[v], []⟩ [("script", v)]) ∧ ∀ base : Heap, K.In base → base.Ns mainGlobals mg → FnOk l.prog w K mg base CX0 11 fa fd ["script"] (sp_law K) := by
  have e := hfa.symm.trans (PySem.W.mg_of X G a40)
  cases e
  have F0 := fun_mk (st := s_has_tie) l0 c0 k0
  have b0 := F0.binds (ps := ["tie_set", "tie"]) fun _ _ _ _ _ _ us hl => by obtain ⟨_, _, rfl⟩ := len2 us hl; rfl
  have F1 := fun_mk (st := s_ties_in) l1 c1 k1
  have b1 := F1.binds (ps := ["tie_set"]) fun _ _ _ _ _ _ us hl => by obtain ⟨_, rfl⟩ := len1 us hl; rfl
  have F2 := fun_mk (st := s_set_of) l2 c2 k2
  have b2 := F2.binds (ps := ["web", "ties"]) fun _ _ _ _ _ _ us hl => by obtain ⟨_, _, rfl⟩ := len2 us hl; rfl
  have F3 := fun_mk (st := s_all_ties) l3 c3 k3
  have b3 := F3.binds (ps := ["web"]) fun _ _ _ _ _ _ us hl => by obtain ⟨_, rfl⟩ := len1 us hl; rfl
  have F4 := fun_mk (st := s_is_set) l4 c4 k4
  have b4 := F4.binds (ps := ["web", "number"]) fun _ _ _ _ _ _ us hl => by obtain ⟨_, _, rfl⟩ := len2 us hl; rfl
  have F5 := fun_mk (st := s_check_set) l5 c5 k5
  have b5 := F5.binds (ps := ["web", "tie_set"]) fun _ _ _ _ _ _ us hl => by obtain ⟨_, _, rfl⟩ := len2 us hl; rfl
  have F6 := fun_mk (st := s_triples_in) l6 c6 k6
  have b6 := F6.binds (ps := ["web", "tie_set"]) fun _ _ _ _ _ _ us hl => by obtain ⟨_, _, rfl⟩ := len2 us hl; rfl
  have F7 := fun_mk (st := s_length_of) l7 c7 k7
  have b7 := F7.binds (ps := ["web", "tie_set"]) fun _ _ _ _ _ _ us hl => by obtain ⟨_, _, rfl⟩ := len2 us hl; rfl
  have F8 := fun_mk (st := s_odd_points) l8 c8 k8
  have b8 := F8.binds (ps := ["web", "tie_set"]) fun _ _ _ _ _ _ us hl => by obtain ⟨_, _, rfl⟩ := len2 us hl; rfl
  have F9 := fun_mk (st := s_drawn_together) l9 c9 k9
  have b9 := F9.binds (ps := ["leasts", "one", "other"]) fun _ _ _ _ _ _ us hl => by obtain ⟨_, _, _, rfl⟩ := len3 us hl; rfl
  have F10 := fun_mk (st := s_pieces) l10 c10 k10
  have b10 := F10.binds (ps := ["web", "tie_set"]) fun _ _ _ _ _ _ us hl => by obtain ⟨_, _, rfl⟩ := len2 us hl; rfl
  have F11 := fun_mk (st := s_is_even) l11 c11 k11
  have b11 := F11.binds (ps := ["web", "tie_set"]) fun _ _ _ _ _ _ us hl => by obtain ⟨_, _, rfl⟩ := len2 us hl; rfl
  have F12 := fun_mk (st := s_is_ring) l12 c12 k12
  have b12 := F12.binds (ps := ["web", "tie_set"]) fun _ _ _ _ _ _ us hl => by obtain ⟨_, _, rfl⟩ := len2 us hl; rfl
  have F13 := fun_mk (st := s_is_ring_number) l13 c13 k13
  have b13 := F13.binds (ps := ["web", "number"]) fun _ _ _ _ _ _ us hl => by obtain ⟨_, _, rfl⟩ := len2 us hl; rfl
  have F14 := fun_mk (st := s_common) l14 c14 k14
  have b14 := F14.binds (ps := ["one", "other"]) fun _ _ _ _ _ _ us hl => by obtain ⟨_, _, rfl⟩ := len2 us hl; rfl
  have F15 := fun_mk (st := s_bears_oddly) l15 c15 k15
  have b15 := F15.binds (ps := ["tie_set", "marks"]) fun _ _ _ _ _ _ us hl => by obtain ⟨_, _, rfl⟩ := len2 us hl; rfl
  have F16 := fun_mk (st := s_is_side) l16 c16 k16
  have b16 := F16.binds (ps := ["web", "side"]) fun _ _ _ _ _ _ us hl => by obtain ⟨_, _, rfl⟩ := len2 us hl; rfl
  have F17 := fun_mk (st := s_cut_of) l17 c17 k17
  have b17 := F17.binds (ps := ["web", "side"]) fun _ _ _ _ _ _ us hl => by obtain ⟨_, _, rfl⟩ := len2 us hl; rfl
  have F18 := fun_mk (st := s_is_side_of) l18 c18 k18
  have b18 := F18.binds (ps := ["web", "side", "tie_set"]) fun _ _ _ _ _ _ us hl => by obtain ⟨_, _, _, rfl⟩ := len3 us hl; rfl
  have F19 := fun_mk (st := s_near_enough) l19 c19 k19
  have b19 := F19.binds (ps := ["one", "other", "length"]) fun _ _ _ _ _ _ us hl => by obtain ⟨_, _, _, rfl⟩ := len3 us hl; rfl
  have F20 := fun_mk (st := s_tie_stands) l20 c20 k20
  have b20 := F20.binds (ps := ["tie", "turn", "worths"]) fun _ _ _ _ _ _ us hl => by obtain ⟨_, _, _, rfl⟩ := len3 us hl; rfl
  have F21 := fun_mk (st := s_worths_stand) l21 c21 k21
  have b21 := F21.binds (ps := ["web", "marks", "worths"]) fun _ _ _ _ _ _ us hl => by obtain ⟨_, _, _, rfl⟩ := len3 us hl; rfl
  have F22 := fun_mk (st := s_none_shorter) l22 c22 k22
  have b22 := F22.binds (ps := ["worths", "length"]) fun _ _ _ _ _ _ us hl => by obtain ⟨_, _, rfl⟩ := len2 us hl; rfl
  have F23 := fun_mk (st := s_ring_stands) l23 c23 k23
  have b23 := F23.binds (ps := ["web", "marks", "ring", "worths"]) fun _ _ _ _ _ _ us hl => by obtain ⟨_, _, _, _, rfl⟩ := len4 us hl; rfl
  have F24 := fun_mk (st := s_odd_judged) l24 c24 k24
  have b24 := F24.binds (ps := ["web", "marks", "answer"]) fun _ _ _ _ _ _ us hl => by obtain ⟨_, _, _, rfl⟩ := len3 us hl; rfl
  have F25 := fun_mk (st := s_law_cell_at) l25 c25 k25
  have b25 := F25.binds (ps := ["script", "k"]) fun _ _ _ _ _ _ us hl => by obtain ⟨_, _, rfl⟩ := len2 us hl; rfl
  have F26 := fun_mk (st := s_law_left) l26 c26 k26
  have b26 := F26.binds (ps := ["cell", "k", "way"]) fun _ _ _ _ _ _ us hl => by obtain ⟨_, _, _, rfl⟩ := len3 us hl; rfl
  have F27 := fun_mk (st := s_law_tie) l27 c27 k27
  have b27 := F27.binds (ps := ["left", "points", "mode"]) fun _ _ _ _ _ _ us hl => by obtain ⟨_, _, _, rfl⟩ := len3 us hl; rfl
  have F28 := fun_mk (st := s_law_web) l28 c28 k28
  have b28 := F28.binds (ps := ["script", "most_points", "most_ties"]) fun _ _ _ _ _ _ us hl => by obtain ⟨_, _, _, rfl⟩ := len3 us hl; rfl
  have F29 := fun_mk (st := s_law_walk) l29 c29 k29
  have b29 := F29.binds (ps := ["web", "some"]) fun _ _ _ _ _ _ us hl => by obtain ⟨_, _, rfl⟩ := len2 us hl; rfl
  have F30 := fun_mk (st := s_law_least) l30 c30 k30
  have b30 := F30.binds (ps := ["one", "more"]) fun _ _ _ _ _ _ us hl => by obtain ⟨_, _, rfl⟩ := len2 us hl; rfl
  have F31 := fun_mk (st := s_law_worths) l31 c31 k31
  have b31 := F31.binds (ps := ["web", "marks", "point"]) fun _ _ _ _ _ _ us hl => by obtain ⟨_, _, _, rfl⟩ := len3 us hl; rfl
  have F32 := fun_mk (st := s_law_length) l32 c32 k32
  have b32 := F32.binds (ps := ["web", "some"]) fun _ _ _ _ _ _ us hl => by obtain ⟨_, _, rfl⟩ := len2 us hl; rfl
  have F33 := fun_mk (st := s_law_odd) l33 c33 k33
  have b33 := F33.binds (ps := ["number"]) fun _ _ _ _ _ _ us hl => by obtain ⟨_, rfl⟩ := len1 us hl; rfl
  have F34 := fun_mk (st := s_law_nearest) l34 c34 k34
  have b34 := F34.binds (ps := ["web", "marks"]) fun _ _ _ _ _ _ us hl => by obtain ⟨_, _, rfl⟩ := len2 us hl; rfl
  have F35 := fun_mk (st := s_law_cut) l35 c35 k35
  have b35 := F35.binds (ps := ["web", "side"]) fun _ _ _ _ _ _ us hl => by obtain ⟨_, _, rfl⟩ := len2 us hl; rfl
  have F36 := fun_mk (st := s_law_lowered) l36 c36 k36
  have b36 := F36.binds (ps := ["web", "worths", "left"]) fun _ _ _ _ _ _ us hl => by obtain ⟨_, _, _, rfl⟩ := len3 us hl; rfl
  have F37 := fun_mk (st := s_law_any) l37 c37 k37
  have b37 := F37.binds (ps := ["web", "left"]) fun _ _ _ _ _ _ us hl => by obtain ⟨_, _, rfl⟩ := len2 us hl; rfl
  have F38 := fun_mk (st := s_law_raised) l38 c38 k38
  have b38 := F38.binds (ps := ["worths", "more"]) fun _ _ _ _ _ _ us hl => by obtain ⟨_, _, rfl⟩ := len2 us hl; rfl
  have F39 := fun_mk (st := s_law_tried) l39 c39 k39
  have b39 := F39.binds (ps := ["web", "worths", "script"]) fun _ _ _ _ _ _ us hl => by obtain ⟨_, _, _, rfl⟩ := len3 us hl; rfl
  have F40 := fun_mk (st := s_law) l40 c40 k40
  have b40 := F40.binds (ps := ["script"]) fun _ _ _ _ _ _ us hl => by obtain ⟨_, rfl⟩ := len1 us hl; rfl
  have T : Txt K mg ⟨f0, _, f1, _, f2, _, f3, _, f4, _, f5, _, f6, _, f7, _, f8, _, f9, _, f10, _, f11, _, f12, _, f13, _, f14, _, f15, _, f16, _, f17, _, f18, _, f19, _, f20, _, f21, _, f22, _, f23, _, f24, _, f25, _, f26, _, f27, _, f28, _, f29, _, f30, _, f31, _, f32, _, f33, _, f34, _, f35, _, f36, _, f37, _, f38, _, f39, _, fa, _, u_BadSet, u_BadPoint⟩ := ⟨F0, PySem.W.mg_of X G a0, b0, F1, PySem.W.mg_of X G a1, b1, F2, PySem.W.mg_of X G a2, b2, F3, PySem.W.mg_of X G a3, b3, F4, PySem.W.mg_of X G a4, b4, F5, PySem.W.mg_of X G a5, b5, F6, PySem.W.mg_of X G a6, b6, F7, PySem.W.mg_of X G a7, b7, F8, PySem.W.mg_of X G a8, b8, F9, PySem.W.mg_of X G a9, b9, F10, PySem.W.mg_of X G a10, b10, F11, PySem.W.mg_of X G a11, b11, F12, PySem.W.mg_of X G a12, b12, F13, PySem.W.mg_of X G a13, b13, F14, PySem.W.mg_of X G a14, b14, F15, PySem.W.mg_of X G a15, b15, F16, PySem.W.mg_of X G a16, b16, F17, PySem.W.mg_of X G a17, b17, F18, PySem.W.mg_of X G a18, b18, F19, PySem.W.mg_of X G a19, b19, F20, PySem.W.mg_of X G a20, b20, F21, PySem.W.mg_of X G a21, b21, F22, PySem.W.mg_of X G a22, b22, F23, PySem.W.mg_of X G a23, b23, F24, PySem.W.mg_of X G a24, b24, F25, PySem.W.mg_of X G a25, b25, F26, PySem.W.mg_of X G a26, b26, F27, PySem.W.mg_of X G a27, b27, F28, PySem.W.mg_of X G a28, b28, F29, PySem.W.mg_of X G a29, b29, F30, PySem.W.mg_of X G a30, b30, F31, PySem.W.mg_of X G a31, b31, F32, PySem.W.mg_of X G a32, b32, F33, PySem.W.mg_of X G a33, b33, F34, PySem.W.mg_of X G a34, b34, F35, PySem.W.mg_of X G a35, b35, F36, PySem.W.mg_of X G a36, b36, F37, PySem.W.mg_of X G a37, b37, F38, PySem.W.mg_of X G a38, b38, F39, PySem.W.mg_of X G a39, b39, F40, PySem.W.mg_of X G a40, b40, PySem.W.mg_none_of X G z_ValueError, PySem.W.mg_none_of X G z_abs, PySem.W.mg_none_of X G z_all, PySem.W.mg_none_of X G z_enumerate, PySem.W.mg_none_of X G z_int, PySem.W.mg_none_of X G z_len, PySem.W.mg_none_of X G z_list, PySem.W.mg_none_of X G z_max, PySem.W.mg_none_of X G z_min, PySem.W.mg_none_of X G z_range, PySem.W.mg_none_of X G z_sum, PySem.W.mg_none_of X G z_tuple, PySem.W.mg_of X G d_BadSet, PySem.W.mg_of X G d_BadPoint, fun h1 X1 G1 => own_of X1 G1 d_BadSet xc_BadSet⟩
  exact ⟨PySem.W.fnOf "law" "law" (defArgs s_law) (defBody s_law) (defScope s_law) .none kV40 dc40 pm40 an40 cd40 ct40, fun s v => .of_eq rfl, fun base _ _ => G_law T⟩
theorem walk {l : PySem.W.OpenLaw} {q : Program} {loose : List Str} {XP : (Str → Option Value) → Heap → Prop} {YP : World → Heap → Prop} {d : DefRec} {K : Params → PySem.W.Frag} (hn : l.most = some 63) (hdf : d.params.defaults = [])
    (hY : ∀ (w : World) (h : Heap), YP w h → (K w.params).In h)
    (F : ∀ (w : World) (mg : Str → Option Value) (fa : Addr) (h : Heap), (K w.params).In h → h.Ns mainGlobals mg → mg d.name = some (.ref fa) →
      ∃ fd : FuncData, (∀ (s : Shared) (u : Value), BindsTo s fd ⟨[u], []⟩ [("script", u)]) ∧ ∀ base : Heap, (K w.params).In base → base.Ns mainGlobals mg → FnOk l.prog w (K w.params) mg base CX0 11 fa fd ["script"] (sp_law (K w.params))) :
    PySem.W.WalkO q loose XP YP l.row.toRowW d [] (fun f vs => PySem.call f vs) :=
  L2.walk_of (n := 63) (k := 11) (x := "script") (CX := fun _ => CX0) (sp := fun w => sp_law (K w.params)) hn (by decide) hdf ⟨rfl, by decide, by decide⟩ hY F (fun _ _ a ns hl _ hS => ⟨a, ns, rfl, hS, hl, fun _ => rfl⟩) fun _ _ _ _ _ z => z
end K24
def PySem.W.Fast.tw8834223828958189941 : Unit := ()
def PySem.W.Fast.tw2000127121258945094 : Unit := ()
def PySem.W.Fast.tw7529675257792860417 : Unit := ()
def PySem.W.Fast.tw16499397267776110305 : Unit := ()
def PySem.W.Fast.tw15682343883921347587 : Unit := ()
def PySem.W.Fast.tw9444359231811951291 : Unit := ()
def PySem.W.Fast.tw11908304300368444264 : Unit := ()
def PySem.W.Fast.tw5654887284873717199 : Unit := ()
open PySem PySem.W PyProof.Rows
set_option maxRecDepth 100000 in
set_option maxHeartbeats 0 in
theorem PySem.Challenge.cw_ringbase_k24_whole_what_stands_is_right_holds : PySem.Challenge.rw_ringbase_k24_whole_what_stands_is_right.Holds := by
  w_on; o_law; k_head; (case hw => w_witness2)
  k_fill
  refine K24.walk (l := PySem.Challenge.rw_ringbase_k24_whole_what_stands_is_right) rfl rfl (fun w h Y => PySem.W.kIn_of Y) ?F
  case F =>
    intro w mg fa h KX G hmg
    refine' K24.all_mk KX G hmg ?a0 ?l0 ?c0 ?k0 ?a1 ?l1 ?c1 ?k1 ?a2 ?l2 ?c2 ?k2 ?a3 ?l3 ?c3 ?k3 ?a4 ?l4 ?c4 ?k4 ?a5 ?l5 ?c5 ?k5 ?a6 ?l6 ?c6 ?k6 ?a7 ?l7 ?c7 ?k7 ?a8 ?l8 ?c8 ?k8 ?a9 ?l9 ?c9 ?k9 ?a10 ?l10 ?c10 ?k10 ?a11 ?l11 ?c11 ?k11 ?a12 ?l12 ?c12 ?k12 ?a13 ?l13 ?c13 ?k13 ?a14 ?l14 ?c14 ?k14 ?a15 ?l15 ?c15 ?k15 ?a16 ?l16 ?c16 ?k16 ?a17 ?l17 ?c17 ?k17 ?a18 ?l18 ?c18 ?k18 ?a19 ?l19 ?c19 ?k19 ?a20 ?l20 ?c20 ?k20 ?a21 ?l21 ?c21 ?k21 ?a22 ?l22 ?c22 ?k22 ?a23 ?l23 ?c23 ?k23 ?a24 ?l24 ?c24 ?k24 ?a25 ?l25 ?c25 ?k25 ?a26 ?l26 ?c26 ?k26 ?a27 ?l27 ?c27 ?k27 ?a28 ?l28 ?c28 ?k28 ?a29 ?l29 ?c29 ?k29 ?a30 ?l30 ?c30 ?k30 ?a31 ?l31 ?c31 ?k31 ?a32 ?l32 ?c32 ?k32 ?a33 ?l33 ?c33 ?k33 ?a34 ?l34 ?c34 ?k34 ?a35 ?l35 ?c35 ?k35 ?a36 ?l36 ?c36 ?k36 ?a37 ?l37 ?c37 ?k37 ?a38 ?l38 ?c38 ?k38 ?a39 ?l39 ?c39 ?k39 ?a40 ?l40 ?c40 ?k40 ?z_ValueError ?z_abs ?z_all ?z_enumerate ?z_int ?z_len ?z_list ?z_max ?z_min ?z_range ?z_sum ?z_tuple ?d_BadSet ?d_BadPoint ?xc_BadSet
    (case d_BadSet => k_is)
    (case d_BadPoint => k_is)
    (case a0 => k_is)
    (case l0 => k_is)
    (case c0 => k_is)
    (case k0 => k_is)
    (case a1 => k_is)
    (case l1 => k_is)
    (case c1 => k_is)
    (case k1 => k_is)
    (case a2 => k_is)
    (case l2 => k_is)
    (case c2 => k_is)
    (case k2 => k_is)
    (case a3 => k_is)
    (case l3 => k_is)
    (case c3 => k_is)
    (case k3 => k_is)
    (case a4 => k_is)
    (case l4 => k_is)
    (case c4 => k_is)
    (case k4 => k_is)
    (case a5 => k_is)
    (case l5 => k_is)
    (case c5 => k_is)
    (case k5 => k_is)
    (case a6 => k_is)
    (case l6 => k_is)
    (case c6 => k_is)
    (case k6 => k_is)
    (case a7 => k_is)
    (case l7 => k_is)
    (case c7 => k_is)
    (case k7 => k_is)
    (case a8 => k_is)
    (case l8 => k_is)
    (case c8 => k_is)
    (case k8 => k_is)
    (case a9 => k_is)
    (case l9 => k_is)
    (case c9 => k_is)
    (case k9 => k_is)
    (case a10 => k_is)
    (case l10 => k_is)
    (case c10 => k_is)
    (case k10 => k_is)
    (case a11 => k_is)
    (case l11 => k_is)
    (case c11 => k_is)
    (case k11 => k_is)
    (case a12 => k_is)
    (case l12 => k_is)
    (case c12 => k_is)
    (case k12 => k_is)
    (case a13 => k_is)
    (case l13 => k_is)
    (case c13 => k_is)
    (case k13 => k_is)
    (case a14 => k_is)
    (case l14 => k_is)
    (case c14 => k_is)
    (case k14 => k_is)
    (case a15 => k_is)
    (case l15 => k_is)
    (case c15 => k_is)
    (case k15 => k_is)
    (case a16 => k_is)
    (case l16 => k_is)
    (case c16 => k_is)
    (case k16 => k_is)
    (case a17 => k_is)
    (case l17 => k_is)
    (case c17 => k_is)
    (case k17 => k_is)
    (case a18 => k_is)
    (case l18 => k_is)
    (case c18 => k_is)
    (case k18 => k_is)
    (case a19 => k_is)
    (case l19 => k_is)
    (case c19 => k_is)
    (case k19 => k_is)
    (case a20 => k_is)
    (case l20 => k_is)
    (case c20 => k_is)
    (case k20 => k_is)
    (case a21 => k_is)
    (case l21 => k_is)
    (case c21 => k_is)
    (case k21 => k_is)
    (case a22 => k_is)
    (case l22 => k_is)
    (case c22 => k_is)
    (case k22 => k_is)
    (case a23 => k_is)
    (case l23 => k_is)
    (case c23 => k_is)
    (case k23 => k_is)
    (case a24 => k_is)
    (case l24 => k_is)
    (case c24 => k_is)
    (case k24 => k_is)
    (case a25 => k_is)
    (case l25 => k_is)
    (case c25 => k_is)
    (case k25 => k_is)
    (case a26 => k_is)
    (case l26 => k_is)
    (case c26 => k_is)
    (case k26 => k_is)
    (case a27 => k_is)
    (case l27 => k_is)
    (case c27 => k_is)
    (case k27 => k_is)
    (case a28 => k_is)
    (case l28 => k_is)
    (case c28 => k_is)
    (case k28 => k_is)
    (case a29 => k_is)
    (case l29 => k_is)
    (case c29 => k_is)
    (case k29 => k_is)
    (case a30 => k_is)
    (case l30 => k_is)
    (case c30 => k_is)
    (case k30 => k_is)
    (case a31 => k_is)
    (case l31 => k_is)
    (case c31 => k_is)
    (case k31 => k_is)
    (case a32 => k_is)
    (case l32 => k_is)
    (case c32 => k_is)
    (case k32 => k_is)
    (case a33 => k_is)
    (case l33 => k_is)
    (case c33 => k_is)
    (case k33 => k_is)
    (case a34 => k_is)
    (case l34 => k_is)
    (case c34 => k_is)
    (case k34 => k_is)
    (case a35 => k_is)
    (case l35 => k_is)
    (case c35 => k_is)
    (case k35 => k_is)
    (case a36 => k_is)
    (case l36 => k_is)
    (case c36 => k_is)
    (case k36 => k_is)
    (case a37 => k_is)
    (case l37 => k_is)
    (case c37 => k_is)
    (case k37 => k_is)
    (case a38 => k_is)
    (case l38 => k_is)
    (case c38 => k_is)
    (case k38 => k_is)
    (case a39 => k_is)
    (case l39 => k_is)
    (case c39 => k_is)
    (case k39 => k_is)
    (case a40 => k_is)
    (case l40 => k_is)
    (case c40 => k_is)
    (case k40 => k_is)
    (case z_ValueError => k_is)
    (case z_abs => k_is)
    (case z_all => k_is)
    (case z_enumerate => k_is)
    (case z_int => k_is)
    (case z_len => k_is)
    (case z_list => k_is)
    (case z_max => k_is)
    (case z_min => k_is)
    (case z_range => k_is)
    (case z_sum => k_is)
    (case z_tuple => k_is)
    (case xc_BadSet => k_exc)

