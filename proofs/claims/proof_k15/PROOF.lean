import PyProof.Rows.All
import Wide.All
import OpenK.AllK
import Wide.FinOn
import Lean
import PyProof.EqAt
import PyProof.EqKinds
import PyProof.TupleCall
import PySem.Challenge.RW_ringbase_k15_sides_or_rings
set_option Elab.async false
set_option linter.all false
set_option maxRecDepth 100000
namespace L2
open PySem PySem.Spec PyProof.Rows

abbrev Key := Sum Int Str
def keyIs : Key → Value → Bool
  | .inl k, v => Value.isInt k v
  | .inr x, v => Value.isStrOf x v
def keyH (w : World) : Key → Int
  | .inl k => hashInt k
  | .inr x => hashStr w x
theorem keyIs_shape : ∀ {k : Key} {v : Value}, keyIs k v = true → (∃ i t, k = Sum.inl i ∧ v = Value.int i t) ∨ (∃ x t, k = Sum.inr x ∧ v = Value.str x t)
  | .inl i, v, h => by
    obtain ⟨t, e⟩ := Value.isInt_shape (k := i) (v := v) h
    exact .inl ⟨i, t, rfl, e⟩
  | .inr x, v, h => by
    obtain ⟨t, e⟩ := Value.isStrOf_shape (x := x) (v := v) h
    exact .inr ⟨x, t, rfl, e⟩
theorem key_ll (a b : Int) : decide ((Sum.inl a : Key) = Sum.inl b) = (a == b) := by
  by_cases e : a = b
  · subst e; simp
  · have h : ¬ (Sum.inl a : Key) = Sum.inl b := fun q => e (Sum.inl.inj q)
    rw [decide_eq_false h]
    exact (beq_eq_false_iff_ne.mpr e).symm
theorem key_rr (a b : Str) : decide ((Sum.inr a : Key) = Sum.inr b) = decide (a = b) := by
  by_cases e : a = b
  · subst e; simp
  · have h : ¬ (Sum.inr a : Key) = Sum.inr b := fun q => e (Sum.inr.inj q)
    rw [decide_eq_false h, decide_eq_false e]
theorem key_lr (a : Int) (b : Str) : decide ((Sum.inl a : Key) = Sum.inr b) = false := decide_eq_false (fun q => nomatch q)
theorem key_rl (a : Str) (b : Int) : decide ((Sum.inr a : Key) = Sum.inl b) = false := decide_eq_false (fun q => nomatch q)

def mixKind (prog : Program) (w : World) : PySem.KeyKind prog w Key where
  is := keyIs
  hash := keyH w
  inj := fun v a b ha hb => by
    rcases keyIs_shape ha with ⟨i, t, rfl, rfl⟩ | ⟨x, t, rfl, rfl⟩
    · rcases keyIs_shape hb with ⟨j, u, rfl, e⟩ | ⟨y, u, rfl, e⟩
      · injection e with e1 _; rw [e1]
      · exact nomatch e
    · rcases keyIs_shape hb with ⟨j, u, rfl, e⟩ | ⟨y, u, rfl, e⟩
      · exact nomatch e
      · injection e with e1 _; rw [e1]
  byValue := fun k v h => by
    rcases keyIs_shape h with ⟨i, t, rfl, rfl⟩ | ⟨x, t, rfl, rfl⟩ <;> rfl
  pyHash := fun hv h => by
    rcases keyIs_shape hv with ⟨i, t, rfl, rfl⟩ | ⟨x, t, rfl, rfl⟩
    · exact wpAny_pyHash_int h
    · exact wpAny_pyHash_str h
  eqBool := fun hu hv h => by
    rcases keyIs_shape hu with ⟨i, t, rfl, rfl⟩ | ⟨x, t, rfl, rfl⟩
    · rcases keyIs_shape hv with ⟨j, u, rfl, rfl⟩ | ⟨y, u, rfl, rfl⟩
      · rw [key_ll] at h; exact wpAny_eqBool_int h
      · rw [key_lr] at h; exact SeqAt.EqAt.int_str i t y u _ _ _ _ h
    · rcases keyIs_shape hv with ⟨j, u, rfl, rfl⟩ | ⟨y, u, rfl, rfl⟩
      · rw [key_rl] at h; exact SeqAt.EqAt.str_int x t j u _ _ _ _ h
      · rw [key_rr] at h; exact wpAny_eqBool_str h
  «strs» := fun k x t v h => by
    rcases keyIs_shape h with ⟨i, u, rfl, e⟩ | ⟨y, u, rfl, e⟩
    · exact nomatch e
    · injection e with e1 _
      subst e1
      cases v <;> rfl

end L2

namespace L2
open PySem PySem.Spec PyProof.Rows

inductive V where
  | non | bl (b : Bool) | int (i : Int) | str (x : Str) | byt (b : Array UInt8) | flt (b : UInt64) | ref (a : Addr) | ty (n : String)
  deriving DecidableEq

def RelV : V → Value → Prop
  | .non, u => u = Value.none
  | .bl b, u => u = Value.bool b
  | .int i, u => ∃ t, u = Value.int i t
  | .str x, u => ∃ t, u = Value.str x t
  | .byt b, u => ∃ t, u = Value.bytes b t
  | .flt b, u => ∃ t, u = Value.float b t
  | .ref a, u => u = Value.ref a
  | .ty n, u => u = Value.type n

abbrev Vals : List V → List Value → Prop := Paired RelV
theorem Vals.length {xs : List V} {us : List Value} (r : Vals xs us) : xs.length = us.length := Paired.length r
theorem Vals.get : ∀ {xs : List V} {us : List Value} {i : Nat} {x : V}, Vals xs us → xs[i]? = some x → ∃ u, us[i]? = some u ∧ RelV x u
  | _, _, _, _, .nil, e => by simp at e
  | _, _, 0, _, .cons r _, e => by simp at e; subst e; exact ⟨_, rfl, r⟩
  | _, _, i + 1, x, .cons _ t, e => by
    obtain ⟨u, h1, h2⟩ := Vals.get (i := i) (x := x) t (by simpa using e)
    exact ⟨u, by simpa using h1, h2⟩
theorem Vals.append : ∀ {xs ys : List V} {us ws : List Value}, Vals xs us → Vals ys ws → Vals (xs ++ ys) (us ++ ws)
  | _, _, _, _, .nil, s => s
  | _, _, _, _, .cons r t, s => .cons r (Vals.append t s)
theorem Vals.take : ∀ {xs : List V} {us : List Value} (n : Nat), Vals xs us → Vals (xs.take n) (us.take n)
  | _, _, 0, _ => .nil
  | _, _, _ + 1, .nil => .nil
  | _, _, n + 1, .cons r t => .cons r (Vals.take n t)
theorem Vals.drop : ∀ {xs : List V} {us : List Value} (n : Nat), Vals xs us → Vals (xs.drop n) (us.drop n)
  | _, _, 0, r => r
  | _, _, _ + 1, .nil => .nil
  | _, _, n + 1, .cons _ t => Vals.drop n t
def RelO : Option V → Option Value → Prop
  | some v, some u => RelV v u
  | none, none => True
  | _, _ => False
def KV {κ : Type} : List (κ × V) → List (κ × Value) → Prop := Paired fun (p : κ × V) (q : κ × Value) => p.1 = q.1 ∧ RelV p.2 q.2

def kV : Key → V
  | .inl i => .int i
  | .inr x => .str x

inductive HO where
  /-- a list -/
  | lst (xs : List V)
  /-- a tuple (never changes) -/
  | tup (xs : List V)
  /-- a dict whose keys are ints and texts; one whose keys are tuples of ints and texts (the empty one is both) -/
  | dK (kvs : List (Key × V)) | dT (kvs : List (List Key × V))
  /-- a set of ints: its members, its size -/
  | set (S : Int → Bool) (n : Nat)
  /-- an instance of the class at C, its dict at dx, its attributes -/
  | ins (C dx : Addr) (fs : List (Str × V))
  /-- the dict of the instance at x -/
  | own (x : Addr)
  /-- the dict of an exception -/
  | xd (fs : List (Str × V))
  /-- a bound method, f of x -/
  | met (f x : Addr)
  /-- a range object lo, lo + 1, .. below hi -/
  | rng (lo hi : Int)
  /-- a thing that is known to the object (the script; a dict while a loop walks it): read, never written while it is so -/
  | frz (o : Obj) (u : HO)
  /-- a code object's table -/
  | tbl (ps : Array Value)
  /-- any other thing, by what is true of its one object (a def of one's own: SetO a S n := HO.ext fun h => ..) -/
  | ext (φ : Heap → Prop)

abbrev Hp := Addr → Option HO
def upd (H : Hp) (a : Addr) (o : HO) : Hp := fun b => if b = a then some o else H b
theorem upd_same {H : Hp} {a : Addr} {o : HO} : upd H a o a = some o := by unfold upd; rw [if_pos rfl]
theorem upd_ne {H : Hp} {a b : Addr} {o : HO} (h : b ≠ a) : upd H a o b = H b := by unfold upd; rw [if_neg h]
theorem ne_of {H : Hp} {a b : Addr} {o u : HO} (h : H a = some o) (h' : H b = some u) (d : o ≠ u) : a ≠ b := by
  intro e; subst e; rw [h] at h'; exact d (Option.some.inj h')
theorem ne_of_none {H : Hp} {a b : Addr} {o : HO} (h : H a = some o) (h' : H b = none) : a ≠ b := by
  intro e; subst e; rw [h] at h'; cases h'

section
variable (P : Program) (w : World)
def ObjOk (H : Hp) (h : Heap) (a : Addr) : HO → Prop
  | .lst xs => xs.length ≤ sizeLine ∧ ∃ (its : List Value) (n : Nat), Vals xs its ∧ h.get? a = some { cls := .type "list", data := .seq its.toArray n }
  | .tup xs => xs.length ≤ sizeLine ∧ ∃ its : List Value, Vals xs its ∧ IsTup h a its.toArray
  | .dK kvs => kvs.length ≤ sizeLine ∧ (a == sysModules) = false ∧ ∃ vs, KV kvs vs ∧ h.DictOf (mixKind P w) a vs
  | .dT kvs => kvs.length ≤ sizeLine ∧ (a == sysModules) = false ∧ ∃ xs : List (List Key × Addr × Value),
      Paired (fun (p : List Key × V) (q : List Key × Addr × Value) => p.1 = q.1 ∧ H q.2.1 = some (.tup (p.1.map kV)) ∧ RelV p.2 q.2.2) kvs xs ∧
      ∃ o es ep, h.get? a = some o ∧ o.ExactDict ∧ o.data = .dict es ep ∧ es.toList = xs.map (entryOfKey (tupleKind (mixKind P w))) ∧ (xs.map (·.1)).Nodup
  | .set S n => h.SetOf (intKind P w) a S n
  | .ins C dx fs => H dx = some (.own a) ∧ fs.length ≤ 1000 ∧ dx ≠ a ∧ h.get? a = some (PySem.W.instObj C dx) ∧
      ∃ mA, h.Ns1 dx mA ∧ (∀ f, RelO (fs.lookup f) (mA f)) ∧ PySem.Within mA (fs.map (·.1))
  | .own _ => ∃ o, h.get? a = some o
  | .xd fs => ∃ mA, h.Ns1 a mA ∧ ∀ f, RelO (fs.lookup f) (mA f)
  | .rng lo hi => ∃ t u v, h.get? a = some { cls := .type "range", data := .fields #[.int lo t, .int hi u, .int 1 v] }
  | .frz o u => h.get? a = some o ∧ ObjOk H h a u
  | .tbl ps => h.get? a = some { cls := .none, data := .fields ps }
  | .met f x => h.get? a = some (PySem.W.methodObj (.ref f) (.ref x))
  | .ext φ => φ h ∧ (∃ o, h.get? a = some o) ∧ ∀ h1 h2 : Heap, φ h1 → (∀ o, h1.get? a = some o → h2.get? a = some o) → φ h2
def HOk (H : Hp) (h : Heap) : Prop := ∀ a o, H a = some o → ObjOk P w H h a o
end

section
variable {P : Program} {w : World} {H H' : Hp} {h h' : Heap} {a : Addr} {o : HO}
theorem ObjOk.lt (x : ObjOk P w H h a o) : a < h.objs.size := by
  cases o with
  | lst xs => obtain ⟨_, _, _, _, e⟩ := x; exact Heap.lt_size e
  | tup xs => obtain ⟨_, _, _, p⟩ := x; exact p.lt
  | dK kvs => obtain ⟨_, _, _, _, o, _, _, e, _⟩ := x; exact Heap.lt_size e
  | dT kvs => obtain ⟨_, _, _, _, o, _, _, e, _⟩ := x; exact Heap.lt_size e
  | set S n => obtain ⟨o, _, _, _, e, _⟩ := x; exact Heap.lt_size e
  | ins C dx fs => obtain ⟨_, _, _, e, _⟩ := x; exact Heap.lt_size e
  | own y => obtain ⟨_, e⟩ := x; exact Heap.lt_size e
  | xd fs => obtain ⟨_, ⟨_, _, _, e, _⟩, _⟩ := x; exact Heap.lt_size e
  | rng lo hi => obtain ⟨_, _, _, e⟩ := x; exact Heap.lt_size e
  | frz ob u => obtain ⟨e, _⟩ := x; exact Heap.lt_size e
  | tbl ps => exact Heap.lt_size (show h.get? a = some _ from x)
  | met f y => exact Heap.lt_size (show h.get? a = some _ from x)
  | ext φ => obtain ⟨_, ⟨_, e⟩, _⟩ := x; exact Heap.lt_size e
theorem Paired.mapP {α β : Type} {F G : α → β → Prop} : ∀ {l₁ : List α} {l₂ : List β}, Paired F l₁ l₂ → (∀ a b, F a b → G a b) → Paired G l₁ l₂
  | _, _, .nil, _ => .nil
  | _, _, .cons r t, f => .cons (f _ _ r) (Paired.mapP t f)
theorem Paired.imp' {α β : Type} {F G : α → β → Prop} (f : ∀ a b, F a b → G a b) {l₁ : List α} {l₂ : List β} (r : Paired F l₁ l₂) : Paired G l₁ l₂ := Paired.mapP r f
theorem ObjOk.stay (x : ObjOk P w H h a o) (k : ∀ b u, (b = a ∨ H b = some (.own a)) → h.get? b = some u → h'.get? b = some u)
    (ho : ∀ b, H b = some (.own a) → H' b = some (.own a)) (ht : ∀ b xs, H b = some (.tup xs) → H' b = some (.tup xs)) : ObjOk P w H' h' a o := by
  induction o with
  | lst xs => obtain ⟨z, its, n, r, e⟩ := x; exact ⟨z, its, n, r, k _ _ (.inl rfl) e⟩
  | tup xs => obtain ⟨z, its, r, ob, e, c⟩ := x; exact ⟨z, its, r, ob, k _ _ (.inl rfl) e, c⟩
  | dK kvs => obtain ⟨z, y, vs, r, ob, es, ep, e, c⟩ := x; exact ⟨z, y, vs, r, ob, es, ep, k _ _ (.inl rfl) e, c⟩
  | dT kvs =>
    obtain ⟨z, y, xs, r, ob, es, ep, e, c⟩ := x
    exact ⟨z, y, xs, Paired.mapP r fun p q z => ⟨z.1, ht _ _ z.2.1, z.2.2⟩, ob, es, ep, k _ _ (.inl rfl) e, c⟩
  | set S n => obtain ⟨ob, es, ep, t, e, c⟩ := x; exact ⟨ob, es, ep, t, k _ _ (.inl rfl) e, c⟩
  | ins C dx fs =>
    obtain ⟨d, z, ne, e, mA, ⟨od, es, ep, e2, c⟩, r⟩ := x
    exact ⟨ho _ d, z, ne, k _ _ (.inl rfl) e, mA, ⟨od, es, ep, k _ _ (.inr d) e2, c⟩, r⟩
  | own y => obtain ⟨ob, e⟩ := x; exact ⟨ob, k _ _ (.inl rfl) e⟩
  | xd fs => obtain ⟨mA, ⟨od, es, ep, e, c⟩, r⟩ := x; exact ⟨mA, ⟨od, es, ep, k _ _ (.inl rfl) e, c⟩, r⟩
  | rng lo hi => obtain ⟨t, u, v, e⟩ := x; exact ⟨t, u, v, k _ _ (.inl rfl) e⟩
  | frz ob u ih => obtain ⟨e, q⟩ := x; exact ⟨k _ _ (.inl rfl) e, ih q⟩
  | tbl ps =>
    have e : h.get? a = some { cls := .none, data := .fields ps } := x
    show h'.get? a = some { cls := .none, data := .fields ps }
    exact k a _ (.inl rfl) e
  | met f y =>
    have e : h.get? a = some (PySem.W.methodObj (.ref f) (.ref y)) := x
    show h'.get? a = some (PySem.W.methodObj (.ref f) (.ref y))
    exact k a _ (.inl rfl) e
  | ext φ => obtain ⟨p, ⟨o, e⟩, st⟩ := x; exact ⟨st _ _ p fun o q => k _ _ (.inl rfl) q, ⟨o, k _ _ (.inl rfl) e⟩, st⟩
theorem HOk.lt (x : HOk P w H h) (e : H a = some o) : a < h.objs.size := (x a o e).lt
theorem HOk.fresh (x : HOk P w H h) (e : h.objs.size ≤ a) : H a = none := by
  cases q : H a with
  | none => rfl
  | some u => exact absurd (Nat.lt_of_lt_of_le (x.lt q) e) (Nat.lt_irrefl _)
theorem HOk.kept (x : HOk P w H h) (k : ∀ b u, h.get? b = some u → h'.get? b = some u) : HOk P w H h' := fun a o e =>
  (x a o e).stay (fun b u _ q => k b u q) (fun _ q => q) fun _ _ q => q
theorem HOk.laid (x : HOk P w H h) (k : ∀ b u, h.get? b = some u → h'.get? b = some u) (hp : h.objs.size ≤ a) (new : ObjOk P w (upd H a o) h' a o) : HOk P w (upd H a o) h' := fun b u e => by
  have hn := x.fresh hp
  by_cases hb : b = a
  · subst hb; rw [upd_same] at e; cases e; exact new
  · rw [upd_ne hb] at e
    exact (x b u e).stay (fun c v _ q => k c v q) (fun c q => by rw [upd_ne (ne_of_none q hn)]; exact q) fun c xs q => by rw [upd_ne (ne_of_none q hn)]; exact q
end

def Rd (H : Hp) (a : Addr) (u : HO) : Prop := H a = some u ∨ ∃ o, H a = some (.frz o u)
theorem Rd.ok {P : Program} {w : World} {H : Hp} {h : Heap} {a : Addr} {u : HO} (r : Rd H a u) (x : HOk P w H h) : ObjOk P w H h a u := by
  rcases r with r | ⟨o, r⟩
  · exact x a u r
  · obtain ⟨_, q⟩ := x a _ r
    exact q
def Mut : Option HO → Prop
  | some (.lst _) => True
  | some (.dK _) => True
  | some (.dT _) => True
  | some (.set _ _) => True
  | some (.ins _ _ _) => True
  | some (.ext _) => True
  | _ => False
section
variable {P : Program} {w : World} {H : Hp} {h h' : Heap} {x e : Addr} {o' : HO}
theorem HOk.write (ok : HOk P w H h) (mu : Mut (H x)) (he : e = x ∨ H e = some (.own x)) (k : ∀ b u, b ≠ e → h.get? b = some u → h'.get? b = some u) (heo : ∃ u, h'.get? e = some u)
    (new : ObjOk P w (upd H x o') h' x o') : HOk P w (upd H x o') h' := fun b u q => by
  have nown : ∀ c y, H c = some (.own y) → c ≠ x := fun c y r z => by subst z; rw [r] at mu; exact mu
  have ntup : ∀ c xs, H c = some (.tup xs) → c ≠ x := fun c xs r z => by subst z; rw [r] at mu; exact mu
  by_cases hb : b = x
  · subst hb; rw [upd_same] at q; cases q; exact new
  · rw [upd_ne hb] at q
    by_cases hbe : b = e
    · have q' : H b = some (.own x) := by
        rcases he with z | z
        · exact absurd (hbe.trans z) hb
        · rw [hbe]; exact z
      rw [q] at q'; cases q'
      obtain ⟨v, hv⟩ := heo
      exact ⟨v, by rw [hbe]; exact hv⟩
    · refine (ok b u q).stay (fun c v hc r => k c v ?_ r) (fun c r => by rw [upd_ne (nown c b r)]; exact r) fun c xs r => by rw [upd_ne (ntup c xs r)]; exact r
      rcases hc with rfl | hc
      · exact hbe
      · rintro rfl
        rcases he with z | z
        · exact nown c b hc z
        · rw [hc] at z; cases z; exact hb rfl
end

structure Un (fs ex : List Addr) (H H' : Hp) (h h' : Heap) : Prop where
  keep : ∀ b o, h.get? b = some o → H b = none → b ∉ fs → b ∉ ex → h'.get? b = some o
  slot : ∀ b o, h.get? b = some o → H b = none → b ∈ fs → b ∉ ex → ∃ sl, h'.get? b = some { o with slots := sl }
  free : ∀ b o, h.get? b = some o → H b = none → b ∉ ex → H' b = none
  there : ∀ b o, h.get? b = some o → b ∉ ex → ∃ o', h'.get? b = some o'
  tups : ∀ b xs, H b = some (.tup xs) → H' b = some (.tup xs)
  frzs : ∀ b o u, H b = some (.frz o u) → H' b = some (.frz o u)
  tbls : ∀ b ps, H b = some (.tbl ps) → ∃ more, H' b = some (.tbl (ps ++ more))
section
variable {fs fs' ex ex' : List Addr} {H H1 H2 : Hp} {h h1 h2 h' : Heap} {a x e : Addr} {o : HO}
theorem Un.any (u : Un fs ex H H1 h h1) {b : Addr} {ob : Obj} (q : h.get? b = some ob) (n : H b = none) (hx : b ∉ ex) : ∃ sl, h1.get? b = some { ob with slots := sl } := by
  by_cases hb : b ∈ fs
  · exact u.slot b ob q n hb hx
  · exact ⟨ob.slots, u.keep b ob q n hb hx⟩
theorem Un.kept (k : ∀ b u, h.get? b = some u → h'.get? b = some u) : Un fs ex H H h h' :=
  ⟨fun b ob q _ _ _ => k b ob q, fun b ob q _ _ _ => ⟨ob.slots, k b ob q⟩, fun _ _ _ n _ => n, fun b ob q _ => ⟨ob, k b ob q⟩, fun _ _ q => q, fun _ _ _ q => q, fun _ ps q => ⟨#[], by rw [q]; simp⟩⟩
theorem Un.refl : Un fs ex H H h h := Un.kept fun _ _ q => q
theorem Un.laid (k : ∀ b u, h.get? b = some u → h'.get? b = some u) (hp : h.objs.size ≤ a) (hn : H a = none) : Un fs ex H (upd H a o) h h' where
  keep := fun b u q _ _ _ => k b u q
  slot := fun b u q _ _ _ => ⟨u.slots, k b u q⟩
  free := fun b u q n _ => by rw [upd_ne (Nat.ne_of_lt (Nat.lt_of_lt_of_le (Heap.lt_size q) hp))]; exact n
  there := fun b u q _ => ⟨u, k b u q⟩
  tups := fun b xs q => by rw [upd_ne (ne_of_none q hn)]; exact q
  frzs := fun b u xs q => by rw [upd_ne (ne_of_none q hn)]; exact q
  tbls := fun b ps q => ⟨#[], by rw [upd_ne (ne_of_none q hn), q]; simp⟩
theorem Un.write (mu : Mut (H x)) (he : e = x ∨ H e = some (.own x)) (k : ∀ b u, b ≠ e → h.get? b = some u → h'.get? b = some u) (heo : ∃ u, h'.get? e = some u) : Un fs ex H (upd H x o) h h' := by
  have hx : ∀ b, H b = none → b ≠ x := fun b n z => by subst z; rw [n] at mu; exact mu
  have hb : ∀ b, H b = none → b ≠ e := fun b n z => by
    subst z
    rcases he with r | r
    · exact hx b n r
    · rw [n] at r; cases r
  have hm : ∀ b u, H b = some u → ¬ Mut (some u) → b ≠ x := fun b u q nm z => by subst z; rw [q] at mu; exact nm mu
  refine ⟨fun b u q n _ _ => k b u (hb b n) q, fun b u q n _ _ => ⟨u.slots, k b u (hb b n) q⟩, fun b u q n _ => by rw [upd_ne (hx b n)]; exact n, fun b u q _ => ?_,
    fun b xs q => by rw [upd_ne (hm b _ q fun z => z)]; exact q, fun b u xs q => by rw [upd_ne (hm b _ q fun z => z)]; exact q, fun b ps q => ⟨#[], by rw [upd_ne (hm b _ q fun z => z), q]; simp⟩⟩
  by_cases hbe : b = e
  · subst hbe; exact heo
  · exact ⟨u, k b u hbe q⟩
end

def trk (h : Heap) (H : Hp) : List Addr := (List.range h.objs.size).filter fun a => (H a).isSome
def hidT (h : Heap) (H : Hp) : Heap := PySem.W.hideAll h (trk h H)
theorem hidT_size (h : Heap) (H : Hp) : (hidT h H).objs.size = h.objs.size := PySem.W.hideAll_size _ _
theorem hidT_get {h : Heap} {H : Hp} {b : Addr} {o : Obj} (e : h.get? b = some o) (n : H b = none) : (hidT h H).get? b = some o :=
  PySem.W.hideAll_get _ e fun hm => by
    have q : (H b).isSome = true := (List.mem_filter.mp hm).2
    rw [n] at q; simp at q
theorem of_hidT {h : Heap} {H : Hp} {b : Addr} {o : Obj} (e : (hidT h H).get? b = some o) : h.get? b = some o ∧ H b = none := by
  have e' : h.get? b = some o := PySem.W.of_hideAll (trk h H) e
  refine ⟨e', ?_⟩
  cases q : H b with
  | none => rfl
  | some x =>
    have hm : b ∈ trk h H := List.mem_filter.mpr ⟨List.mem_range.mpr (Heap.lt_size e'), by simp [q]⟩
    have z : (hidT h H).get? b = none := PySem.W.hideAll_none (trk h H) hm
    rw [z] at e; cases e

end L2

namespace L2
open PySem PySem.Spec PyProof.Rows

structure Mod (K : PySem.W.Frag) (mg : Str → Option Value) (base : Heap) : Prop where
  kin : K.In base
  glob : base.Ns mainGlobals mg
  blt : ∃ mb, base.Ns builtinsNs mb ∧ ∀ x : Str, x ≠ "__name__" → mb x = bootBuiltins x
  nolimit : base.NoLimit

structure Cx where
  prog : Program
  w : World
  K : PySem.W.Frag
  mg : Str → Option Value
  base : Heap
  A : Around
  N : List Str
  s₀ : Shared
  H₀ : Hp
  env : Env
  outer : List Env
  stack : List Env
  ex : List Addr
  fn : Str → Bool
  calm : Bool
  pn : List (Addr × Obj)
  xe : Value → Shared → Prop
def frs (l : List Env) : List Addr := l.filterMap (·.frame)
abbrev Cx.fs (X : Cx) : List Addr := frs X.outer

def Vis (sc : Scope) (x : Str) : Prop := sc.names.lookup x = some .local ∨ sc.names.lookup x = some .cell ∨ sc.names.lookup x = some .free
def Loc (sc : Scope) (x : Str) : Prop := sc.names.lookup x = some .local ∨ sc.names.lookup x = some .cell
def Look (env : Env) (h : Heap) (m : Str → Option Value) (x : Str) (u : Value) : Prop :=
  (env.kindOf x = some .local ∧ m x = some u) ∨ ((env.kindOf x = some .cell ∨ env.kindOf x = some .free) ∧ ∃ c, env.cells.lookup x = some c ∧ h.IsCell c (some u))

structure Cx.Ok (X : Cx) : Prop where
  mod : Mod X.K X.mg X.base
  kind : X.env.scope.kind = .function
  glob : X.env.globals = mainGlobals
  blt : X.env.builtins = builtinsNs
  above : X.s₀.heap.objs.size ≤ X.env.locals
  inj : ∀ x y c, X.env.cells.lookup x = some c → X.env.cells.lookup y = some c → x = y
  has : ∀ x, (X.env.kindOf x = some .cell ∨ X.env.kindOf x = some .free) → ∃ c, X.env.cells.lookup x = some c
  cab : ∀ x c, X.fn x = true → X.env.cells.lookup x = some c → X.s₀.heap.objs.size ≤ c
  hd : X.calm = true → X.A.handled = none
  frames : X.A.frames = some X.stack
  stk : X.stack = X.outer ∨ (X.stack = X.env :: X.outer ∧ X.env.frame = some X.env.locals)
  exf : ∀ b ∈ X.ex, b ≠ X.env.locals ∧ ∀ x c, X.env.cells.lookup x = some c → c ≠ b
  bs : ∀ b o, X.base.get? b = some o → X.s₀.heap.get? b = some o ∧ X.H₀ b = none
  bsz : X.base.objs.size ≤ X.s₀.heap.objs.size
  noex : ∀ b o, X.base.get? b = some o → b ∉ X.ex
  exfs : ∀ b ∈ X.ex, b ∉ X.fs
  funs : X.s₀.heap.FunFrames X.base X.outer
  frf : ∀ b ∈ X.fs, X.H₀ b = none

structure Inv (X : Cx) (pins : List (Addr × Obj)) (σ : List (Option V)) (H : Hp) (s : Shared) : Prop where
  ok : X.Ok
  os : s.os = X.s₀.os
  bare : AllBare s.gens
  base : Un X.fs X.ex X.H₀ H X.s₀.heap s.heap
  loc : ∃ m, s.heap.Ns X.env.locals m ∧ ∀ (i : Nat) (x : Str) (v : V), X.N[i]? = some x → σ[i]? = some (some v) → Vis X.env.scope x → ∃ u, RelV v u ∧ Look X.env s.heap m x u
  cell : ∀ x c, X.env.cells.lookup x = some c → ∃ v, s.heap.IsCell c v
  free : H X.env.locals = none
  freeC : ∀ x c, X.env.cells.lookup x = some c → H c = none
  pin : ∀ p ∈ X.pn ++ pins, s.heap.get? p.1 = some p.2 ∧ H p.1 = none ∧ p.1 ≠ X.env.locals ∧ p.1 ∉ X.fs ∧ ∀ v, p.2.data ≠ .cell v
  hok : HOk X.prog X.w H s.heap
  len : σ.length = X.N.length

section
variable {X : Cx} {pins : List (Addr × Obj)} {σ : List (Option V)} {H H' : Hp} {s : Shared} {h' : Heap}

theorem Cx.Ok.nofr (ok : X.Ok) {b : Addr} {o : Obj} (e : X.base.get? b = some o) : b ∉ X.fs := fun hb => by
  have := (ok.funs.mem hb).1
  rw [e] at this; cases this
theorem Inv.bs (I : Inv X pins σ H s) : ∀ b o, X.base.get? b = some o → s.heap.get? b = some o ∧ H b = none := fun b o e =>
  ⟨I.base.keep b o (I.ok.bs b o e).1 (I.ok.bs b o e).2 (I.ok.nofr e) (I.ok.noex b o e), I.base.free b o (I.ok.bs b o e).1 (I.ok.bs b o e).2 (I.ok.noex b o e)⟩
theorem Inv.bk (I : Inv X pins σ H s) : ∀ b o, X.base.get? b = some o → s.heap.get? b = some o := fun b o e => (I.bs b o e).1
theorem Inv.mod (I : Inv X pins σ H s) : Mod X.K X.mg X.base := I.ok.mod
theorem Inv.kIn (I : Inv X pins σ H s) : X.K.In s.heap := I.ok.mod.kin.keeps I.bk
theorem Inv.lt (I : Inv X pins σ H s) : X.env.locals < s.heap.objs.size := let ⟨_, hn, _⟩ := I.loc; hn.lt
theorem Inv.sz (I : Inv X pins σ H s) : X.s₀.heap.objs.size ≤ s.heap.objs.size := Nat.le_trans I.ok.above (Nat.le_of_lt I.lt)
theorem Inv.nofs (I : Inv X pins σ H s) {a : Addr} (h : s.heap.objs.size ≤ a) : a ∉ X.fs := fun hb => by
  obtain ⟨_, o, ho, _⟩ := I.ok.funs.mem hb
  exact absurd (Nat.lt_of_lt_of_le (Heap.lt_size ho) (Nat.le_trans I.sz h)) (Nat.lt_irrefl _)
theorem Inv.cne (I : Inv X pins σ H s) : ∀ x c, X.env.cells.lookup x = some c → c ≠ X.env.locals := fun x c e z => by
  obtain ⟨v, o, ho, hd⟩ := I.cell x c e
  obtain ⟨m, ⟨o', es, ep, ho', hd', _⟩, _⟩ := I.loc
  rw [z, ho'] at ho; cases ho; rw [hd'] at hd; cases hd
theorem Inv.funs (I : Inv X pins σ H s) : s.heap.FunFrames X.base X.outer := by
  have all : ∀ (l : List Env), (∀ b ∈ frs l, b ∈ X.fs) → X.s₀.heap.FunFrames X.base l → s.heap.FunFrames X.base l := by
    intro l
    induction l with
    | nil => intro _ _; trivial
    | cons env r ih =>
      intro hs hl
      obtain ⟨hk, ⟨L, o, hf, hn, ho, hd⟩, hr⟩ := hl
      have hL : L ∈ X.fs := hs L (by unfold frs; rw [List.filterMap_cons, hf]; exact List.mem_cons_self)
      obtain ⟨sl, e⟩ := I.base.slot L o ho (I.ok.frf L hL) hL fun z => I.ok.exfs L z hL
      exact ⟨hk, ⟨L, _, hf, hn, e, hd⟩, ih (fun b hb => hs b (by unfold frs; rw [List.filterMap_cons, hf]; exact List.mem_cons_of_mem _ hb)) hr⟩
  exact all X.outer (fun _ hb => hb) I.ok.funs

theorem Inv.stack (I : Inv X pins σ H s) : s.heap.FunFrames X.base X.stack := by
  rcases I.ok.stk with e | ⟨e, hf⟩
  · rw [e]; exact I.funs
  · rw [e]
    obtain ⟨m, hn, _⟩ := I.loc
    refine .cons (by rw [I.ok.kind]; decide) hf hn ?_ I.funs
    exact Heap.get?_none_of_le (Nat.le_trans I.ok.bsz I.ok.above)
theorem Inv.stkSub (I : Inv X pins σ H s) : ∀ b ∈ frs X.stack, b ∈ X.env.locals :: X.fs := fun b hb => by
  rcases I.ok.stk with e | ⟨e, hf⟩
  · rw [e] at hb; exact List.mem_cons_of_mem _ hb
  · rw [e] at hb
    unfold frs at hb
    rw [List.filterMap_cons, hf] at hb
    exact hb
theorem Inv.stkFree (I : Inv X pins σ H s) : ∀ b ∈ frs X.stack, H b = none := fun b hb => by
  rcases List.mem_cons.mp (I.stkSub b hb) with e | hb
  · rw [e]; exact I.free
  · obtain ⟨_, o, ho, _⟩ := I.ok.funs.mem hb
    exact I.base.free b o ho (I.ok.frf b hb) fun z => I.ok.exfs b z hb

theorem Inv.step {g' : Array GenState} {t' : Nat} {d' : Drawn} {ch : List Addr} (I : Inv X pins σ H s)
    (hch : ∀ b ∈ ch, (b ∈ X.ex ∨ X.s₀.heap.objs.size ≤ b) ∧ b ≠ X.env.locals ∧ (∀ x c, X.env.cells.lookup x = some c → c ≠ b) ∧ ∀ p ∈ X.pn ++ pins, p.1 ≠ b)
    (keep : ∀ b o, b ≠ X.env.locals → b ∉ X.fs → b ∉ ch → s.heap.get? b = some o → H b = none → h'.get? b = some o)
    (slot : ∀ b o, b ≠ X.env.locals → b ∈ X.fs → b ∉ ch → s.heap.get? b = some o → H b = none → ∃ sl, h'.get? b = some { o with slots := sl }) (free : ∀ b o, b ∉ ch → s.heap.get? b = some o → H b = none → H' b = none)
    (there : ∀ b o, b ∉ ch → s.heap.get? b = some o → ∃ o', h'.get? b = some o')
    (tups : ∀ b xs, H b = some (.tup xs) → H' b = some (.tup xs)) (frzs : ∀ b o u, H b = some (.frz o u) → H' b = some (.frz o u)) (tbls : ∀ b ps, H b = some (.tbl ps) → ∃ more, H' b = some (.tbl (ps ++ more)))
    (ns : ∀ m, s.heap.Ns X.env.locals m → h'.Ns X.env.locals m) (hok : HOk X.prog X.w H' h') (hg : AllBare g') :
    Inv X pins σ H' { s with heap := h', gens := g', drawn := d', toks := t' } := by
  have neL : ∀ b o, X.s₀.heap.get? b = some o → b ≠ X.env.locals := fun b o e => Nat.ne_of_lt (Nat.lt_of_lt_of_le (Heap.lt_size e) I.ok.above)
  have neC : ∀ b o, X.s₀.heap.get? b = some o → b ∉ X.ex → b ∉ ch := fun b o e hx hb => by
    rcases (hch b hb).1 with z | z
    · exact hx z
    · exact absurd (Nat.lt_of_lt_of_le (Heap.lt_size e) z) (Nat.lt_irrefl _)
  have cellK : ∀ x c, X.env.cells.lookup x = some c → ∀ v, s.heap.IsCell c v → h'.IsCell c v := fun x c e v ⟨o, ho, hd⟩ => by
    have nch : c ∉ ch := fun z => (hch c z).2.2.1 x c e rfl
    by_cases hc : c ∈ X.fs
    · obtain ⟨sl, q⟩ := slot c o (I.cne x c e) hc nch ho (I.freeC x c e)
      exact ⟨_, q, hd⟩
    · exact ⟨o, keep c o (I.cne x c e) hc nch ho (I.freeC x c e), hd⟩
  refine ⟨I.ok, I.os, hg, ⟨fun b o e n hb hx => ?_, fun b o e n hb hx => ?_, fun b o e n hx => ?_, fun b o e hx => ?_, fun b xs e => tups b xs (I.base.tups b xs e), fun b o xs e => frzs b o xs (I.base.frzs b o xs e), fun b ps e => ?_⟩, ?_, fun x c e => ?_, ?_, fun x c e => ?_, fun p hp => ?_, hok, I.len⟩
  · exact keep b o (neL b o e) hb (neC b o e hx) (I.base.keep b o e n hb hx) (I.base.free b o e n hx)
  · obtain ⟨sl, e1⟩ := I.base.slot b o e n hb hx
    obtain ⟨sl', e2⟩ := slot b _ (neL b o e) hb (neC b o e hx) e1 (I.base.free b o e n hx)
    exact ⟨sl', e2⟩
  · obtain ⟨o', e1⟩ := I.base.there b o e hx
    exact free b o' (neC b o e hx) e1 (I.base.free b o e n hx)
  · obtain ⟨o', e1⟩ := I.base.there b o e hx
    exact there b o' (neC b o e hx) e1
  · obtain ⟨m1, e1⟩ := I.base.tbls b ps e
    obtain ⟨m2, e2⟩ := tbls b _ e1
    exact ⟨m1 ++ m2, by rw [e2, Array.append_assoc]⟩
  · obtain ⟨m, hn, hl⟩ := I.loc
    refine ⟨m, ns m hn, fun i x v e1 e2 e3 => ?_⟩
    obtain ⟨u, r, l⟩ := hl i x v e1 e2 e3
    refine ⟨u, r, ?_⟩
    rcases l with l | ⟨k, c, e, z⟩
    · exact .inl l
    · exact .inr ⟨k, c, e, cellK x c e _ z⟩
  · obtain ⟨v, z⟩ := I.cell x c e
    exact ⟨v, cellK x c e v z⟩
  · obtain ⟨m, ⟨o, _, _, ho, _⟩, _⟩ := I.loc
    exact free _ o (fun z => (hch _ z).2.1 rfl) ho I.free
  · obtain ⟨v, o, ho, hd⟩ := I.cell x c e
    exact free c o (fun z => (hch c z).2.2.1 x c e rfl) ho (I.freeC x c e)
  · obtain ⟨e, n, ne, nf, d⟩ := I.pin p hp
    have nch : p.1 ∉ ch := fun z => (hch p.1 z).2.2.2 p hp rfl
    exact ⟨keep p.1 p.2 ne nf nch e n, free p.1 p.2 nch e n, ne, nf, d⟩
theorem Inv.un {t' : Nat} (I : Inv X pins σ H s) (u : Un X.fs [] H H' s.heap h') (hok : HOk X.prog X.w H' h') : Inv X pins σ H' { s with heap := h', toks := t' } := by
  obtain ⟨m, ⟨o, es, ep, ho, r⟩, _⟩ := id I.loc
  obtain ⟨sl, hL⟩ := u.any ho I.free (by simp)
  exact I.step (g' := s.gens) (d' := s.drawn) (ch := []) (fun _ z => nomatch z) (fun b o _ hb _ e n => u.keep b o e n hb (by simp)) (fun b o _ hb _ e n => u.slot b o e n hb (by simp)) (fun b o _ e n => u.free b o e n (by simp)) (fun b o _ e => u.there b o e (by simp)) u.tups u.frzs u.tbls (fun m' hm => by
    obtain ⟨o', es', ep', ho', r'⟩ := hm
    rw [ho] at ho'; cases ho'
    exact ⟨_, es', ep', hL, r'⟩) hok I.bare
theorem Inv.call {g' : Array GenState} {t' : Nat} {d' : Drawn} {ch : List Addr} (I : Inv X pins σ H s) (u : Un (frs X.stack) ch H H' s.heap h') (hok : HOk X.prog X.w H' h') (hg : AllBare g')
    (hch : ∀ b ∈ ch, (b ∈ X.ex ∨ X.s₀.heap.objs.size ≤ b) ∧ b ≠ X.env.locals ∧ (∀ x c, X.env.cells.lookup x = some c → c ≠ b) ∧ ∀ p ∈ X.pn ++ pins, p.1 ≠ b) :
    Inv X pins σ H' { s with heap := h', gens := g', drawn := d', toks := t' } := by
  obtain ⟨m, ⟨o, es, ep, ho, r⟩, _⟩ := id I.loc
  obtain ⟨sl, hL⟩ := u.any ho I.free fun z => (hch _ z).2.1 rfl
  exact I.step (ch := ch) hch (fun b o hL hb hc e n => u.keep b o e n (fun z => (List.mem_cons.mp (I.stkSub b z)).elim hL hb) hc) (fun b o _ _ hc e n => u.any e n hc) (fun b o hc e n => u.free b o e n hc) (fun b o hc e => u.there b o e hc) u.tups u.frzs u.tbls (fun m' hm => by
    obtain ⟨o', es', ep', ho', r'⟩ := hm
    rw [ho] at ho'; cases ho'
    exact ⟨_, es', ep', hL, r'⟩) hok hg
theorem Inv.turned {t' : Nat} {it : Addr} (I : Inv X pins σ H s) (k : ∀ b o, b ≠ it → s.heap.get? b = some o → h'.get? b = some o) (hn : H it = none) (hL : it ≠ X.env.locals)
    (h1 : it ∈ X.ex ∨ X.s₀.heap.objs.size ≤ it) (h2 : ∀ x c, X.env.cells.lookup x = some c → c ≠ it) (h3 : ∀ p ∈ X.pn ++ pins, p.1 ≠ it) : Inv X pins σ H { s with heap := h', toks := t' } := by
  have nit : ∀ b u, H b = some u → b ≠ it := fun b u e z => by rw [z, hn] at e; cases e
  refine I.step (g' := s.gens) (d' := s.drawn) (ch := [it]) (fun b hb => ?_) (fun b o _ _ hc e _ => k b o (fun z => hc (by simp [z])) e) (fun b o _ _ hc e _ => ⟨o.slots, k b o (fun z => hc (by simp [z])) e⟩) (fun _ _ _ _ n => n)
    (fun b o hc e => ⟨o, k b o (fun z => hc (by simp [z])) e⟩) (fun _ _ e => e) (fun _ _ _ e => e) (fun b ps e => ⟨#[], by rw [e]; simp⟩) (fun m hm => ?_) (fun b u e => ?_) I.bare
  · have e : b = it := by simpa using hb
    subst e
    exact ⟨h1, hL, h2, h3⟩
  · obtain ⟨o, es, ep, ho, r⟩ := hm
    exact ⟨o, es, ep, k _ o (Ne.symm hL) ho, r⟩
  · refine (I.hok b u e).stay (fun c v hc q => k c v ?_ q) (fun _ q => q) fun _ _ q => q
    rcases hc with z | z
    · rw [z]; exact nit b u e
    · exact nit c _ z
theorem Inv.tok (I : Inv X pins σ H s) (t : Nat) : Inv X pins σ H { s with toks := t } := I.un (h' := s.heap) (t' := t) Un.refl I.hok
theorem Inv.kept {t' : Nat} (I : Inv X pins σ H s) (k : ∀ b u, s.heap.get? b = some u → h'.get? b = some u) : Inv X pins σ H { s with heap := h', toks := t' } := I.un (Un.kept k) (I.hok.kept k)
theorem Inv.laid {a : Addr} {o : HO} {t' : Nat} (I : Inv X pins σ H s) (k : ∀ b u, s.heap.get? b = some u → h'.get? b = some u) (hp : s.heap.objs.size ≤ a) (new : ObjOk X.prog X.w (upd H a o) h' a o) :
    Inv X pins σ (upd H a o) { s with heap := h', toks := t' } := I.un (Un.laid k hp (I.hok.fresh hp)) (I.hok.laid k hp new)
theorem Inv.write {x e : Addr} {o : HO} {t' : Nat} (I : Inv X pins σ H s) (mu : Mut (H x)) (he : e = x ∨ H e = some (.own x)) (k : ∀ b u, b ≠ e → s.heap.get? b = some u → h'.get? b = some u) (heo : ∃ u, h'.get? e = some u)
    (new : ObjOk X.prog X.w (upd H x o) h' x o) : Inv X pins σ (upd H x o) { s with heap := h', toks := t' } := I.un (Un.write mu he k heo) (I.hok.write mu he k heo new)
theorem Inv.weak {σ' : List (Option V)} (I : Inv X pins σ H s) (hl : σ'.length = σ.length) (w : ∀ (i : Nat) v, σ'[i]? = some (some v) → σ[i]? = some (some v)) : Inv X pins σ' H s :=
  ⟨I.ok, I.os, I.bare, I.base, let ⟨m, hn, hl'⟩ := I.loc; ⟨m, hn, fun i x v e1 e2 e3 => hl' i x v e1 (w i v e2) e3⟩, I.cell, I.free, I.freeC, I.pin, I.hok, hl.trans I.len⟩
theorem Inv.pins_of {pins' : List (Addr × Obj)} (I : Inv X pins σ H s) (h : ∀ p ∈ pins', s.heap.get? p.1 = some p.2 ∧ H p.1 = none ∧ p.1 ≠ X.env.locals ∧ p.1 ∉ X.fs ∧ ∀ v, p.2.data ≠ .cell v) : Inv X pins' σ H s :=
  ⟨I.ok, I.os, I.bare, I.base, I.loc, I.cell, I.free, I.freeC, fun p hp => (List.mem_append.mp hp).elim (fun z => I.pin p (List.mem_append_left _ z)) (h p), I.hok, I.len⟩

theorem nodup_ix {N : List Str} (hN : N.Nodup) {i j : Nat} {x : Str} (a : N[i]? = some x) (b : N[j]? = some x) : i = j := by
  obtain ⟨h1, e1⟩ := List.getElem?_eq_some_iff.mp a
  obtain ⟨h2, e2⟩ := List.getElem?_eq_some_iff.mp b
  exact (List.getElem_inj hN).mp (e1.trans e2.symm)

theorem store_ok2 {M : Model} {A : Around} {E : Value → Shared → Prop} {i : Nat} {x : Str} {v : V} {u : Value} {Q : Unit → Shared → Prop} (I : Inv X pins σ H s) (hN : X.N.Nodup) (hi : X.N[i]? = some x) (hx : Loc X.env.scope x) (r : RelV v u)
    (h : ∀ s', Inv X pins (σ.set i (some v)) H s' → (∃ a, Heap.SameBut a s.heap s'.heap ∧ (a = X.env.locals ∨ X.env.cells.lookup x = some a)) → Q () s') (hf : X.fn x = true ∨ X.env.scope.names.lookup x = some .local := by first | exact .inl rfl | exact .inr rfl | assumption) : wpAny M A (storeName X.env x u) Q E s := by
  obtain ⟨m, hn, hl⟩ := id I.loc
  have hcls : (X.env.scope.kind == .class || (X.env.scope.kind == .module && X.env.locals != X.env.globals)) = false := by rw [I.ok.kind]; rfl
  have hiσ : i < σ.length := by rw [I.len]; exact (List.getElem?_eq_some_iff.mp hi).1
  have cne := I.cne
  have tracked : ∀ {a : Addr} {h' : Heap}, (∃ o, s.heap.get? a = some o ∧ H a = none) → Heap.SameBut a s.heap h' → HOk X.prog X.w H h' := fun {a h'} ha hs b ob e => by
    obtain ⟨_, _, hfree⟩ := ha
    refine (I.hok b ob e).stay (fun c w' hc q => (hs.2 c ?_).trans q) (fun _ q => q) fun _ _ q => q
    rintro rfl
    rcases hc with rfl | hc
    · rw [hfree] at e; cases e
    · rw [hfree] at hc; cases hc
  rcases hx with hk | hk
  · refine wpAny_storeName_local hk hn (fun h' hn' hs => ?_) hcls
    obtain ⟨oL, _, _, hoL, _⟩ := id hn
    refine h _ ⟨I.ok, I.os, I.bare, ⟨fun b o e n hb hx => ?_, fun b o e n hb hx => ?_, I.base.free, fun b o e hx => ?_, I.base.tups, I.base.frzs, I.base.tbls⟩, ⟨_, hn', fun j y v' e1 e2 e3 => ?_⟩, fun y c e => ?_, I.free, I.freeC, fun p hp => ?_, tracked ⟨oL, hoL, I.free⟩ hs, by simpa using I.len⟩ ⟨_, hs, .inl rfl⟩
    · exact (hs.2 b (Nat.ne_of_lt (Nat.lt_of_lt_of_le (Heap.lt_size e) I.ok.above))).trans (I.base.keep b o e n hb hx)
    · obtain ⟨sl, e1⟩ := I.base.slot b o e n hb hx
      exact ⟨sl, (hs.2 b (Nat.ne_of_lt (Nat.lt_of_lt_of_le (Heap.lt_size e) I.ok.above))).trans e1⟩
    · obtain ⟨o', e1⟩ := I.base.there b o e hx
      exact ⟨o', (hs.2 b (Nat.ne_of_lt (Nat.lt_of_lt_of_le (Heap.lt_size e) I.ok.above))).trans e1⟩
    · by_cases hj : j = i
      · subst hj
        rw [hi] at e1; cases e1
        rw [List.getElem?_set_self hiσ] at e2
        cases e2
        exact ⟨u, r, .inl ⟨hk, by simp⟩⟩
      · rw [List.getElem?_set_ne (Ne.symm hj)] at e2
        obtain ⟨u', r', q⟩ := hl j y v' e1 e2 e3
        refine ⟨u', r', ?_⟩
        rcases q with ⟨k, e⟩ | ⟨k, c, e, z⟩
        · refine .inl ⟨k, ?_⟩
          have : y ≠ x := fun e => hj (nodup_ix hN e1 (e ▸ hi))
          simp [this, e]
        · exact .inr ⟨k, c, e, z.sameBut hs (cne y c e)⟩
    · obtain ⟨w', z⟩ := I.cell y c e
      exact ⟨w', z.sameBut hs (cne y c e)⟩
    · obtain ⟨e, n, ne, nf, d⟩ := I.pin p hp
      exact ⟨(hs.2 p.1 ne).trans e, n, ne, nf, d⟩
  · have hfn : X.fn x = true := by
      rcases hf with z | z
      · exact z
      · rw [z] at hk; cases hk
    obtain ⟨c, hc⟩ := I.ok.has x (.inl hk)
    obtain ⟨w', z⟩ := I.cell x c hc
    refine wpAny_storeName_cell I.ok.kind hk hc z (fun h' hc' hs => ?_)
    obtain ⟨oc, hoc, hocd⟩ := id z
    refine h { s with heap := h' } ⟨I.ok, I.os, I.bare, ⟨fun b o e n hb hx => ?_, fun b o e n hb hx => ?_, I.base.free, fun b o e hx => ?_, I.base.tups, I.base.frzs, I.base.tbls⟩, ⟨m, hn.sameBut hs (Ne.symm (cne x c hc)), fun j y v' e1 e2 e3 => ?_⟩, fun y c' e => ?_, I.free, I.freeC, fun p hp => ?_, tracked ⟨oc, hoc, I.freeC x c hc⟩ hs, by simpa using I.len⟩ ⟨c, hs, .inr hc⟩
    · exact (hs.2 b (Nat.ne_of_lt (Nat.lt_of_lt_of_le (Heap.lt_size e) (I.ok.cab x c hfn hc)))).trans (I.base.keep b o e n hb hx)
    · obtain ⟨sl, e1⟩ := I.base.slot b o e n hb hx
      exact ⟨sl, (hs.2 b (Nat.ne_of_lt (Nat.lt_of_lt_of_le (Heap.lt_size e) (I.ok.cab x c hfn hc)))).trans e1⟩
    · obtain ⟨o', e1⟩ := I.base.there b o e hx
      exact ⟨o', (hs.2 b (Nat.ne_of_lt (Nat.lt_of_lt_of_le (Heap.lt_size e) (I.ok.cab x c hfn hc)))).trans e1⟩
    · by_cases hj : j = i
      · subst hj
        rw [hi] at e1; cases e1
        rw [List.getElem?_set_self hiσ] at e2
        cases e2
        exact ⟨u, r, .inr ⟨.inl hk, c, hc, hc'⟩⟩
      · rw [List.getElem?_set_ne (Ne.symm hj)] at e2
        obtain ⟨u', r', q⟩ := hl j y v' e1 e2 e3
        refine ⟨u', r', ?_⟩
        rcases q with q | ⟨k, c', e, z'⟩
        · exact .inl q
        · refine .inr ⟨k, c', e, z'.sameBut hs ?_⟩
          rintro rfl
          exact hj (nodup_ix hN e1 (I.ok.inj _ _ _ e hc ▸ hi))
    · by_cases hcc : c' = c
      · subst hcc; exact ⟨_, hc'⟩
      · obtain ⟨w2, z2⟩ := I.cell y c' e
        exact ⟨w2, z2.sameBut hs hcc⟩
    · obtain ⟨e, n, ne, nf, d⟩ := I.pin p hp
      refine ⟨(hs.2 p.1 ?_).trans e, n, ne, nf, d⟩
      intro q
      rw [q, hoc] at e
      have q' : oc = p.2 := Option.some.inj e
      exact d w' (by rw [← q']; exact hocd)
theorem store_ok {M : Model} {A : Around} {E : Value → Shared → Prop} {i : Nat} {x : Str} {v : V} {u : Value} {Q : Unit → Shared → Prop} (I : Inv X pins σ H s) (hN : X.N.Nodup) (hi : X.N[i]? = some x) (hx : Loc X.env.scope x) (r : RelV v u)
    (h : ∀ s', Inv X pins (σ.set i (some v)) H s' → Q () s') (hf : X.fn x = true ∨ X.env.scope.names.lookup x = some .local := by first | exact .inl rfl | exact .inr rfl | assumption) : wpAny M A (storeName X.env x u) Q E s :=
  store_ok2 I hN hi hx r (fun s' I' _ => h s' I') hf
theorem Inv.call' {s' : Shared} {ch : List Addr} (I : Inv X pins σ H s) (ho : s'.os = s.os) (u : Un (frs X.stack) ch H H' s.heap s'.heap) (hok : HOk X.prog X.w H' s'.heap) (hg : AllBare s'.gens)
    (hch : ∀ b ∈ ch, (b ∈ X.ex ∨ X.s₀.heap.objs.size ≤ b) ∧ b ≠ X.env.locals ∧ (∀ x c, X.env.cells.lookup x = some c → c ≠ b) ∧ ∀ p ∈ X.pn ++ pins, p.1 ≠ b) : Inv X pins σ H' s' := by
  obtain ⟨h', g', d', t', o'⟩ := s'
  have e : o' = s.os := ho
  subst e
  exact I.call (g' := g') (t' := t') (d' := d') u hok hg hch
end

abbrev XK := Value → Option Addr → Hp → Prop
abbrev St := List (Option V)
abbrev VK := V → Hp → Prop
abbrev TE := St → Hp → VK → Prop
abbrev TT := St → Hp → (Bool → Hp → Prop) → Prop
abbrev TA := St → Hp → (List V → Hp → Prop) → Prop
structure Ends where
  nx : St → Hp → Prop
  rt : VK
  bk : St → Hp → Prop := fun _ _ => False
  ct : St → Hp → Prop := fun _ _ => False
abbrev TS := Ends → St → Hp → Prop

def EP (X : Cx) (pins : List (Addr × Obj)) (σ : St) (Q : VK) (u : Value) (s' : Shared) : Prop := ∃ v H', Inv X pins σ H' s' ∧ RelV v u ∧ Q v H'
def TP (X : Cx) (pins : List (Addr × Obj)) (σ : St) (Q : Bool → Hp → Prop) (b : Bool) (s' : Shared) : Prop := ∃ H', Inv X pins σ H' s' ∧ Q b H'
def AP (X : Cx) (pins : List (Addr × Obj)) (σ : St) (Q : List V → Hp → Prop) (us : List Value) (s' : Shared) : Prop := ∃ vs H', Inv X pins σ H' s' ∧ Vals vs us ∧ Q vs H'
def SP (X : Cx) (pins : List (Addr × Obj)) (D : Ends) (f : Flow) (s' : Shared) : Prop :=
  match f with
  | .next => ∃ σ' H', Inv X pins σ' H' s' ∧ D.nx σ' H'
  | .brk => ∃ σ' H', Inv X pins σ' H' s' ∧ D.bk σ' H'
  | .cont => ∃ σ' H', Inv X pins σ' H' s' ∧ D.ct σ' H'
  | .ret u => ∃ v σ' H', Inv X pins σ' H' s' ∧ RelV v u ∧ D.rt v H'

def PE (X : Cx) (e : Expr) (t : TE) : Prop :=
  ∀ (pins : List (Addr × Obj)) (s : Shared) (σ : St) (H : Hp) (Q : VK), Inv X pins σ H s → t σ H Q → wpAny (model X.prog X.w) X.A (eval e X.env) (EP X pins σ Q) X.xe s
def PT (X : Cx) (e : Expr) (t : TT) : Prop :=
  ∀ (pins : List (Addr × Obj)) (s : Shared) (σ : St) (H : Hp) (Q : Bool → Hp → Prop), Inv X pins σ H s → t σ H Q → wpAny (model X.prog X.w) X.A (isTrue e X.env (eval e X.env)) (TP X pins σ Q) X.xe s
def PW (X : Cx) (e : Expr) (t : TT) : Prop :=
  ∀ (whole : Sem Value) (pins : List (Addr × Obj)) (s : Shared) (σ : St) (H : Hp) (Q : Bool → Hp → Prop), Inv X pins σ H s → t σ H Q → wpAny (model X.prog X.w) X.A (isTrue e X.env whole) (TP X pins σ Q) X.xe s
theorem PW.pt {X : Cx} {e : Expr} {t : TT} (h : PW X e t) : PT X e t := h _
def PA (X : Cx) (es : List Expr) (t : TA) : Prop :=
  ∀ (pos : Pos) (pins : List (Addr × Obj)) (s : Shared) (σ : St) (H : Hp) (Q : List V → Hp → Prop), Inv X pins σ H s → t σ H Q → wpAny (model X.prog X.w) X.A (spliced (backTo pos (starEach es X.env))) (AP X pins σ Q) X.xe s
def PS (X : Cx) (st : Stmt) (t : TS) : Prop :=
  ∀ (pins : List (Addr × Obj)) (s : Shared) (σ : St) (H : Hp) (D : Ends), Inv X pins σ H s → t D σ H → wpAny (model X.prog X.w) X.A (exec st X.env) (SP X pins D) X.xe s
def PSs (X : Cx) (st : List Stmt) (t : TS) : Prop :=
  ∀ (pins : List (Addr × Obj)) (s : Shared) (σ : St) (H : Hp) (D : Ends), Inv X pins σ H s → t D σ H → wpAny (model X.prog X.w) X.A (execs st X.env) (SP X pins D) X.xe s
theorem thn {α : Type} {t : Sem α} {Q Q' : α → Shared → Prop} {M : Model} {A : Around} {E : Value → Shared → Prop} {s : Shared} (h : wpAny M A t Q E s) (hQ : ∀ a s, Q a s → Q' a s) : wpAny M A t Q' E s := wpAny_mono h hQ fun _ _ x => x
end L2

namespace L2
open PySem PySem.Spec PyProof.Rows
section
variable {X : Cx}

def tVar (i : Nat) : TE := fun σ H Q => ∃ v, σ[i]? = some (some v) ∧ Q v H
def tC (v : V) : TE := fun _ H Q => Q v H
theorem pe_var {i : Nat} {x : Str} {pos : Pos} (hN : X.N[i]? = some x) (hv : Vis X.env.scope x) (hd : (x == ("__debug__" : Str)) = false := by decide) (hcd : (x == ("__classdict__" : Str)) = false := by decide) : PE X (.Name x pos) (tVar i) := by
  intro pins s σ H Q I h
  obtain ⟨v, e, h⟩ := h
  obtain ⟨m, hn, hl⟩ := I.loc
  obtain ⟨u, r, l⟩ := hl i x v hN e hv
  have fin : EP X pins σ Q u s := ⟨v, H, I, r, h⟩
  rcases l with ⟨hk, hm⟩ | ⟨hk, c, hc, hcell⟩
  · exact wpAny_Name (wpAny_loadName_local I.ok.kind hk hn hm fin) hd
  · rcases hk with hk | hk
    · exact wpAny_Name (wpAny_loadName_cell I.ok.kind hk hc hcell fin) hd
    · exact wpAny_Name (wpAny_loadName_free I.ok.kind hk hc hcell fin hcd) hd
theorem pe_int {i j pos} : PE X (.Constant (.int i) j pos) (tC (.int i)) := fun _ _ _ H _ I h => wpAny_Constant_int ⟨.int i, H, I.tok _, ⟨_, rfl⟩, h⟩
theorem pe_bl {b j pos} : PE X (.Constant (.bool b) j pos) (tC (.bl b)) := fun _ _ _ H _ I h => Constant_bool ⟨.bl b, H, I, rfl, h⟩
theorem pe_non {j pos} : PE X (.Constant .none j pos) (tC .non) := fun _ _ _ H _ I h => Constant_none ⟨.non, H, I, rfl, h⟩
theorem pe_str {x j pos} : PE X (.Constant (.str x) j pos) (tC (.str x)) := fun _ _ _ H _ I h => Calls.Constant_str ⟨.str x, H, I.tok _, ⟨_, rfl⟩, h⟩

def Gl (X : Cx) (x : Str) : Prop := X.env.kindOf x = some .globalImplicit
theorem ld_glob {E : Value → Shared → Prop} {pins : List (Addr × Obj)} {s : Shared} {σ : St} {H : Hp} {x : Str} {u : Value} {pos : Pos} {Q : Value → Shared → Prop} (I : Inv X pins σ H s) (hg : Gl X x) (hm : X.mg x = some u) (h : Q u s)
    (hd : (x == ("__debug__" : Str)) = false := by decide) : wpAny (model X.prog X.w) X.A (eval (.Name x pos) X.env) Q E s :=
  Calls.Name_function_global I.ok.kind hg (Calls.loadGlobal_global (by rw [I.ok.glob]; exact I.mod.glob.keeps I.bk) hm h) hd
theorem ld_blt {E : Value → Shared → Prop} {pins : List (Addr × Obj)} {s : Shared} {σ : St} {H : Hp} {x : Str} {u : Value} {pos : Pos} {Q : Value → Shared → Prop} (I : Inv X pins σ H s) (hg : Gl X x) (hm : X.mg x = none) (hv : bootBuiltins x = some u) (h : Q u s)
    (hn : x ≠ "__name__" := by decide) (hd : (x == ("__debug__" : Str)) = false := by decide) : wpAny (model X.prog X.w) X.A (eval (.Name x pos) X.env) Q E s := by
  obtain ⟨mb, h1, h2⟩ := I.mod.blt
  exact Calls.Name_function_global I.ok.kind hg (Calls.loadGlobal_builtin (by rw [I.ok.glob]; exact I.mod.glob.keeps I.bk) hm (by rw [I.ok.blt]; exact h1.keeps I.bk) ((h2 x hn).trans hv) h) hd
theorem pe_glob {x : Str} {v : V} {u : Value} {pos : Pos} (hg : Gl X x) (hm : X.mg x = some u) (r : RelV v u) (hd : (x == ("__debug__" : Str)) = false := by decide) : PE X (.Name x pos) (tC v) :=
  fun _ _ _ H _ I h => ld_glob I hg hm ⟨v, H, I, r, h⟩ hd
theorem pe_bltn {x : Str} {v : V} {u : Value} {pos : Pos} (hg : Gl X x) (hm : X.mg x = none) (hv : bootBuiltins x = some u) (r : RelV v u) (hn : x ≠ "__name__" := by decide) (hd : (x == ("__debug__" : Str)) = false := by decide) : PE X (.Name x pos) (tC v) :=
  fun _ _ _ H _ I h => ld_blt I hg hm hv ⟨v, H, I, r, h⟩ hn hd

variable {a b : Expr} {ta tb : TE} {pos : Pos}
def tB (t : TE) : TT := fun σ H Q => t σ H fun x H1 => ∃ c, x = .bl c ∧ Q c H1
theorem pt_val {e : Expr} {t : TE} (h : PE X e t) (he : ∀ whole, isTrue e X.env whole = (do let v ← whole; standAt e.pos; holding [v] (truthy v)) := by intro _; rfl) : PT X e (tB t) := by
  intro pins s σ H Q I hw
  refine isTrue_plain (thn (h pins s σ H _ I hw) fun v s1 ⟨x, H1, I1, r1, q1⟩ => ?_) (he _)
  obtain ⟨d, rfl, q⟩ := q1
  cases r1
  exact wpAny_truthy_bool ⟨H1, I1, q⟩

variable {tA tB' : TT} {rest : List Expr}
def tAnd (t u : TT) : TT := fun σ H Q => t σ H fun c H1 => if c = true then u σ H1 Q else Q false H1
def tOr (t u : TT) : TT := fun σ H Q => t σ H fun c H1 => if c = true then Q true H1 else u σ H1 Q
def tNot (t : TT) : TT := fun σ H Q => t σ H fun c H1 => Q (!c) H1
theorem pw_and1 (ha : PT X a tA) : PW X (.BoolOp .And [a] pos) tA := by
  intro wh pins s σ H Q I h
  refine isTrue_and (thn (ha pins s σ H Q I h) fun c s1 e => ?_)
  cases c with
  | true => exact isTrue_and_nil e
  | false => exact e
theorem pw_or1 (ha : PT X a tA) : PW X (.BoolOp .Or [a] pos) tA := by
  intro wh pins s σ H Q I h
  refine isTrue_or (thn (ha pins s σ H Q I h) fun c s1 e => ?_)
  cases c with
  | false => exact isTrue_or_nil e
  | true => exact e
theorem pw_and (ha : PT X a tA) (hb : PW X (.BoolOp .And (b :: rest) pos) tB') : PW X (.BoolOp .And (a :: b :: rest) pos) (tAnd tA tB') := by
  intro wh pins s σ H Q I h
  refine isTrue_and (thn (ha pins s σ H _ I h) fun c s1 ⟨H1, I1, q1⟩ => ?_)
  cases c with
  | true => exact hb wh pins s1 σ H1 Q I1 q1
  | false => exact ⟨H1, I1, q1⟩
theorem pw_or (ha : PT X a tA) (hb : PW X (.BoolOp .Or (b :: rest) pos) tB') : PW X (.BoolOp .Or (a :: b :: rest) pos) (tOr tA tB') := by
  intro wh pins s σ H Q I h
  refine isTrue_or (thn (ha pins s σ H _ I h) fun c s1 ⟨H1, I1, q1⟩ => ?_)
  cases c with
  | true => exact ⟨H1, I1, q1⟩
  | false => exact hb wh pins s1 σ H1 Q I1 q1
theorem pt_not (ha : PT X a tA) : PT X (.UnaryOp .Not a pos) (tNot tA) := by
  intro pins s σ H Q I h
  exact isTrue_not (ha pins s σ H (fun c H1 => Q (!c) H1) I h)
def tAndV (ta tb : TE) : TE := fun σ H Q => ta σ H fun x H1 => ∃ c, x = .bl c ∧ if c = true then tb σ H1 Q else Q (.bl false) H1
def tNotV (ta : TE) : TE := fun σ H Q => ta σ H fun x H1 => ∃ c, x = .bl c ∧ Q (.bl (!c)) H1
theorem pe_one {op} {t : TE} (h : PE X a t) : PE X (.BoolOp op [a] pos) t := fun pins s σ H Q I hw => BoolOp_one (h pins s σ H Q I hw)
theorem pe_and (ha : PE X a ta) (hb : PE X (.BoolOp .And (b :: rest) pos) tb) : PE X (.BoolOp .And (a :: b :: rest) pos) (tAndV ta tb) := by
  intro pins s σ H Q I h
  refine BoolOp_and (thn (ha pins s σ H _ I h) fun v s1 ⟨x, H1, I1, r1, q1⟩ => ?_)
  obtain ⟨c, rfl, q1⟩ := q1
  cases r1
  refine wpAny_truthy_bool ?_
  cases c with
  | true => exact hb pins s1 σ H1 Q I1 q1
  | false => exact ⟨.bl false, H1, I1, rfl, q1⟩
theorem pe_not (ha : PE X a ta) : PE X (.UnaryOp .Not a pos) (tNotV ta) := by
  intro pins s σ H Q I h
  refine UnaryOp_ (thn (ha pins s σ H _ I h) fun v s1 ⟨x, H1, I1, r1, q1⟩ => ?_)
  obtain ⟨c, rfl, q1⟩ := q1
  cases r1
  exact not_of (wpAny_truthy_bool ⟨.bl (!c), H1, I1, rfl, q1⟩)
def tIf (t : TT) (ta tb : TE) : TE := fun σ H Q => t σ H fun c H1 => if c = true then ta σ H1 Q else tb σ H1 Q
theorem pe_ifExp {c : Expr} (hc : PT X c tA) (ha : PE X a ta) (hb : PE X b tb) : PE X (.IfExp c a b pos) (tIf tA ta tb) := by
  intro pins s σ H Q I h
  refine wpAny_IfExp (thn (hc pins s σ H _ I h) fun d s1 ⟨H1, I1, q1⟩ => ?_)
  cases d with
  | true => exact ha pins s1 σ H1 Q I1 q1
  | false => exact hb pins s1 σ H1 Q I1 q1
end
end L2

namespace L2
open PySem PySem.Spec PyProof.Rows

def SqL (K : PySem.W.Frag) (H : Hp) (a : Addr) (xs : List V) : Prop :=
  Rd H a (.lst xs) ∨
    ∃ (o : Obj) (its : Array Value) (n : Nat), K.lookup a = some o ∧ o.cls = .type "list" ∧ o.dict = none ∧ o.data = .seq its n ∧ its.size ≤ sizeLine ∧ Vals xs its.toList
def SqT (K : PySem.W.Frag) (H : Hp) (a : Addr) (xs : List V) : Prop :=
  Rd H a (.tup xs) ∨
    ∃ (o : Obj) (its : Array Value) (n : Nat), K.lookup a = some o ∧ o.cls = .type "tuple" ∧ o.data = .seq its n ∧ its.size ≤ sizeLine ∧ Vals xs its.toList
def absV : Value → Option V
  | .none => some .non
  | .bool b => some (.bl b)
  | .int i _ => some (.int i)
  | .str x _ => some (.str x)
  | .bytes b _ => some (.byt b)
  | .float b _ => some (.flt b)
  | .ref a => some (.ref a)
  | .type n => some (.ty n)
  | _ => none
theorem RelV.abs {x : V} {u : Value} (r : RelV x u) : absV u = some x := by
  cases x with
  | non => cases r; rfl
  | bl _ => cases r; rfl
  | int _ => obtain ⟨t, rfl⟩ := r; rfl
  | str _ => obtain ⟨t, rfl⟩ := r; rfl
  | byt _ => obtain ⟨t, rfl⟩ := r; rfl
  | flt _ => obtain ⟨t, rfl⟩ := r; rfl
  | ref _ => cases r; rfl
  | ty _ => cases r; rfl
theorem RelV.inj {x y : V} {u : Value} (r : RelV x u) (q : RelV y u) : x = y := Option.some.inj (r.abs.symm.trans q.abs)
theorem Vals.inj : ∀ {xs ys : List V} {us : List Value}, Vals xs us → Vals ys us → xs = ys
  | _, _, _, .nil, .nil => rfl
  | _, _, _, .cons r t, .cons r' t' => by rw [r.inj r', Vals.inj t t']
section
variable {X : Cx} {pins : List (Addr × Obj)} {σ : St} {H : Hp} {s : Shared} {a : Addr} {xs ys : List V}
theorem SqL.of {K : PySem.W.Frag} (h : H a = some (.lst xs)) : SqL K H a xs := .inl (.inl h)
theorem SqT.of {K : PySem.W.Frag} (h : H a = some (.tup xs)) : SqT K H a xs := .inl (.inl h)
theorem Inv.list (I : Inv X pins σ H s) (h : SqL X.K H a xs) : ∃ its : List Value, Vals xs its ∧ PlainL s.heap a its.toArray ∧ xs.length ≤ sizeLine := by
  rcases h with h | ⟨o, its, n, hk, hc, hd, hs, hz, r⟩
  · obtain ⟨z, its, n, r, e⟩ := h.ok I.hok
    exact ⟨its, r, ⟨_, n, e, rfl, rfl, rfl⟩, z⟩
  · refine ⟨its.toList, r, ⟨o, n, I.kIn a o hk, hc, hd, by simpa using hs⟩, ?_⟩
    have e := r.length
    simp only [Array.length_toList] at e
    (first | lia | omega)
theorem Inv.tuple (I : Inv X pins σ H s) (h : SqT X.K H a xs) : ∃ its : List Value, Vals xs its ∧ IsTup s.heap a its.toArray ∧ xs.length ≤ sizeLine := by
  rcases h with h | ⟨o, its, n, hk, hc, hs, hz, r⟩
  · obtain ⟨z, its, r, p⟩ := h.ok I.hok
    exact ⟨its, r, p, z⟩
  · refine ⟨its.toList, r, ⟨o, I.kIn a o hk, hc, n, by simpa using hs⟩, ?_⟩
    have e := r.length
    simp only [Array.length_toList] at e
    (first | lia | omega)
theorem Inv.list_inj (I : Inv X pins σ H s) (h : SqL X.K H a xs) (h' : SqL X.K H a ys) : xs = ys := by
  obtain ⟨its, r, ⟨o, n, e, _, _, d⟩, _⟩ := I.list h
  obtain ⟨its', r', ⟨o', n', e', _, _, d'⟩, _⟩ := I.list h'
  rw [e] at e'; cases e'
  rw [d] at d'
  injection d' with d1 _
  have : its = its' := by simpa using congrArg Array.toList d1
  subst this
  exact r.inj r'
theorem Inv.tuple_inj (I : Inv X pins σ H s) (h : SqT X.K H a xs) (h' : SqT X.K H a ys) : xs = ys := by
  obtain ⟨its, r, ⟨o, e, _, n, d⟩, _⟩ := I.tuple h
  obtain ⟨its', r', ⟨o', e', _, n', d'⟩, _⟩ := I.tuple h'
  rw [e] at e'; cases e'
  rw [d] at d'
  injection d' with d1 _
  have : its = its' := by simpa using congrArg Array.toList d1
  subst this
  exact r.inj r'
end

abbrev Cx.wish (X : Cx) (E : Value → Shared → Prop) : Cx := { X with xe := E }
abbrev Cx.nox (X : Cx) : Cx := X.wish fun _ _ => False
theorem Cx.Ok.wish {X : Cx} (ok : X.Ok) (E : Value → Shared → Prop) : (X.wish E).Ok :=
  ⟨ok.mod, ok.kind, ok.glob, ok.blt, ok.above, ok.inj, ok.has, ok.cab, ok.hd, ok.frames, ok.stk, ok.exf, ok.bs, ok.bsz, ok.noex, ok.exfs, ok.funs, ok.frf⟩
theorem Cx.Ok.unwish {X : Cx} {E : Value → Shared → Prop} (ok : (X.wish E).Ok) : X.Ok :=
  ⟨ok.mod, ok.kind, ok.glob, ok.blt, ok.above, ok.inj, ok.has, ok.cab, ok.hd, ok.frames, ok.stk, ok.exf, ok.bs, ok.bsz, ok.noex, ok.exfs, ok.funs, ok.frf⟩
section
variable {X : Cx} {pins : List (Addr × Obj)} {σ : St} {H : Hp} {s : Shared} {E : Value → Shared → Prop}
theorem Inv.wish (I : Inv X pins σ H s) (E : Value → Shared → Prop) : Inv (X.wish E) pins σ H s := ⟨I.ok.wish E, I.os, I.bare, I.base, I.loc, I.cell, I.free, I.freeC, I.pin, I.hok, I.len⟩
theorem Inv.unwish (I : Inv (X.wish E) pins σ H s) : Inv X pins σ H s := ⟨I.ok.unwish, I.os, I.bare, I.base, I.loc, I.cell, I.free, I.freeC, I.pin, I.hok, I.len⟩
theorem SP.unwish {D : Ends} {f : Flow} {s' : Shared} (h : SP (X.wish E) pins D f s') : SP X pins D f s' := by
  cases f with
  | next => obtain ⟨σ', H', I, q⟩ := h; exact ⟨σ', H', I.unwish, q⟩
  | brk => obtain ⟨σ', H', I, q⟩ := h; exact ⟨σ', H', I.unwish, q⟩
  | cont => obtain ⟨σ', H', I, q⟩ := h; exact ⟨σ', H', I.unwish, q⟩
  | ret u => obtain ⟨v, σ', H', I, r, q⟩ := h; exact ⟨v, σ', H', I.unwish, r, q⟩
theorem PSs.nox {st : List Stmt} {t : TS} (h : PSs X.nox st t) : PSs X st t := fun pins s σ H D I hw =>
  wpAny_mono (h pins s σ H D (I.wish _) hw) (fun _ _ q => q.unwish) fun _ _ z => False.elim z
end

section
variable {X : Cx} {st : Stmt} {rest : List Stmt} {t u : TS} {e : Expr} {te : TE} {pos : Pos}
def tNext : TS := fun D σ H => D.nx σ H
def Ends.on (D : Ends) (u : TS) : Ends := { D with nx := u D }
def tSeq (t u : TS) : TS := fun D σ H => t (D.on u) σ H
theorem pss_nil : PSs X [] tNext := fun _ _ σ H _ I h => wpAny_execs_nil ⟨σ, H, I, h⟩
theorem pss_cons (h1 : PS X st t) (h2 : PSs X rest u) : PSs X (st :: rest) (tSeq t u) := by
  intro pins s σ H D I h
  refine wpAny_execs_cons (thn (h1 pins s σ H { D with nx := u D } I h) fun f s1 q => ?_)
  cases f with
  | next =>
    obtain ⟨σ', H', I', q⟩ := q
    exact h2 pins s1 σ' H' D I' q
  | ret v => exact q
  | brk => exact q
  | cont => exact q
theorem pss_one (h1 : PS X st t) : PSs X [st] t := by
  intro pins s σ H D I h
  refine wpAny_execs_cons (thn (h1 pins s σ H D I h) fun f s1 q => ?_)
  cases f with
  | next => exact wpAny_execs_nil q
  | ret v => exact q
  | brk => exact q
  | cont => exact q
theorem Inv.quiet {pins : List (Addr × Obj)} {σ : St} {H : Hp} {s : Shared} (I : Inv X pins σ H s) : interactive X.env = false := by simp [interactive, I.ok.kind]
def tDrop (te : TE) : TS := fun D σ H => te σ H fun _ H1 => D.nx σ H1
theorem ps_expr (he : PE X e te) (hs : swapsWith e none pos.line X.env = pure false := by rfl) : PS X (.Expr e pos) (tDrop te) := by
  intro pins s σ H D I h
  exact wpAny_Expr_any (thn (he pins s σ H _ I h) fun v s1 ⟨x, H1, I1, r1, q1⟩ => ⟨σ, H1, I1, q1⟩) I.quiet hs
def tRet (te : TE) : TS := fun D σ H => te σ H D.rt
theorem ps_ret (he : PE X e te) : PS X (.Return (some e) pos) (tRet te) := by
  intro pins s σ H D I h
  exact wpAny_Return_some (thn (he pins s σ H _ I h) fun v s1 ⟨x, H1, I1, r1, q1⟩ => ⟨x, σ, H1, I1, r1, q1⟩)
def tIfS (c : TT) (t u : TS) : TS := fun D σ H => c σ H fun b H1 => if b = true then t D σ H1 else u D σ H1
theorem ps_if {c : Expr} {a b : List Stmt} {tc : TT} (hc : PT X c tc) (ha : PSs X a t) (hb : PSs X b u) : PS X (.If c a b pos) (tIfS tc t u) := by
  intro pins s σ H D I h
  refine wpAny_If (thn (hc pins s σ H _ I h) fun d s1 ⟨H1, I1, q1⟩ => ?_)
  cases d with
  | true => exact ha pins s1 σ H1 D I1 q1
  | false => exact hb pins s1 σ H1 D I1 q1
def tNever : TS := fun _ _ _ => False
theorem pss_never {sts : List Stmt} : PSs X sts tNever := fun _ _ _ _ _ _ h => h.elim
end

abbrev TG := V → St → Hp → (St → Hp → Prop) → Prop
abbrev TGs := List V → St → Hp → (St → Hp → Prop) → Prop
def PG (X : Cx) (target : Expr) (t : TG) : Prop :=
  ∀ (pins : List (Addr × Obj)) (s : Shared) (σ : St) (H : Hp) (v : V) (u : Value) (Q : St → Hp → Prop), Inv X pins σ H s → RelV v u → t v σ H Q →
    wpAny (model X.prog X.w) X.A (assign target X.env u) (fun _ s' => ∃ σ' H', Inv X pins σ' H' s' ∧ Q σ' H') X.xe s
def PGs (X : Cx) (ts : List Expr) (t : TGs) : Prop :=
  ∀ (pins : List (Addr × Obj)) (s : Shared) (σ : St) (H : Hp) (vs : List V) (us : List Value) (Q : St → Hp → Prop), Inv X pins σ H s → Vals vs us → t vs σ H Q →
    wpAny (model X.prog X.w) X.A (assignInOrder ((assignEach ts X.env).map (·.2)) us) (fun _ s' => ∃ σ' H', Inv X pins σ' H' s' ∧ Q σ' H') X.xe s
abbrev TIp := V → V → Hp → VK → Prop
def PIp (X : Cx) (op : Operator) (t : TIp) : Prop :=
  ∀ (pins : List (Addr × Obj)) (s : Shared) (σ : St) (H : Hp) (x y : V) (v u : Value) (Q : VK), Inv X pins σ H s → RelV x v → RelV y u → t x y H Q →
    wpAny (model X.prog X.w) X.A (inplaceOp op v u) (EP X pins σ Q) X.xe s
section
variable {X : Cx} {pos : Pos}
def gName (i : Nat) : TG := fun v σ H Q => Q (σ.set i (some v)) H
theorem pg_name {i : Nat} {x : Str} (hN : X.N.Nodup) (hi : X.N[i]? = some x) (hx : Loc X.env.scope x) (hf : X.fn x = true ∨ X.env.scope.names.lookup x = some .local := by first | exact .inl rfl | exact .inr rfl | assumption) : PG X (.Name x pos) (gName i) := by
  intro pins s σ H v u Q I r h
  exact wpAny_assign_Name (store_ok I hN hi hx r (fun s' I' => ⟨_, H, I', h⟩) hf)
def gNil : TGs := fun vs σ H Q => vs = [] ∧ Q σ H
def gCons (t : TG) (u : TGs) : TGs := fun vs σ H Q => ∃ v r, vs = v :: r ∧ t v σ H fun σ' H' => u r σ' H' Q
theorem pgs_nil : PGs X [] gNil := by
  intro pins s σ H vs us Q I r h
  obtain ⟨e, h⟩ := h
  subst e
  cases r
  exact assignInOrder_nil ⟨σ, H, I, h⟩
theorem pgs_cons {e : Expr} {es : List Expr} {t : TG} {u : TGs} (h1 : PG X e t) (h2 : PGs X es u)
    (hs : (assignEach (e :: es) X.env).map (·.2) = assign e X.env :: (assignEach es X.env).map (·.2) := by rfl) : PGs X (e :: es) (gCons t u) := by
  intro pins s σ H vs us Q I r h
  obtain ⟨v, vr, e1, h⟩ := h
  subst e1
  cases r with
  | cons r rr =>
    rw [hs]
    refine assignInOrder_cons (thn (h1 pins s σ H _ _ _ I r h) fun _ s1 ⟨σ1, H1, I1, q1⟩ => ?_)
    exact h2 pins s1 σ1 H1 _ _ Q I1 rr q1
def gTup (K : PySem.W.Frag) (n : Nat) (t : TGs) : TG := fun v σ H Q => ∃ a xs, v = .ref a ∧ SqT K H a xs ∧ xs.length = n ∧ t xs σ H Q
theorem pg_tup {es : List Expr} {k : Nat} {t : TGs} {n : Nat} (hc : X.calm = true) (h : PGs X es t)
    (hn : (assignEach es X.env).length = n := by rfl) (hst : (assignEach es X.env).findIdx? (·.1) = none := by rfl) : PG X (.Tuple es k pos) (gTup X.K n t) := by
  intro pins s σ H v u Q I r hw
  obtain ⟨a, xs, e1, hq, hl, hw⟩ := hw
  subst e1
  cases r
  obtain ⟨its, rv, ht, hz⟩ := I.tuple hq
  refine assign_Tuple_tuple (I.ok.hd hc) ht (by simp [hn, ← hl, rv.length]) hst fun h' hx => ?_
  have I1 : Inv X pins σ H { s with heap := h' } := I.kept (t' := s.toks) fun b o e => hx b o (Nat.ne_of_lt (Heap.lt_size e)) e
  exact h pins _ σ H xs _ Q I1 (by simpa using rv) hw
def tAsg (te : TE) (g : TG) : TS := fun D σ H => te σ H fun x H1 => g x σ H1 D.nx
theorem ps_asg {tg e : Expr} {te : TE} {g : TG} (he : PE X e te) (hg : PG X tg g) (hs : swapsWithSole [tg] e pos.line X.env = pure false := by rfl) (hw : swappedStores [tg] e X.env = pure none := by rfl)
    (h1 : (assignEach [tg] X.env).map (·.2) = [assign tg X.env] := by rfl) : PS X (.Assign [tg] e pos) (tAsg te g) := by
  intro pins s σ H D I h
  refine wpAny_Assign_stores (thn (he pins s σ H _ I h) fun v s1 ⟨x, H1, I1, r1, q1⟩ => ?_) hs hw
  rw [h1]
  exact thn (hg pins s1 σ H1 x v _ I1 r1 q1) fun _ s2 q => q
theorem ps_set {i : Nat} {x : Str} {e : Expr} {te : TE} {pos' : Pos} (hN : X.N.Nodup) (hi : X.N[i]? = some x) (hx : Loc X.env.scope x) (he : PE X e te) (hs : swapsWith e (some (.Name x pos')) pos.line X.env = pure false := by rfl) (hf : X.fn x = true ∨ X.env.scope.names.lookup x = some .local := by first | exact .inl rfl | exact .inr rfl | assumption) :
    PS X (.Assign [.Name x pos'] e pos) (tAsg te (gName i)) := by
  intro pins s σ H D I h
  refine wpAny_Assign_Name (thn (he pins s σ H _ I h) fun v s1 ⟨y, H1, I1, r1, q1⟩ => ?_) hs
  exact store_ok I1 hN hi hx r1 (fun s2 I2 => ⟨_, H1, I2, q1⟩) hf
def tAug (i : Nat) (te : TE) (ti : TIp) : TS := fun D σ H => ∃ x, σ[i]? = some (some x) ∧ te σ H fun y H1 => ti x y H1 fun z H2 => D.nx (σ.set i (some z)) H2
theorem ps_aug {i : Nat} {x : Str} {e : Expr} {te : TE} {op : Operator} {ti : TIp} {pos' : Pos} (hN : X.N.Nodup) (hi : X.N[i]? = some x) (hx : Loc X.env.scope x) (he : PE X e te) (ho : PIp X op ti) (hf : X.fn x = true ∨ X.env.scope.names.lookup x = some .local := by first | exact .inl rfl | exact .inr rfl | assumption) :
    PS X (.AugAssign (.Name x pos') op e pos) (tAug i te ti) := by
  intro pins s σ H D I h
  obtain ⟨v, e1, h⟩ := h
  obtain ⟨m, hn, hl⟩ := I.loc
  have vis : Vis X.env.scope x := by rcases hx with k | k; exact .inl k; exact .inr (.inl k)
  obtain ⟨u, r, l⟩ := hl i x v hi e1 vis
  refine wpAny_AugAssign_Name ?_
  have go : wpAny (model X.prog X.w) X.A (eval e X.env) (fun w s₂ => wpAny (model X.prog X.w) X.A (inplaceOp op u w) (fun r s₃ => wpAny (model X.prog X.w) X.A (storeName X.env x r) (fun _ => SP X pins D .next) X.xe s₃) X.xe s₂) X.xe s := by
    refine thn (he pins s σ H _ I h) fun w s1 ⟨y, H1, I1, r1, q1⟩ => ?_
    refine thn (ho pins s1 σ H1 v y u w _ I1 r r1 q1) fun z s2 ⟨zv, H2, I2, r2, q2⟩ => ?_
    exact store_ok I2 hN hi hx r2 (fun s3 I3 => ⟨_, H2, I3, q2⟩) hf
  rcases l with ⟨hk, hm⟩ | ⟨hk, c, hc, hcell⟩
  · exact wpAny_loadName_local I.ok.kind hk hn hm go
  · rcases hk with hk | hk
    · exact wpAny_loadName_cell I.ok.kind hk hc hcell go
    · rcases hx with k | k
      · have : X.env.scope.names.lookup x = some .free := hk
        rw [k] at this; cases this
      · have : X.env.scope.names.lookup x = some .free := hk
        rw [k] at this; cases this
end

section
variable {X : Cx} {pos : Pos}
def tWhile (c : TT) (tb : TS) : TS := fun D σ H => ∃ W : Nat → St → Hp → Prop, (∃ m, W m σ H) ∧ ∀ m σ H, W m σ H →
  c σ H fun b H1 => if b = true then ∃ N : St → Hp → Prop, (∀ σ' H', N σ' H' → ∃ m', m' < m ∧ W m' σ' H') ∧ tb { D with nx := N, ct := N, bk := D.nx } σ H1 else D.nx σ H1
theorem ps_while {c : Expr} {body : List Stmt} {tc : TT} {tb : TS} (hp : PassesOwn (model X.prog X.w) X.A X.env X.xe) (hc : PT X c tc) (hb : PSs X body tb) : PS X (.While c body [] pos) (tWhile tc tb) := by
  intro pins s σ H D I h
  obtain ⟨W, ⟨m0, w0⟩, turn⟩ := h
  refine wpAny_While (codeAny_whileLoop (fun n s' => ∃ σ' H', Inv X pins σ' H' s' ∧ W n σ' H') ?_ m0 ⟨σ, H, I, w0⟩)
  rintro n s1 ⟨σ1, H1, I1, w1⟩
  refine wpAny_passesOwn hp (thn (hc pins s1 σ1 H1 _ I1 (turn n σ1 H1 w1)) fun b s2 ⟨H2, I2, q2⟩ => ?_)
  cases b with
  | true =>
    obtain ⟨N, hN, q2⟩ := q2
    rw [if_pos rfl]
    refine wpAny_passesOwn hp (thn (hb pins s2 σ1 H2 _ I2 q2) fun f s3 q3 => ?_)
    cases f with
    | next =>
      obtain ⟨σ3, H3, I3, n3⟩ := q3
      obtain ⟨m', hm, w3⟩ := hN σ3 H3 n3
      exact ⟨m', hm, σ3, H3, I3, w3⟩
    | cont =>
      obtain ⟨σ3, H3, I3, n3⟩ := q3
      obtain ⟨m', hm, w3⟩ := hN σ3 H3 n3
      exact ⟨m', hm, σ3, H3, I3, w3⟩
    | brk => exact q3
    | ret v => exact q3
  | false =>
    rw [if_neg Bool.false_ne_true]
    exact wpAny_execs_nil ⟨σ1, H2, I2, q2⟩
end

structure It where
  go : Nat → Hp → Prop
  yld : Nat → Hp → V → Hp → Prop
  stop : Nat → Hp → Prop
def FpOk (X : Cx) (pins : List (Addr × Obj)) (H : Hp) (b : Addr) : Prop :=
  H b = none ∧ b ≠ X.env.locals ∧ b ∉ X.fs ∧ (b ∈ X.ex ∨ X.s₀.heap.objs.size ≤ b) ∧ (∀ x c, X.env.cells.lookup x = some c → c ≠ b) ∧ ∀ p ∈ X.pn ++ pins, p.1 ≠ b
theorem Inv.fpOk {X : Cx} {pins : List (Addr × Obj)} {σ : St} {H H' : Hp} {s : Shared} {b : Addr} (I : Inv X pins σ H s) (hb : s.heap.objs.size ≤ b) (hn : H' b = none) : FpOk X pins H' b := by
  refine ⟨hn, Nat.ne_of_gt (Nat.lt_of_lt_of_le I.lt hb), I.nofs hb, .inr (Nat.le_trans I.sz hb), fun x c e z => ?_, fun p hp z => ?_⟩
  · obtain ⟨v, q⟩ := I.cell x c e
    exact absurd (Nat.lt_of_lt_of_le q.lt (by rw [z]; exact hb)) (Nat.lt_irrefl _)
  · exact absurd (Nat.lt_of_lt_of_le (Heap.lt_size (I.pin p hp).1) (by rw [z]; exact hb)) (Nat.lt_irrefl _)
structure Turn (P : Program) (w : World) (K : PySem.W.Frag) (tg : Expr) (J : It) (fp : List Addr) (it : Addr) (tn : Nat → Heap → Prop) : Prop where
  mem : it ∈ fp
  obj : ∀ i h, tn i h → ∀ b ∈ fp, ∃ o, h.get? b = some o ∧ ∀ v, o.data ≠ .cell v
  keep : ∀ i h h', tn i h → (∀ b ∈ fp, ∀ o, h.get? b = some o → h'.get? b = some o) → tn i h'
  item : ∀ (X : Cx), X.prog = P → X.w = w → X.K = K → X.calm = true → ∀ (i : Nat) (pins : List (Addr × Obj)) (s : Shared) (σ : St) (H : Hp) (E : Value → Shared → Prop), Inv X pins σ H s → (∀ b ∈ fp, FpOk X pins H b) → tn i s.heap → J.go i H →
    wpAny (model P w) X.A (pyNext (.ref it)) (fun r s1 => ∃ u, r = some u ∧
      wpAny (model P w) X.A (letOwnedTupleGo tg (.ref it) u) (fun _ s2 => ∃ x H', Inv X pins σ H' s2 ∧ RelV x u ∧ J.yld i H x H' ∧ tn (i + 1) s2.heap ∧ ∀ b ∈ fp, H' b = none) E s1) E s
  done : ∀ (X : Cx), X.prog = P → X.w = w → X.K = K → X.calm = true → ∀ (i : Nat) (pins : List (Addr × Obj)) (s : Shared) (σ : St) (H : Hp) (E : Value → Shared → Prop), Inv X pins σ H s → (∀ b ∈ fp, FpOk X pins H b) → tn i s.heap → J.stop i H →
    wpAny (model P w) X.A (pyNext (.ref it)) (fun r s1 => r = none ∧ Inv X pins σ H s1) E s
  self : ∀ (A : Around) (i : Nat) (s : Shared) (Q : Value → Shared → Prop) (E : Value → Shared → Prop), tn i s.heap → Q (.ref it) s → wpAny (model P w) A (pyIter (.ref it)) Q E s
abbrev TI := St → Hp → (It → Hp → Prop) → Prop
def PIE (X : Cx) (pins : List (Addr × Obj)) (σ : St) (tg : Expr) (R : It → Hp → Prop) (itv : Value) (s2 : Shared) : Prop :=
  ∃ (it : Addr) (fp : List Addr) (tn : Nat → Heap → Prop) (J : It) (H' : Hp), itv = .ref it ∧ Inv X pins σ H' s2 ∧ Turn X.prog X.w X.K tg J fp it tn ∧ tn 0 s2.heap ∧ (∀ b ∈ fp, FpOk X pins H' b) ∧ R J H'
def PI (X : Cx) (tg iter : Expr) (wi : TI) : Prop :=
  ∀ (pins : List (Addr × Obj)) (s : Shared) (σ : St) (H : Hp) (R : It → Hp → Prop), Inv X pins σ H s → wi σ H R →
    wpAny (model X.prog X.w) X.A (eval iter X.env) (fun v s1 => wpAny (model X.prog X.w) X.A (pyIter v) (PIE X pins σ tg R) X.xe s1) X.xe s

theorem go_of {M : Model} {A : Around} {E : Value → Shared → Prop} {s : Shared} {tg : Expr} {it : Addr} {u : Value} {o : Obj} {n : String} {vs : Array Value} {Q : Unit → Shared → Prop} (ho : s.heap.get? it = some o) (hc : o.cls = .type n) (hd : o.data = .fields vs)
    (hn : ["enumerate", "zip", "dict_itemiterator", "dict_reverseitemiterator", "odict_iterator", "itertools.zip_longest", "itertools.pairwise"].contains n = false) (hQ : Q () s) : wpAny M A (letOwnedTupleGo tg (.ref it) u) Q E s := by
  unfold letOwnedTupleGo
  cases tg <;> first
    | exact wpAny_pure hQ
    | (cases u <;> first
        | exact wpAny_pure hQ
        | (refine wpAny_bind (wpAny_load ho ?_)
           rw [hc, hd]
           show wpAny M A (if (["enumerate", "zip", "dict_itemiterator", "dict_reverseitemiterator", "odict_iterator", "itertools.zip_longest", "itertools.pairwise"].contains n && vs[0]? == some (rawInt _)) = true then _ else _) Q E s
           rw [if_neg (by intro h; rw [hn, Bool.false_and] at h; cases h)]
           exact wpAny_pure hQ))

def Itl (K : PySem.W.Frag) (a : Addr) : It :=
  ⟨fun i H => ∃ xs x, SqL K H a xs ∧ xs[i]? = some x, fun i H x H' => H' = H ∧ ∀ xs, SqL K H a xs → xs[i]? = some x, fun i H => ∃ xs, SqL K H a xs ∧ xs.length ≤ i⟩
def Itr (lo : Int) (n : Nat) : It := ⟨fun i _ => i < n, fun i H x H' => H' = H ∧ x = .int (lo + i), fun i _ => n ≤ i⟩
theorem turn_list {P : Program} {w : World} {K : PySem.W.Frag} {tg : Expr} (a it : Addr) : Turn P w K tg (Itl K a) [it] it (fun i h => h.IsListIter it a i) where
  mem := by simp
  obj := fun i h st b hb => by
    have e : b = it := by simpa using hb
    subst e
    obtain ⟨o, e, c, d⟩ := st
    exact ⟨o, e, fun v z => by rw [d] at z; cases z⟩
  keep := fun i h h' st k => st.at fun o e => k it (by simp) o e
  item := by
    intro X hP hw hK hc i pins s σ H E I hf st hg
    subst hP hw hK
    obtain ⟨xs, x, hq, hx⟩ := hg
    obtain ⟨its, rv, p, hz⟩ := I.list hq
    obtain ⟨u, hu, ru⟩ := rv.get hx
    obtain ⟨f0, f1, f2, f3, f4, f5⟩ := hf it (by simp)
    refine wpAny_pyNext_list_item st p.isList (x := u) (by simpa using hu) fun h' st' sb => ?_
    have I1 : Inv X pins σ H { s with heap := h' } := I.turned (t' := s.toks) (fun b o hb e => (sb.2 b hb).trans e) f0 f1 f3 f4 f5
    obtain ⟨o, e, c, d⟩ := id st'
    exact ⟨u, rfl, go_of (s := { s with heap := h' }) e c d (by decide) ⟨x, H, I1, ru, ⟨rfl, fun ys hy => by rw [I.list_inj hy hq]; exact hx⟩, st', fun b hb => (hf b hb).1⟩⟩
  done := by
    intro X hP hw hK hc i pins s σ H E I hf st hg
    subst hP hw hK
    obtain ⟨xs, hq, hx⟩ := hg
    obtain ⟨its, rv, p, hz⟩ := I.list hq
    obtain ⟨f0, f1, f2, f3, f4, f5⟩ := hf it (by simp)
    have hl := rv.length
    exact wpAny_pyNext_list_end (I.ok.hd hc) st p.isList (by simp; (first | lia | omega)) fun h' eb => ⟨rfl, I.turned (t' := s.toks) (fun b o hb e => eb b o hb e) f0 f1 f3 f4 f5⟩
  self := fun _ _ _ _ _ st h => wpAny_pyIter_listiter st h
theorem turn_range {P : Program} {w : World} {K : PySem.W.Frag} {tg : Expr} (it : Addr) (lo : Int) (n : Nat) : Turn P w K tg (Itr lo n) [it] it (fun i h => IsRangeIter h it (lo + (i : Nat) * 1) ((n : Int) - (i : Nat)) 1) where
  mem := by simp
  obj := fun i h st b hb => by
    have e : b = it := by simpa using hb
    subst e
    exact ⟨_, st, fun v z => by
      have z' : Data.fields _ = Data.cell v := z
      cases z'⟩
  keep := fun i h h' st k => k it (by simp) _ st
  item := by
    intro X hP hw hK hc i pins s σ H E I hf st hg
    subst hP hw hK
    obtain ⟨f0, f1, f2, f3, f4, f5⟩ := hf it (by simp)
    have W := Walks.range (prog := X.prog) (w := X.w) (I.ok.hd hc) it lo 1 n
    refine W.item i s _ _ hg st fun v h' tk hv st' kk => ?_
    obtain ⟨t, rfl⟩ := hv
    have I1 : Inv X pins σ H { s with heap := h', toks := tk } := I.turned (fun b o hb e => kk b o (by simpa using hb) e) f0 f1 f3 f4 f5
    refine ⟨_, rfl, go_of (s := { s with heap := h', toks := tk }) (n := "range_iterator") st' rfl rfl (by decide) ⟨.int (lo + i), H, I1, ⟨t, ?_⟩, ⟨rfl, rfl⟩, st', fun b hb => (hf b hb).1⟩⟩
    rw [Int.mul_one]
  done := by
    intro X hP hw hK hc i pins s σ H E I hf st hg
    subst hP hw hK
    obtain ⟨f0, f1, f2, f3, f4, f5⟩ := hf it (by simp)
    exact wpAny_pyNext_range_end (I.ok.hd hc) st (by have : n ≤ i := hg; (first | lia | omega)) fun h' eb => ⟨rfl, I.turned (t' := s.toks) (fun b o hb e => eb b o hb e) f0 f1 f3 f4 f5⟩
  self := fun _ _ _ _ _ st h => wpAny_pyIter_rangeiter st h
end L2

namespace L2
open PySem PySem.Spec PyProof.Rows
section
variable {X : Cx} {tg : Expr}
def iList (K : PySem.W.Frag) (tl : TE) : TI := fun σ H R => tl σ H fun x H1 => ∃ a, x = .ref a ∧ (∃ xs, SqL K H1 a xs) ∧ R (Itl K a) H1
theorem pi_list {l : Expr} {tl : TE} (hl : PE X l tl) : PI X tg l (iList X.K tl) := by
  intro pins s σ H R I h
  refine thn (hl pins s σ H _ I h) fun v s1 ⟨x, H1, I1, r1, q1⟩ => ?_
  obtain ⟨a, e, ⟨xs, hq⟩, q⟩ := q1
  subst e
  cases r1
  obtain ⟨its, rv, p, hz⟩ := I1.list hq
  refine wpAny_pyIter_list p.isList ?_
  refine ⟨s1.heap.objs.size, [s1.heap.objs.size], _, _, H1, rfl, I1.kept (t' := s1.toks) fun b o e => Heap.get?_push_of_some _ e, turn_list a _, ⟨_, Heap.get?_push_size _ rfl, rfl, rfl⟩, fun b hb => ?_, q⟩
  have e : b = s1.heap.objs.size := by simpa using hb
  subst e
  exact I1.fpOk (Nat.le_refl _) (I1.hok.fresh (Nat.le_refl _))
theorem range_it {pins : List (Addr × Obj)} {σ : St} {H : Hp} {s : Shared} {R : It → Hp → Prop} {E : Value → Shared → Prop} {lo hi : Int} {t u v : Tok} {tk : Nat} (I : Inv X pins σ H s) (h1 : -(2 ^ 62) ≤ lo) (h2 : lo < 2 ^ 62) (h3 : -(2 ^ 62) ≤ hi) (h4 : hi < 2 ^ 62)
    (q : R (Itr lo (hi - lo).toNat) H) : wpAny (model X.prog X.w) X.A (pyIter (.ref s.heap.objs.size)) (PIE X pins σ tg R) E { s with heap := s.heap.push { cls := .type "range", data := .fields #[.int lo t, .int hi u, .int 1 v] }, toks := tk } := by
  refine wpAny_pyIter_range (IsRange.new ..) (small_one h1 h2 h3 h4) ?_
  have I1 : Inv X pins σ H { s with heap := s.heap.push { cls := .type "range", data := .fields #[.int lo t, .int hi u, .int 1 v] }, toks := tk } := I.kept fun b o e => Heap.get?_push_of_some _ e
  refine ⟨(s.heap.push { cls := .type "range", data := .fields #[.int lo t, .int hi u, .int 1 v] }).objs.size, [(s.heap.push { cls := .type "range", data := .fields #[.int lo t, .int hi u, .int 1 v] }).objs.size], _, _, H, rfl,
    I1.kept (t' := tk) fun b o e => Heap.get?_push_of_some _ e, turn_range _ lo (hi - lo).toNat, ?_, fun b hb => ?_, q⟩
  · have e1 : lo + ((0 : Nat) : Int) * 1 = lo := by simp
    have e2 : (((hi - lo).toNat : Nat) : Int) - ((0 : Nat) : Int) = Builtin.Range.rangeSize lo hi 1 := by rw [rangeSize_one]; split <;> (first | lia | omega)
    show IsRangeIter _ _ (lo + ((0 : Nat) : Int) * 1) ((((hi - lo).toNat : Nat) : Int) - ((0 : Nat) : Int)) 1
    rw [e1, e2]
    exact Heap.get?_push_size _ rfl
  · have e : b = (s.heap.push { cls := .type "range", data := .fields #[.int lo t, .int hi u, .int 1 v] }).objs.size := by simpa using hb
    subst e
    exact I1.fpOk (Nat.le_refl _) (I1.hok.fresh (Nat.le_refl _))
def iRng1 (ta : TA) : TI := fun σ H R => ta σ H fun vs H1 => ∃ j : Int, vs = [.int j] ∧ -(2 ^ 62) ≤ j ∧ j < 2 ^ 62 ∧ R (Itr 0 j.toNat) H1
theorem pi_range1 {a : Expr} {ta : TA} {p pos : Pos} (hg : Gl X "range") (hm : X.mg "range" = none) (ha : PA X [a] ta) (hs : starEach [a] X.env = [(false, eval a X.env)] := by rfl) : PI X tg (.Call (.Name "range" p) [a] [] pos) (iRng1 ta) := by
  intro pins s σ H R I h
  refine Call_ (ld_blt I hg hm boot_range (PyProof.Rows.callWith_type1 (thn (ha pos pins s σ H _ I h) fun us s1 ⟨vs, H1, I1, r1, q1⟩ => ?_) hs rfl))
  obtain ⟨j, e, q1, q2, q⟩ := q1
  subst e
  cases r1 with
  | cons r rr =>
    cases rr
    obtain ⟨t, rfl⟩ := r
    exact call_range_1 (range_it I1 (by (first | lia | omega)) (by (first | lia | omega)) q1 q2 (by simpa using q))
def tFor (wi : TI) (g : TG) (tb : TS) : TS := fun D σ H => wi σ H fun J H1 => ∃ W : Nat → Nat → St → Hp → Prop, (∃ m, W 0 m σ H1) ∧ ∀ i m σ H, W i m σ H →
  (J.stop i H ∧ D.nx σ H) ∨ (J.go i H ∧ ∃ N : St → Hp → Prop, (∀ σ' H', N σ' H' → ∃ m', m' < m ∧ W (i + 1) m' σ' H') ∧ ∀ x H', J.yld i H x H' → g x σ H' fun σ2 H2 => tb { D with nx := N, ct := N, bk := D.nx } σ2 H2)
def pinsAt (fp : List Addr) (h : Heap) : List (Addr × Obj) := fp.filterMap fun b => (h.get? b).map fun o => (b, o)
theorem mem_pinsAt {fp : List Addr} {h : Heap} {b : Addr} {o : Obj} (hb : b ∈ fp) (e : h.get? b = some o) : (b, o) ∈ pinsAt fp h := List.mem_filterMap.mpr ⟨b, hb, by rw [e]; rfl⟩
theorem of_pinsAt {fp : List Addr} {h : Heap} {p : Addr × Obj} (hp : p ∈ pinsAt fp h) : p.1 ∈ fp ∧ h.get? p.1 = some p.2 := by
  obtain ⟨b, hb, e⟩ := List.mem_filterMap.mp hp
  cases q : h.get? b with
  | none => rw [q] at e; cases e
  | some o =>
    rw [q] at e
    have e' : (b, o) = p := Option.some.inj e
    subst e'
    exact ⟨hb, q⟩
theorem Inv.pinned {pins : List (Addr × Obj)} {σ : St} {H : Hp} {s : Shared} {fp : List Addr} (I : Inv X pins σ H s) (hf : ∀ b ∈ fp, FpOk X pins H b) (ho : ∀ b ∈ fp, ∃ o, s.heap.get? b = some o ∧ ∀ v, o.data ≠ .cell v) : Inv X (pins ++ pinsAt fp s.heap) σ H s :=
  I.pins_of fun p hp => (List.mem_append.mp hp).elim (fun z => I.pin p (List.mem_append_right _ z)) fun z => by
    obtain ⟨hb, e⟩ := of_pinsAt z
    obtain ⟨f0, f1, f2, _⟩ := hf p.1 hb
    obtain ⟨o, e', d⟩ := ho p.1 hb
    rw [e] at e'; cases e'
    exact ⟨e, f0, f1, f2, d⟩
theorem Inv.unpinned {pins pl : List (Addr × Obj)} {σ : St} {H : Hp} {s : Shared} (I : Inv X (pins ++ pl) σ H s) : Inv X pins σ H s := I.pins_of fun p hp => I.pin p (List.mem_append_right _ (List.mem_append_left _ hp))
theorem ps_for {iter : Expr} {body : List Stmt} {wi : TI} {g : TG} {tb : TS} {pos : Pos} (hp : PassesOwn (model X.prog X.w) X.A X.env X.xe) (hc : X.calm = true) (hi : PI X tg iter wi) (hg : PG X tg g) (hb : PSs X body tb)
    (hs : ∀ x, foldedSetIterable iter X.env x = pure x := by intro _; rfl) : PS X (.For tg iter body [] pos) (tFor wi g tb) := by
  intro pins s σ H D I h
  refine wpAny_For (thn (hi pins s σ H _ I h) fun v s1 h1 => thn h1 fun itv s2 h2 => ?_) hs
  obtain ⟨it, fp, tn, J, H2, e, I2, T, st2, f2, W, ⟨m0, w0⟩, turn⟩ := h2
  subst e
  -- what stays true of the iterator's objects through the loop
  have stat : ∀ {H' : Hp}, (∀ b ∈ fp, H' b = none) → ∀ b ∈ fp, FpOk X pins H' b := fun hn b hb => ⟨hn b hb, (f2 b hb).2⟩
  refine codeAny_forLoop_any (fun n s' => ∃ i σ' H', Inv X pins σ' H' s' ∧ tn i s'.heap ∧ (∀ b ∈ fp, H' b = none) ∧ W i n σ' H') ?_ m0 ⟨0, σ, H2, I2, st2, fun b hb => (f2 b hb).1, w0⟩
  rintro n s3 ⟨i, σ3, H3, I3, st3, fr3, w3⟩
  rcases turn i n σ3 H3 w3 with ⟨stop, qn⟩ | ⟨go, N, hN, step⟩
  · refine wpAny_passesOwn hp (thn (T.done X rfl rfl rfl hc i pins s3 σ3 H3 X.xe I3 (stat fr3) st3 stop) fun r s4 ⟨hr, I4⟩ => ?_)
    subst hr
    exact wpAny_execs_nil ⟨σ3, H3, I4, qn⟩
  · refine wpAny_passesOwn hp (thn (T.item X rfl rfl rfl hc i pins s3 σ3 H3 X.xe I3 (stat fr3) st3 go) fun r s4 ⟨u, hr, h4⟩ => ?_)
    subst hr
    refine wpAny_passesOwn hp (thn h4 fun _ s5 ⟨x, H5, I5, r5, y5, st5, fr5⟩ => ?_)
    have I5' := I5.pinned (stat fr5) (T.obj _ _ st5)
    refine wpAny_passesOwn hp (thn (hg _ s5 σ3 H5 x u _ I5' r5 (step x H5 y5)) fun _ s6 ⟨σ6, H6, I6, q6⟩ => ?_)
    refine wpAny_passesOwn hp (thn (hb _ s6 σ6 H6 _ I6 q6) fun f s7 q7 => ?_)
    have again : ∀ {σ7 : St} {H7 : Hp}, Inv X (pins ++ pinsAt fp s5.heap) σ7 H7 s7 → N σ7 H7 → ∃ m, m < n ∧ ∃ i σ' H', Inv X pins σ' H' s7 ∧ tn i s7.heap ∧ (∀ b ∈ fp, H' b = none) ∧ W i m σ' H' := fun {σ7 H7} I7 n7 => by
      obtain ⟨m', hm, w7⟩ := hN σ7 H7 n7
      refine ⟨m', hm, i + 1, σ7, H7, I7.unpinned, T.keep _ _ _ st5 fun b hb o e => (I7.pin (b, o) (List.mem_append_right _ (List.mem_append_right _ (mem_pinsAt hb e)))).1, fun b hb => ?_, w7⟩
      obtain ⟨o, e, d⟩ := T.obj _ _ st5 b hb
      exact (I7.pin (b, o) (List.mem_append_right _ (List.mem_append_right _ (mem_pinsAt hb e)))).2.1
    cases f with
    | next => obtain ⟨σ7, H7, I7, n7⟩ := q7; exact again I7 n7
    | cont => obtain ⟨σ7, H7, I7, n7⟩ := q7; exact again I7 n7
    | brk => obtain ⟨σ7, H7, I7, q7⟩ := q7; exact ⟨σ7, H7, I7.unpinned, q7⟩
    | ret v => obtain ⟨x7, σ7, H7, I7, r7, q7⟩ := q7; exact ⟨x7, σ7, H7, I7.unpinned, r7, q7⟩
end

theorem for_list {K : PySem.W.Frag} {a : Addr} {xs : List V} {g : TG} {tb : TS} {D : Ends} {σ : St} {H : Hp} (Pv : Nat → St → Hp → Prop) (h0 : Pv 0 σ H) (hl : ∀ i σ H, i ≤ xs.length → Pv i σ H → SqL K H a xs)
    (hs : ∀ i x σ H, xs[i]? = some x → Pv i σ H → g x σ H fun σ2 H2 => tb { D with nx := Pv (i + 1), ct := Pv (i + 1), bk := D.nx } σ2 H2) (hd : ∀ σ H, Pv xs.length σ H → D.nx σ H) :
    ∃ W : Nat → Nat → St → Hp → Prop, (∃ m, W 0 m σ H) ∧ ∀ i m σ H, W i m σ H →
      ((Itl K a).stop i H ∧ D.nx σ H) ∨ ((Itl K a).go i H ∧ ∃ N : St → Hp → Prop, (∀ σ' H', N σ' H' → ∃ m', m' < m ∧ W (i + 1) m' σ' H') ∧ ∀ x H', (Itl K a).yld i H x H' → g x σ H' fun σ2 H2 => tb { D with nx := N, ct := N, bk := D.nx } σ2 H2) := by
  refine ⟨fun i m σ H => m = xs.length - i ∧ i ≤ xs.length ∧ Pv i σ H, ⟨xs.length, by simp, Nat.zero_le _, h0⟩, ?_⟩
  rintro i m σ H ⟨rfl, hi, p⟩
  have q := hl i σ H hi p
  by_cases hlt : i < xs.length
  · refine .inr ⟨⟨xs, xs[i], q, by simp [hlt]⟩, Pv (i + 1), fun σ' H' p' => ⟨xs.length - (i + 1), by (first | lia | omega), rfl, hlt, p'⟩, fun x H' y => ?_⟩
    obtain ⟨e, y⟩ := y
    subst e
    exact hs i x σ _ (y xs q) p
  · have e : i = xs.length := by (first | lia | omega)
    subst e
    exact .inl ⟨⟨xs, q, Nat.le_refl _⟩, hd σ H p⟩
theorem for_range {lo : Int} {n : Nat} {g : TG} {tb : TS} {D : Ends} {σ : St} {H : Hp} (Pv : Nat → St → Hp → Prop) (h0 : Pv 0 σ H)
    (hs : ∀ i σ H, i < n → Pv i σ H → g (.int (lo + i)) σ H fun σ2 H2 => tb { D with nx := Pv (i + 1), ct := Pv (i + 1), bk := D.nx } σ2 H2) (hd : ∀ σ H, Pv n σ H → D.nx σ H) :
    ∃ W : Nat → Nat → St → Hp → Prop, (∃ m, W 0 m σ H) ∧ ∀ i m σ H, W i m σ H →
      ((Itr lo n).stop i H ∧ D.nx σ H) ∨ ((Itr lo n).go i H ∧ ∃ N : St → Hp → Prop, (∀ σ' H', N σ' H' → ∃ m', m' < m ∧ W (i + 1) m' σ' H') ∧ ∀ x H', (Itr lo n).yld i H x H' → g x σ H' fun σ2 H2 => tb { D with nx := N, ct := N, bk := D.nx } σ2 H2) := by
  refine ⟨fun i m σ H => m = n - i ∧ i ≤ n ∧ Pv i σ H, ⟨n, by simp, Nat.zero_le _, h0⟩, ?_⟩
  rintro i m σ H ⟨rfl, hi, p⟩
  by_cases hlt : i < n
  · refine .inr ⟨hlt, Pv (i + 1), fun σ' H' p' => ⟨n - (i + 1), by (first | lia | omega), rfl, hlt, p'⟩, fun x H' y => ?_⟩
    obtain ⟨e, y⟩ := y
    subst e y
    exact hs i σ _ hlt p
  · have e : i = n := by (first | lia | omega)
    subst e
    exact .inl ⟨Nat.le_refl _, hd σ H p⟩
end L2

namespace L2
open PySem PySem.Spec PyProof.Rows

abbrev R2 := V → V → Hp → VK → Prop
def OpR (X : Cx) (f : Value → Value → Sem Value) (r : R2) : Prop :=
  ∀ (pins : List (Addr × Obj)) (s : Shared) (σ : St) (H : Hp) (x y : V) (v u : Value) (Q : VK), Inv X pins σ H s → RelV x v → RelV y u → r x y H Q →
    wpAny (model X.prog X.w) X.A (f v u) (EP X pins σ Q) X.xe s
def UnR (X : Cx) (f : Value → Sem Value) (r : V → Hp → VK → Prop) : Prop :=
  ∀ (pins : List (Addr × Obj)) (s : Shared) (σ : St) (H : Hp) (x : V) (v : Value) (Q : VK), Inv X pins σ H s → RelV x v → r x H Q →
    wpAny (model X.prog X.w) X.A (f v) (EP X pins σ Q) X.xe s
def CallR (X : Cx) (f : Value) (r : List V → Hp → VK → Prop) : Prop :=
  ∀ (pins : List (Addr × Obj)) (s : Shared) (σ : St) (H : Hp) (xs : List V) (us : List Value) (Q : VK), Inv X pins σ H s → Vals xs us → r xs H Q →
    wpAny (model X.prog X.w) X.A (call f us) (EP X pins σ Q) X.xe s
def tOp (r : R2) (ta tb : TE) : TE := fun σ H Q => ta σ H fun x H1 => tb σ H1 fun y H2 => r x y H2 Q
def tUn (r : V → Hp → VK → Prop) (ta : TE) : TE := fun σ H Q => ta σ H fun x H1 => r x H1 Q
def rI (C : Int → Int → Prop) (g : Int → Int → V) : R2 := fun x y H Q => ∃ i j, x = .int i ∧ y = .int j ∧ C i j ∧ Q (g i j) H
def rI0 (g : Int → Int → V) : R2 := fun x y H Q => ∃ i j, x = .int i ∧ y = .int j ∧ Q (g i j) H
def rU (g : Int → V) : V → Hp → VK → Prop := fun x H Q => ∃ i, x = .int i ∧ Q (g i) H

section
variable {X : Cx} {a b c : Expr} {ta tb tc : TE} {pos : Pos}

theorem binT (ha : PE X a ta) (hb : PE X b tb) {pins : List (Addr × Obj)} {s : Shared} {σ : St} {H : Hp} {R : V → V → Hp → Prop} (I : Inv X pins σ H s)
    (h : ta σ H fun x H1 => tb σ H1 fun y H2 => R x y H2) {Q : Value → Shared → Prop} {f : Value → Value → Sem Value}
    (hf : ∀ v u s2 x y H2, Inv X pins σ H2 s2 → RelV x v → RelV y u → R x y H2 → wpAny (model X.prog X.w) X.A (f v u) Q X.xe s2) :
    wpAny (model X.prog X.w) X.A (eval a X.env) (fun v s₁ => wpAny (model X.prog X.w) X.A (eval b X.env) (fun u s₂ => wpAny (model X.prog X.w) X.A (f v u) Q X.xe s₂) X.xe s₁) X.xe s := by
  refine thn (ha pins s σ H _ I h) fun v s1 ⟨x, H1, I1, r1, q1⟩ => ?_
  refine thn (hb pins s1 σ H1 _ I1 q1) fun u s2 ⟨y, H2, I2, r2, q2⟩ => ?_
  exact hf v u s2 x y H2 I2 r1 r2 q2

theorem pe_op {op : Operator} {r : R2} (ho : OpR X (binaryOp op) r) (ha : PE X a ta) (hb : PE X b tb) : PE X (.BinOp a op b pos) (tOp r ta tb) := by
  intro pins s σ H Q I h
  exact wpAny_BinOp (binT ha hb I h fun v u s2 x y H2 I2 rx ry q => ho pins s2 σ H2 x y v u Q I2 rx ry q)
theorem pe_un {op : UnaryOp} {r : V → Hp → VK → Prop} (ho : UnR X (unaryOp op) r) (ha : PE X a ta) : PE X (.UnaryOp op a pos) (tUn r ta) := by
  intro pins s σ H Q I h
  exact UnaryOp_ (thn (ha pins s σ H _ I h) fun v s1 ⟨x, H1, I1, r1, q1⟩ => ho pins s1 σ H1 x v Q I1 r1 q1)
theorem opI {f : Value → Value → Sem Value} {C : Int → Int → Prop} {g : Int → Int → Int}
    (rule : ∀ (i j : Int) (t u : Tok) (s : Shared) (Q : Value → Shared → Prop) (E : Value → Shared → Prop), C i j → Q (.int (g i j) s.toks) { s with toks := s.toks + 1 } → wpAny (model X.prog X.w) X.A (f (.int i t) (.int j u)) Q E s) :
    OpR X f (rI C fun i j => .int (g i j)) := by
  intro pins s σ H x y v u Q I rx ry h
  obtain ⟨i, j, rfl, rfl, hc, q⟩ := h
  obtain ⟨t, rfl⟩ := rx
  obtain ⟨t', rfl⟩ := ry
  exact rule i j t t' s _ _ hc ⟨.int (g i j), H, I.tok _, ⟨_, rfl⟩, q⟩
theorem opI0 {f : Value → Value → Sem Value} {g : Int → Int → Int}
    (rule : ∀ (i j : Int) (t u : Tok) (s : Shared) (Q : Value → Shared → Prop) (E : Value → Shared → Prop), Q (.int (g i j) s.toks) { s with toks := s.toks + 1 } → wpAny (model X.prog X.w) X.A (f (.int i t) (.int j u)) Q E s) :
    OpR X f (rI0 fun i j => .int (g i j)) := by
  intro pins s σ H x y v u Q I rx ry h
  obtain ⟨i, j, rfl, rfl, q⟩ := h
  obtain ⟨t, rfl⟩ := rx
  obtain ⟨t', rfl⟩ := ry
  exact rule i j t t' s _ _ ⟨.int (g i j), H, I.tok _, ⟨_, rfl⟩, q⟩
theorem opB0 {f : Value → Value → Sem Value} {g : Int → Int → Bool}
    (rule : ∀ (i j : Int) (t u : Tok) (s : Shared) (Q : Value → Shared → Prop) (E : Value → Shared → Prop), Q (.bool (g i j)) s → wpAny (model X.prog X.w) X.A (f (.int i t) (.int j u)) Q E s) :
    OpR X f (rI0 fun i j => .bl (g i j)) := by
  intro pins s σ H x y v u Q I rx ry h
  obtain ⟨i, j, rfl, rfl, q⟩ := h
  obtain ⟨t, rfl⟩ := rx
  obtain ⟨t', rfl⟩ := ry
  exact rule i j t t' s _ _ ⟨.bl (g i j), H, I, rfl, q⟩

def CDiv (i j : Int) : Prop := 0 < j ∧ j < 1073741824
def CPow (i j : Int) : Prop := 0 ≤ j ∧ j ≤ 1000000 ∧ i.natAbs < 2 ^ 64
def CMul (i j : Int) : Prop := (-(2 ^ 64) < i ∧ i < 2 ^ 64) ∨ (-(2 ^ 64) < j ∧ j < 2 ^ 64)
theorem CMul.ok {i j : Int} (h : CMul i j) : IntMulOk i j := by
  rcases h with ⟨h1, h2⟩ | ⟨h1, h2⟩
  · exact .of_left (intBits_le_64 h1 h2)
  · exact .of_right (intBits_le_64 h1 h2)
theorem two_pow_nn (k : Nat) : (0 : Int) ≤ 2 ^ k := by
  rw [two_pow_cast]
  exact Int.natCast_nonneg _

theorem op_add : OpR X (binaryOp .Add) (rI0 fun i j => .int (i + j)) := opI0 fun _ _ _ _ _ _ _ q => add_int q
theorem op_sub : OpR X (binaryOp .Sub) (rI0 fun i j => .int (i - j)) := opI0 fun _ _ _ _ _ _ _ q => sub_int q
theorem op_mul : OpR X (binaryOp .Mult) (rI CMul fun i j => .int (i * j)) := opI fun _ _ _ _ _ _ _ hc q => mul_int q hc.ok
theorem op_fdiv : OpR X (binaryOp .FloorDiv) (rI CDiv fun i j => .int (i / j)) := opI fun i j _ _ _ _ _ hc q => by
  have h1 : (0 : Int) < j := hc.1
  have h2 : j < 1073741824 := hc.2
  exact floordiv_int (by (first | lia | omega)) (by rw [Int.fdiv_eq_ediv_of_nonneg i (by (first | lia | omega))]; exact q) (.inl (PyProof.noPylong_small (by (first | lia | omega))))
theorem op_mod : OpR X (binaryOp .Mod) (rI (fun _ j => 0 < j) fun i j => .int (i % j)) := opI fun i j _ _ _ _ _ hc q => by
  have h1 : (0 : Int) < j := hc
  exact mod_int' (by (first | lia | omega)) (by rw [Int.fmod_eq_emod_of_nonneg i (by (first | lia | omega))]; exact q)
theorem op_pow : OpR X (binaryOp .Pow) (rI CPow fun i j => .int (i ^ j.toNat)) := opI fun _ _ _ _ _ _ _ hc q => pow_int_small hc.1 hc.2.1 hc.2.2 q
theorem op_shl : OpR X (binaryOp .LShift) (rI CPow fun i j => .int (i * 2 ^ j.toNat)) := opI fun _ _ _ _ _ _ _ hc q => lshift_int_small hc.1 hc.2.1 hc.2.2 q
theorem op_shr : OpR X (binaryOp .RShift) (rI (fun _ j => 0 ≤ j) fun i j => .int (i / 2 ^ j.toNat)) := opI fun i j _ _ _ _ _ hc q =>
  rshift_int hc (by rw [Int.fdiv_eq_ediv_of_nonneg i (two_pow_nn _)]; exact q)
theorem op_and : OpR X (binaryOp .BitAnd) (rI0 fun i j => .int (Builtin.bitAnd i j)) := opI0 fun _ _ _ _ _ _ _ q => and_int q
theorem op_xor : OpR X (binaryOp .BitXor) (rI0 fun i j => .int (Builtin.bitXor i j)) := opI0 fun _ _ _ _ _ _ _ q => xor_int q

theorem iop_or : OpR X (inplaceOp .BitOr) (rI0 fun i j => .int (Builtin.bitOr i j)) := opI0 fun _ _ _ _ _ _ _ q => ior_int q
theorem unI {f : Value → Sem Value} {g : Int → Int}
    (rule : ∀ (i : Int) (t : Tok) (s : Shared) (Q : Value → Shared → Prop) (E : Value → Shared → Prop), Q (.int (g i) s.toks) { s with toks := s.toks + 1 } → wpAny (model X.prog X.w) X.A (f (.int i t)) Q E s) :
    UnR X f (rU fun i => .int (g i)) := by
  intro pins s σ H x v Q I rx h
  obtain ⟨i, rfl, q⟩ := h
  obtain ⟨t, rfl⟩ := rx
  exact rule i t s _ _ ⟨.int (g i), H, I.tok _, ⟨_, rfl⟩, q⟩
theorem un_neg : UnR X (unaryOp .USub) (rU fun i => .int (-i)) := unI fun _ _ _ _ _ q => neg_int q
end

def scal : V → V → Bool
  | .non, .non => true | .non, .int _ => true | .int _, .non => true | .non, .bl _ => true | .bl _, .non => true | .non, .str _ => true | .str _, .non => true
  | .int _, .int _ => true | .bl _, .bl _ => true | .str _, .str _ => true | .byt _, .byt _ => true
  | .int _, .str _ => true | .str _, .int _ => true | .bl _, .str _ => true | .str _, .bl _ => true
  | _, _ => false
def rEq : R2 := fun x y H Q => scal x y = true ∧ Q (.bl (decide (x = y))) H
def rNe : R2 := fun x y H Q => scal x y = true ∧ Q (.bl (!decide (x = y))) H

theorem dec_int {i j : Int} : decide (V.int i = V.int j) = (i == j) := by
  rw [Bool.eq_iff_iff]
  simp
theorem dec_bl {i j : Bool} : decide (V.bl i = V.bl j) = (i == j) := by
  rw [Bool.eq_iff_iff]
  simp
theorem dec_str {i j : Str} : decide (V.str i = V.str j) = (i == j) := by
  rw [Bool.eq_iff_iff]
  simp
theorem dec_byt {i j : Array UInt8} : decide (V.byt i = V.byt j) = (i.toList == j.toList) := by
  rw [Bool.eq_iff_iff]
  cases i
  cases j
  simp

section
variable {X : Cx} {a b c : Expr} {ta tb tc : TE} {pos : Pos}
theorem fin_bl {pins : List (Addr × Obj)} {σ : St} {H : Hp} {s : Shared} {Q : VK} {k k' : Bool} (I : Inv X pins σ H s) (q : Q (.bl k) H) (e : k = k') : EP X pins σ Q (.bool k') s := by
  subst e
  exact ⟨.bl k, H, I, rfl, q⟩
theorem op_eq : OpR X (compareOp .Eq) rEq := by
  intro pins s σ H x y v u Q I rx ry h
  obtain ⟨hs, q⟩ := h
  cases x with
  | non =>
    cases rx
    cases y with
    | non => cases ry; exact PySem.EqNone.eq_none_none (fin_bl I q (by simp))
    | bl j => cases ry; exact PySem.EqNone.eq_none_bool (fin_bl I q (by simp))
    | int j => obtain ⟨t', rfl⟩ := ry; exact PySem.EqNone.eq_none_int (fin_bl I q (by simp))
    | str j => obtain ⟨t', rfl⟩ := ry; exact PySem.EqNone.eq_none_str (fin_bl I q (by simp))
    | _ => exact absurd (show false = true from hs) Bool.false_ne_true
  | bl i =>
    cases rx
    cases y with
    | non => cases ry; exact PySem.EqNone.eq_bool_none (fin_bl I q (by simp))
    | bl j => cases ry; exact eq_bool (fin_bl I q dec_bl)
    | str j => obtain ⟨t', rfl⟩ := ry; exact PySem.EqMixed.eq_bool_str (fin_bl I q (by simp))
    | _ => exact absurd (show false = true from hs) Bool.false_ne_true
  | int i =>
    obtain ⟨t, rfl⟩ := rx
    cases y with
    | non => cases ry; exact PySem.EqNone.eq_int_none (fin_bl I q (by simp))
    | int j => obtain ⟨t', rfl⟩ := ry; exact eq_int (fin_bl I q dec_int)
    | str j => obtain ⟨t', rfl⟩ := ry; exact PySem.EqMixed.eq_int_str (fin_bl I q (by simp))
    | _ => exact absurd (show false = true from hs) Bool.false_ne_true
  | str i =>
    obtain ⟨t, rfl⟩ := rx
    cases y with
    | non => cases ry; exact PySem.EqNone.eq_str_none (fin_bl I q (by simp))
    | bl j => cases ry; exact PySem.EqMixed.eq_str_bool (fin_bl I q (by simp))
    | int j => obtain ⟨t', rfl⟩ := ry; exact PySem.EqMixed.eq_str_int (fin_bl I q (by simp))
    | str j => obtain ⟨t', rfl⟩ := ry; exact eq_str (fin_bl I q dec_str)
    | _ => exact absurd (show false = true from hs) Bool.false_ne_true
  | byt i =>
    obtain ⟨t, rfl⟩ := rx
    cases y with
    | byt j => obtain ⟨t', rfl⟩ := ry; exact PySem.W.eq_bytes (fin_bl I q dec_byt)
    | _ => exact absurd (show false = true from hs) Bool.false_ne_true
  | _ => cases y <;> exact absurd (show false = true from hs) Bool.false_ne_true
theorem op_ne : OpR X (compareOp .NotEq) rNe := by
  intro pins s σ H x y v u Q I rx ry h
  obtain ⟨hs, q⟩ := h
  cases x with
  | non =>
    cases rx
    cases y with
    | non => cases ry; exact PySem.EqNone.ne_none_none (fin_bl I q (by simp))
    | bl j => cases ry; exact PySem.EqNone.ne_none_bool (fin_bl I q (by simp))
    | int j => obtain ⟨t', rfl⟩ := ry; exact PySem.EqNone.ne_none_int (fin_bl I q (by simp))
    | str j => obtain ⟨t', rfl⟩ := ry; exact PySem.EqNone.ne_none_str (fin_bl I q (by simp))
    | _ => exact absurd (show false = true from hs) Bool.false_ne_true
  | bl i =>
    cases rx
    cases y with
    | non => cases ry; exact PySem.EqNone.ne_bool_none (fin_bl I q (by simp))
    | bl j => cases ry; exact ne_bool (fin_bl I q (congrArg not dec_bl))
    | str j => obtain ⟨t', rfl⟩ := ry; exact PySem.EqMixed.ne_bool_str (fin_bl I q (by simp))
    | _ => exact absurd (show false = true from hs) Bool.false_ne_true
  | int i =>
    obtain ⟨t, rfl⟩ := rx
    cases y with
    | non => cases ry; exact PySem.EqNone.ne_int_none (fin_bl I q (by simp))
    | int j => obtain ⟨t', rfl⟩ := ry; exact ne_int (fin_bl I q (congrArg not dec_int))
    | str j => obtain ⟨t', rfl⟩ := ry; exact PySem.EqMixed.ne_int_str (fin_bl I q (by simp))
    | _ => exact absurd (show false = true from hs) Bool.false_ne_true
  | str i =>
    obtain ⟨t, rfl⟩ := rx
    cases y with
    | non => cases ry; exact PySem.EqNone.ne_str_none (fin_bl I q (by simp))
    | bl j => cases ry; exact PySem.EqMixed.ne_str_bool (fin_bl I q (by simp))
    | int j => obtain ⟨t', rfl⟩ := ry; exact PySem.EqMixed.ne_str_int (fin_bl I q (by simp))
    | str j => obtain ⟨t', rfl⟩ := ry; exact ne_str (fin_bl I q (congrArg not dec_str))
    | _ => exact absurd (show false = true from hs) Bool.false_ne_true
  | byt i =>
    obtain ⟨t, rfl⟩ := rx
    cases y with
    | byt j => obtain ⟨t', rfl⟩ := ry; exact PySem.W.ne_bytes (fin_bl I q (congrArg not dec_byt))
    | _ => exact absurd (show false = true from hs) Bool.false_ne_true
  | _ => cases y <;> exact absurd (show false = true from hs) Bool.false_ne_true

theorem op_lt : OpR X (compareOp .Lt) (rI0 fun i j => .bl (decide (i < j))) := opB0 fun _ _ _ _ _ _ _ q => lt_int q
theorem op_le : OpR X (compareOp .LtE) (rI0 fun i j => .bl (decide (i ≤ j))) := opB0 fun _ _ _ _ _ _ _ q => le_int q
theorem op_gt : OpR X (compareOp .Gt) (rI0 fun i j => .bl (decide (j < i))) := opB0 fun _ _ _ _ _ _ _ q => gt_int q
theorem op_ge : OpR X (compareOp .GtE) (rI0 fun i j => .bl (decide (j ≤ i))) := opB0 fun _ _ _ _ _ _ _ q => ge_int q
theorem nomark (b : Expr) {op : CmpOp} (h : op ≠ .In := by decide) (h2 : op ≠ .NotIn := by decide) : behindInMarks op b = false := by
  have e1 : (op == CmpOp.In) = false := by cases op <;> first | rfl | exact absurd rfl h
  have e2 : (op == CmpOp.NotIn) = false := by cases op <;> first | rfl | exact absurd rfl h2
  cases b <;> simp [behindInMarks, e1, e2]
theorem pe_cmpR {op : CmpOp} {r : R2} (ho : OpR X (compareOp op) r) (ha : PE X a ta) (hb : PE X b tb) (hm : behindInMarks op b = false) : PE X (.Compare a [op] [b] pos) (tOp r ta tb) := by
  intro pins s σ H Q I h
  exact wpAny_Compare1 (binT ha hb I h fun v u s2 x y H2 I2 rx ry q => ho pins s2 σ H2 x y v u Q I2 rx ry q) hm
def tTest (t : TE) : TT := fun σ H Q => t σ H fun x H' => ∃ k, x = .bl k ∧ Q k H'
theorem pt_cmpR {op : CmpOp} {r : R2} (ho : OpR X (compareOp op) r) (ha : PE X a ta) (hb : PE X b tb) (hm : behindInMarks op b = false) : PT X (.Compare a [op] [b] pos) (tTest (tOp r ta tb)) := by
  intro pins s σ H Q I h
  refine wpAny_isTrue_Compare1 (thn (ha pins s σ H _ I h) fun v s1 ⟨x, H1, I1, r1, q1⟩ => thn (hb pins s1 σ H1 _ I1 q1) fun u s2 ⟨y, H2, I2, r2, q2⟩ =>
    thn (ho pins s2 σ H2 x y v u _ I2 r1 r2 q2) fun c s3 ⟨z, H3, I3, r3, k, e, q3⟩ => ?_) hm
  subst e
  cases r3
  exact wpAny_truthy_bool ⟨H3, I3, q3⟩
theorem line63 : (sizeLine : Nat) < 2 ^ 63 := by rw [sizeLine_eq]; decide
theorem vals1 {x : V} {us : List Value} (r : Vals [x] us) : ∃ u, us = [u] ∧ RelV x u := by
  cases r with
  | cons r1 r2 => cases r2; exact ⟨_, rfl, r1⟩
theorem vals2 {x y : V} {us : List Value} (r : Vals [x, y] us) : ∃ u w', us = [u, w'] ∧ RelV x u ∧ RelV y w' := by
  cases r with
  | cons r1 r2 =>
    cases r2 with
    | cons r3 r4 => cases r4; exact ⟨_, _, rfl, r1, r3⟩
theorem call_max2 (hc : X.calm = true) : CallR X (.builtin "max") (fun xs H Q => ∃ i j, xs = [.int i, .int j] ∧ Q (.int (if j > i then j else i)) H) := by
  intro pins s σ H xs us Q I r h
  obtain ⟨i, j, rfl, q⟩ := h
  obtain ⟨u, w', rfl, ⟨t, rfl⟩, ⟨t', rfl⟩⟩ := vals2 r
  refine max_two_ints (I.ok.hd hc) fun h' tk k => ⟨_, H, I.kept k, ?_, q⟩
  by_cases hj : j > i
  · rw [if_pos hj, if_pos hj]; exact ⟨_, rfl⟩
  · rw [if_neg hj, if_neg hj]; exact ⟨_, rfl⟩
theorem call_min2 (hc : X.calm = true) : CallR X (.builtin "min") (fun xs H Q => ∃ i j, xs = [.int i, .int j] ∧ Q (.int (if j < i then j else i)) H) := by
  intro pins s σ H xs us Q I r h
  obtain ⟨i, j, rfl, q⟩ := h
  obtain ⟨u, w', rfl, ⟨t, rfl⟩, ⟨t', rfl⟩⟩ := vals2 r
  refine min_two_ints (I.ok.hd hc) fun h' tk k => ⟨_, H, I.kept k, ?_, q⟩
  by_cases hj : j < i
  · rw [if_pos hj, if_pos hj]; exact ⟨_, rfl⟩
  · rw [if_neg hj, if_neg hj]; exact ⟨_, rfl⟩
theorem call_int1 : CallR X (.type "int") (fun xs H Q => (∃ i, xs = [.int i] ∧ Q (.int i) H) ∨ ∃ k, xs = [.bl k] ∧ Q (.int (if k then 1 else 0)) H) := by
  intro pins s σ H xs us Q I r h
  rcases h with ⟨i, rfl, q⟩ | ⟨k, rfl, q⟩
  · obtain ⟨u, rfl, t, rfl⟩ := vals1 r
    exact call_int_int ⟨.int i, H, I, ⟨_, rfl⟩, q⟩
  · obtain ⟨u, rfl, r1⟩ := vals1 r
    cases r1
    exact call_int_bool ⟨.int (if k then 1 else 0), H, I.tok _, ⟨_, rfl⟩, q⟩
end
end L2

namespace L2
open PySem PySem.Spec PyProof.Rows

structure ObjM (h : Heap) (x dx C : Addr) (mA : Str → Option Value) : Prop where
  obj : h.get? x = some (PySem.W.instObj C dx)
  ns : h.Ns1 dx mA
  ne : dx ≠ x

theorem lookIn_ns {h : Heap} {dx : Addr} {mA : Str → Option Value} (n : h.Ns1 dx mA) : ∃ od, h.get? dx = some od ∧ ∀ name, PySem.W.lookIn name od = some (mA name) := by
  obtain ⟨o, es, ep, ho, hd, hk, _, hm⟩ := n
  refine ⟨o, ho, fun name => ?_⟩
  have e := hm name
  unfold nsFind findBy at e
  rw [← Array.find?_toList] at e
  unfold PySem.W.lookIn
  rw [hd]
  dsimp only
  split
  · rename_i y q
    rw [q] at e
    exact congrArg some e
  · rename_i q
    rw [q] at e
    have a : es.toList.any (·.refKey) = false := by
      rw [List.any_eq_false]
      intro y hy
      obtain ⟨z, t, hkey⟩ := hk y (Array.mem_toList_iff.mp hy)
      simp [DictEntry.refKey, hkey]
    have a' : ¬ es.toList.any (·.refKey) = true := by rw [a]; exact Bool.false_ne_true
    rw [if_neg a']
    exact congrArg some e

theorem ObjM.look {h : Heap} {x dx C : Addr} {mA : Str → Option Value} (I : ObjM h x dx C mA) : ∃ od, PySem.W.InstAt h x (PySem.W.instObj C dx) C (some od) ∧ ∀ name, PySem.W.lookIn name od = some (mA name) :=
  let ⟨od, ho, hl⟩ := lookIn_ns I.ns
  ⟨od, ⟨I.obj, rfl, rfl, ho⟩, hl⟩

section
variable {prog : Program} {w : World} {A : Around} {E : Value → Shared → Prop} {s : Shared} {K : PySem.W.Frag} {x dx C f : Addr} {mA : Str → Option Value} {name : Str} {v : Value}

end

section
variable {P : Program} {w : World} {H H' : Hp} {h h' : Heap} {a C dx : Addr} {fs fs' : List (Str × V)}
theorem ins_get (hok : HOk P w H h) (e : H a = some (.ins C dx fs)) : ∃ mA, ObjM h a dx C mA ∧ (∀ f, RelO (fs.lookup f) (mA f)) ∧ PySem.Within mA (fs.map (·.1)) ∧ fs.length ≤ 1000 ∧ H dx = some (.own a) := by
  obtain ⟨d, z, ne, ob, mA, n, r, q⟩ := (show ObjOk P w H h a (.ins C dx fs) from hok a _ e)
  exact ⟨mA, ⟨ob, n, ne⟩, r, q, z, d⟩
end

structure Cls (K : PySem.W.Frag) (C : Addr) : Prop where
  pg : PySem.W.plainGet K C Str.empty = true
  hd : PySem.W.hasDictIn K C = true
  po : PySem.W.plainOver K C = true
  sa : PySem.W.findIn K (.ref C) "__setattr__" = some (some (.builtin "object.__setattr__"))
theorem Cls.get {K : PySem.W.Frag} {C : Addr} (c : Cls K C) (f : Str) : PySem.W.plainGet K C f = true := c.pg
section
variable {X : Cx} {pins : List (Addr × Obj)} {σ : St} {H : Hp} {s : Shared} {a C dx : Addr} {fs : List (Str × V)} {f : Str} {v : V} {A : Around} {E : Value → Shared → Prop}

end

section
variable {X : Cx} {o e value : Expr} {f : Str} {pos pos' tpos : Pos} {ta tv : TE}
end

section
variable {X : Cx} {pins : List (Addr × Obj)} {σ : St} {H : Hp} {s : Shared} {A : Around} {E : Value → Shared → Prop} {Q : Value → Shared → Prop} {c : Value} {b : Bool}
inductive TyOf (K : PySem.W.Frag) (H : Hp) : V → Value → Prop where
  | non : TyOf K H .non (.type "NoneType")
  | bl (x : Bool) : TyOf K H (.bl x) (.type "bool")
  | int (i : Int) : TyOf K H (.int i) (.type "int")
  | str (x : Str) : TyOf K H (.str x) (.type "str")
  | flt (x : UInt64) : TyOf K H (.flt x) (.type "float")
  | lst {a : Addr} {xs : List V} (e : H a = some (.lst xs)) : TyOf K H (.ref a) (.type "list")
  | frz {a : Addr} {o : Obj} {xs : List V} (e : H a = some (.frz o (.lst xs))) : TyOf K H (.ref a) (.type "list")
  | tup {a : Addr} {xs : List V} (e : H a = some (.tup xs)) : TyOf K H (.ref a) (.type "tuple")
  | dK {a : Addr} {kvs : List (Key × V)} (e : H a = some (.dK kvs)) : TyOf K H (.ref a) (.type "dict")
  | dT {a : Addr} {kvs : List (List Key × V)} (e : H a = some (.dT kvs)) : TyOf K H (.ref a) (.type "dict")
  | ins {a C dx : Addr} {fs : List (Str × V)} (e : H a = some (.ins C dx fs)) (cl : Cls K C) (ha : PySem.W.findIn K (.ref C) "__class__" = some (some (.builtin "object.__class__")))
      (hn : PySem.W.specialIn K (.builtin "object.__class__") "__get__" = some (some (.builtin "getset_descriptor.__get__"))) (htk : PySem.W.takesIn K (.builtin "object.__class__") = some true)
      (hm : PySem.W.mroIn K C (.type "object") = some true) : TyOf K H (.ref a) (.ref C)
theorem isinst_ok {x : V} {u t : Value} (I : Inv X pins σ H s) (rx : RelV x u) (ty : TyOf X.K H x t) (e : PySem.W.kitOne X.K t c = some b) (h : ∀ tk, Q (.bool b) { s with toks := tk }) :
    wpAny (model X.prog X.w) A (call (.builtin "isinstance") [u, c]) Q E s := by
  cases ty with
  | non => cases (show u = Value.none from rx); exact PySem.W.kia_one PySem.W.kitx_none I.kIn True.intro e (fun z => nomatch z) h
  | bl y => cases (show u = Value.bool y from rx); exact PySem.W.kia_one PySem.W.kitx_bool I.kIn True.intro e (fun z => nomatch z) h
  | int i => obtain ⟨t, q⟩ := (show ∃ t, u = Value.int i t from rx); cases q; exact PySem.W.kia_one PySem.W.kitx_int I.kIn True.intro e (fun z => nomatch z) h
  | str y => obtain ⟨t, q⟩ := (show ∃ t, u = Value.str y t from rx); cases q; exact PySem.W.kia_one PySem.W.kitx_str I.kIn True.intro e (fun z => nomatch z) h
  | flt y => obtain ⟨t, q⟩ := (show ∃ t, u = Value.float y t from rx); cases q; exact PySem.W.kia_one PySem.W.kitx_float I.kIn True.intro e (fun z => nomatch z) h
  | @lst a xs ea =>
    cases (show u = Value.ref a from rx)
    obtain ⟨_, _, n, _, h1⟩ := (show ObjOk X.prog X.w H s.heap a (.lst xs) from I.hok a _ ea)
    exact PySem.W.kia_one PySem.W.kitx_list I.kIn ⟨_, h1, rfl⟩ e (fun z => nomatch z) h
  | @frz a ob xs ea =>
    cases (show u = Value.ref a from rx)
    obtain ⟨_, _, _, n, _, h1⟩ := (show ObjOk X.prog X.w H s.heap a (.frz ob (.lst xs)) from I.hok a _ ea)
    exact PySem.W.kia_one PySem.W.kitx_list I.kIn ⟨_, h1, rfl⟩ e (fun z => nomatch z) h
  | @tup a xs ea =>
    cases (show u = Value.ref a from rx)
    obtain ⟨_, _, _, p⟩ := (show ObjOk X.prog X.w H s.heap a (.tup xs) from I.hok a _ ea)
    obtain ⟨o, h1, h2, _⟩ := p
    exact PySem.W.kia_one PySem.W.kitx_tuple I.kIn ⟨o, h1, h2⟩ e (fun z => nomatch z) h
  | @dK a kvs ea =>
    cases (show u = Value.ref a from rx)
    obtain ⟨_, _, vs, _, p⟩ := (show ObjOk X.prog X.w H s.heap a (.dK kvs) from I.hok a _ ea)
    obtain ⟨o, es, ep, h1, h2, _⟩ := p
    exact PySem.W.kia_one PySem.W.kitx_dict I.kIn ⟨o, h1, h2.1⟩ e (fun z => nomatch z) h
  | @dT a kvs ea =>
    cases (show u = Value.ref a from rx)
    obtain ⟨_, _, xs, _, o, es, ep, h1, h2, _⟩ := (show ObjOk X.prog X.w H s.heap a (.dT kvs) from I.hok a _ ea)
    exact PySem.W.kia_one PySem.W.kitx_dict I.kIn ⟨o, h1, h2.1⟩ e (fun z => nomatch z) h
  | @ins a C dx fs ea cl ha hn htk hm =>
    cases (show u = Value.ref a from rx)
    obtain ⟨mA, O, _⟩ := ins_get I.hok ea
    obtain ⟨od, J, _⟩ := O.look
    exact PySem.W.kia_one (PySem.W.kitx_own (cl.get _) cl.hd ha hn htk hm) I.kIn J e (fun z => nomatch z) h
end
end L2

namespace L2
open PySem PySem.Spec PyProof.Rows

structure Room (k : Nat) (A : Around) : Prop where
  hd : A.handled = none
  dp : A.depth + 3 * k + 5 < recursionLimit
  un : A.units + 16 * k + 200 < cLine
theorem Room.mono {j k : Nat} {A : Around} (r : Room k A) (h : j ≤ k) : Room j A := ⟨r.hd, by have := r.dp; (first | lia | omega), by have := r.un; (first | lia | omega)⟩
theorem Room.deeper {k : Nat} {A : Around} (r : Room (k + 1) A) (env : Env) : Room k (A.deeper env) :=
  ⟨r.hd, by have := r.dp; show A.depth + 1 + 3 * k + 5 < _; (first | lia | omega), by have := r.un; show A.units + 3 + 16 * k + 200 < _; (first | lia | omega)⟩
theorem Room.depth {k : Nat} {A : Around} (r : Room k A) : A.depth < recursionLimit := by have := r.dp; (first | lia | omega)
theorem Room.units {k : Nat} {A : Around} (r : Room k A) : A.units + 64 < cLine := by have := r.un; (first | lia | omega)
def tNil : TA := fun _ H Q => Q [] H
def tCons (ta : TE) (tr : TA) : TA := fun σ H Q => ta σ H fun x H1 => tr σ H1 fun xs H2 => Q (x :: xs) H2
section
variable {X : Cx} {e : Expr} {es : List Expr} {te : TE} {t : TA} {pos : Pos}
theorem pa_nil : PA X [] tNil := fun _ _ _ _ H Q I h => Calls.spliced_nil ⟨[], H, I, .nil, h⟩
theorem pa_cons (ha : PE X e te) (hr : PA X es t) (hs : starEach (e :: es) X.env = (false, eval e X.env) :: starEach es X.env := by rfl) : PA X (e :: es) (tCons te t) := by
  intro pos pins s σ H Q I h
  rw [hs]
  show wpAny _ _ (spliced ((false, eval e X.env) :: backTo pos (starEach es X.env))) _ _ s
  refine Calls.spliced_cons (thn (ha pins s σ H _ I h) fun u s1 ⟨x, H1, I1, r1, q1⟩ => ?_)
  exact thn (hr pos pins s1 σ H1 _ I1 q1) fun us s2 ⟨xs, H2, I2, r2, q2⟩ => ⟨x :: xs, H2, I2, .cons r1 r2, q2⟩

def tTup (t : TA) : TE := fun σ H Q => t σ H fun xs H1 => xs.length ≤ sizeLine ∧ ∀ p, H1 p = none → Q (.ref p) (upd H1 p (.tup xs))
def tLst (t : TA) : TE := fun σ H Q => t σ H fun xs H1 => xs.length ≤ sizeLine ∧ ∀ p, H1 p = none → Q (.ref p) (upd H1 p (.lst xs))
theorem pe_tup {x1} (h : PA X es t) : PE X (.Tuple es x1 pos) (tTup t) := by
  intro pins s σ H Q I hq
  refine wpAny_Tuple_spliced (thn (h pos pins s σ H _ I hq) fun us s1 ⟨xs, H1, I1, r, z, q⟩ => ⟨by rw [← r.length]; exact z, ?_⟩)
  have hf : H1 s1.heap.objs.size = none := I1.hok.fresh (Nat.le_refl _)
  refine ⟨.ref s1.heap.objs.size, upd H1 s1.heap.objs.size (.tup xs), I1.laid (t' := s1.toks) (fun b u e => Heap.get?_push_of_some _ e) (Nat.le_refl _) ?_, rfl, q _ hf⟩
  exact ⟨z, us, r, ⟨_, Heap.get?_push_size _ rfl, rfl, _, rfl⟩⟩
theorem pe_lst (h : PA X es t) : PE X (.List es pos) (tLst t) := by
  intro pins s σ H Q I hq
  refine wpAny_List_spliced (thn (h pos pins s σ H _ I hq) fun us s1 ⟨xs, H1, I1, r, z, q⟩ => ⟨by rw [← r.length]; exact z, ?_⟩)
  have hf : H1 s1.heap.objs.size = none := I1.hok.fresh (Nat.le_refl _)
  refine ⟨.ref s1.heap.objs.size, upd H1 s1.heap.objs.size (.lst xs), I1.laid (t' := s1.toks) (fun b u e => Heap.get?_push_of_some _ e) (Nat.le_refl _) ?_, rfl, q _ hf⟩
  exact ⟨z, us, 0, r, Heap.get?_push_size _ rfl⟩
end

abbrev Sp := List V → Hp → VK → XK → Prop
abbrev CXT := List Env → Hp → Shared → XK → Value → Shared → Prop

structure Env0 (P : Program) (w : World) (K : PySem.W.Frag) (mg : Str → Option Value) (base : Heap) (A : Around) (outer : List Env) (s : Shared) (H : Hp) : Prop where
  frames : A.frames = some outer
  mod : Mod K mg base
  bs : ∀ b o, base.get? b = some o → s.heap.get? b = some o ∧ H b = none
  bsz : base.objs.size ≤ s.heap.objs.size
  funs : s.heap.FunFrames base outer
  frf : ∀ b ∈ frs outer, H b = none
  hok : HOk P w H s.heap
  bare : AllBare s.gens
def CE (outer : List Env) (P : Program) (w : World) (H : Hp) (s : Shared) (Q : VK) (u : Value) (s' : Shared) : Prop :=
  ∃ v H', s'.os = s.os ∧ AllBare s'.gens ∧ Un (frs outer) [] H H' s.heap s'.heap ∧ HOk P w H' s'.heap ∧ RelV v u ∧ Q v H'
def CR (CX : CXT) (outer : List Env) (P : Program) (w : World) (H : Hp) (s : Shared) (Q : VK) (E : XK) (r : Result) (s' : Shared) : Prop :=
  match r with
  | .ok (.ret u) => CE outer P w H s Q u s'
  | .ok _ => False
  | .error e => CX outer H s E e s'
structure FnOk (P : Program) (w : World) (K : PySem.W.Frag) (mg : Str → Option Value) (base : Heap) (CX : CXT) (k : Nat) (f : Addr) (fd : FuncData) (ps : List Str) (sp : Sp) : Prop where
  len : ∀ vs H Q E, sp vs H Q E → vs.length = ps.length
  run : ∀ (A : Around) (outer : List Env) (s : Shared) (H : Hp) (args : Args) (us : List Value) (vs : List V) (Q : VK) (E : XK), Room k A → Env0 P w K mg base A outer s H → BindsTo s fd args (ps.zip us) → Vals vs us → sp vs H Q E →
    codeAny (model P w) A (.call (.ref f) args) (CR CX outer P w H s Q E) s
section
variable {X : Cx} {pins : List (Addr × Obj)} {σ : St} {H : Hp} {s s' : Shared}
theorem Inv.env0 (I : Inv X pins σ H s) : Env0 X.prog X.w X.K X.mg X.base X.A X.stack s H :=
  ⟨I.ok.frames, I.ok.mod, I.bs, Nat.le_trans I.ok.bsz I.sz, I.stack, I.stkFree, I.hok, I.bare⟩
theorem Inv.after {Q : VK} {u : Value} (I : Inv X pins σ H s) (h : CE X.stack X.prog X.w H s Q u s') : EP X pins σ Q u s' := by
  obtain ⟨v, H', os, bare, un, hok, r, q⟩ := h
  obtain ⟨hh, g, d, t, os'⟩ := s'
  obtain rfl : os' = s.os := os
  exact ⟨v, H', I.call (h' := hh) (g' := g) (d' := d) (t' := t) (ch := []) un hok bare (fun b z => absurd z (by simp)), r, q⟩
end

def tCall (sp : Sp) (dvs : List V) (E : XK) (t : TA) : TE := fun σ H Q => t σ H fun vs H1 => sp (vs ++ dvs) H1 Q E
def Binds (K : PySem.W.Frag) (fd : FuncData) (ps : List Str) (ds : List Value) : Prop :=
  ∀ (s : Shared) (us : List Value), K.In s.heap → (us ++ ds).length = ps.length → BindsTo s fd ⟨us, []⟩ (ps.zip (us ++ ds))
theorem Binds.all {K : PySem.W.Frag} {fd : FuncData} {ps : List Str} (h : ∀ us : List Value, us.length = ps.length → bindArgs fd ⟨us, []⟩ = pure (ps.zip us)) : Binds K fd ps [] := fun s us _ hl => by
  rw [List.append_nil] at hl ⊢
  exact .of_eq (h us hl)

def Passes (CX : CXT) (X : Cx) (E : XK) : Prop := ∀ (pins : List (Addr × Obj)) (σ : St) (H : Hp) (s : Shared) (e : Value) (s' : Shared), Inv X pins σ H s → CX X.stack H s E e s' → X.xe e s'

section
variable {X : Cx} {CX : CXT} {k : Nat} {f C : Addr} {fd : FuncData} {ps : List Str} {sp : Sp} {dvs : List V} {ds : List Value} {E : XK} {x m : Str} {p pos apos : Pos} {e o : Expr} {es : List Expr} {ta : TE} {t : TA}

theorem run_fn {pins : List (Addr × Obj)} {σ : St} {H : Hp} {s : Shared} {Q : VK} {us : List Value} {vs : List V} (F : FnOk X.prog X.w X.K X.mg X.base CX k f fd ps sp) (hr : Room k X.A) (hb : Binds X.K fd ps ds) (hd : Vals dvs ds) (hx : Passes CX X E)
    (I : Inv X pins σ H s) (r : Vals vs us) (h : sp (vs ++ dvs) H Q E) : wpAny (model X.prog X.w) X.A (call (.ref f) us) (EP X pins σ Q) X.xe s := by
  have r2 : Vals (vs ++ dvs) (us ++ ds) := r.append hd
  have hl : (us ++ ds).length = ps.length := by rw [← r2.length]; exact F.len _ _ _ _ h
  refine wpAny_call (codeAny_mono (F.run X.A X.stack s H ⟨us, []⟩ (us ++ ds) (vs ++ dvs) Q E hr I.env0 (hb s us I.kIn hl) r2 h) fun r s' hq => ?_)
  cases r with
  | error e => exact hx pins σ H s e s' I hq
  | ok fl =>
    cases fl with
    | ret u => exact I.after hq
    | next => exact False.elim hq
    | brk => exact False.elim hq
    | cont => exact False.elim hq

theorem pe_call (F : FnOk X.prog X.w X.K X.mg X.base CX k f fd ps sp) (hr : Room k X.A) (hg : Gl X x) (hm : X.mg x = some (.ref f)) (hk : PySem.W.keepIn X.K (.ref f) = true) (hb : Binds X.K fd ps ds) (hd : Vals dvs ds) (hx : Passes CX X E)
    (ha : PA X (e :: es) t) (hdb : (x == ("__debug__" : Str)) = false := by decide) (he : starEach (e :: es) X.env = (false, eval e X.env) :: starEach es X.env := by rfl) (hpl : (backTo pos (starEach es X.env)).any (·.1) = false := by rfl) :
    PE X (.Call (.Name x p) (e :: es) [] pos) (tCall sp dvs E t) := by
  intro pins s σ H Q I h
  refine wpAny_Call_Name_kw (ld_glob I hg hm ?_ hdb)
  refine PySem.W.callWith_K (h₀ := X.base) I.ok.mod.kin hk (thn (ha pos pins s σ H _ I h) fun us s1 ⟨vs, H1, I1, r, q⟩ => ⟨I1.kIn, ?_⟩) he hpl
  exact run_fn F hr hb hd hx I1 r q
end

section
variable {X : Cx} {CX : CXT} {k : Nat} {f C : Addr} {fd : FuncData} {ps ks : List Str} {sp : Sp} {E : XK} {x m : Str} {p pos apos kpos : Pos} {e o : Expr} {es : List Expr} {kws : List Keyword} {te ta : TE} {t tk : TA} {nm : Option Str}
variable {g : List Value → List Value → List Value} {gV : List V → List V → List V}
end

structure FnScope (N P : List Str) (sc : Scope) : Prop where
  kind : sc.kind = .function
  co : sc.isCoroutine = false
  gen : sc.isGenerator = false
  nd : N.Nodup
  pre : N.take P.length = P
  par : ∀ x ∈ P, sc.names.lookup x = some .local ∨ sc.names.lookup x = some .cell
  nofree : ∀ y ∈ sc.names, y.2 ≠ .free

theorem bindL_out {kindOf : Str → Option NameKind} {x : Str} : ∀ {binds : List (Str × Value)} {m : Str → Option Value}, (∀ v, (x, v) ∉ binds) → bindL kindOf binds m x = m x
  | [], _, _ => rfl
  | (n, v) :: r, m, h => by
    unfold bindL
    rw [bindL_out fun w hw => h w (List.mem_cons_of_mem _ hw)]
    split
    · have : x ≠ n := by rintro rfl; exact h v List.mem_cons_self
      simp [this]
    · rfl
theorem bindC_out {kindOf : Str → Option NameKind} {x : Str} : ∀ {binds : List (Str × Value)} {m : Str → Option Value}, (∀ v, (x, v) ∉ binds) → bindC kindOf binds m x = m x
  | [], _, _ => rfl
  | (n, v) :: r, m, h => by
    unfold bindC
    rw [bindC_out fun w hw => h w (List.mem_cons_of_mem _ hw)]
    split
    · rfl
    · have : x ≠ n := by rintro rfl; exact h v List.mem_cons_self
      simp [this]
theorem bindL_get {kindOf : Str → Option NameKind} {x : Str} {v : Value} : ∀ {P : List Str} {vs : List Value} {i : Nat} {m : Str → Option Value}, P.Nodup → P[i]? = some x → vs[i]? = some v → kindOf x = some .local →
    bindL kindOf (P.zip vs) m x = some v
  | [], _, _, _, _, h, _, _ => by simp at h
  | _ :: _, [], _, _, _, _, h, _ => by simp at h
  | p :: P, w :: vs, 0, m, nd, h1, h2, hk => by
    simp at h1 h2; subst h1; subst h2
    show bindL kindOf ((p, w) :: P.zip vs) m p = _
    unfold bindL
    rw [bindL_out fun v hv => (List.nodup_cons.mp nd).1 (List.of_mem_zip hv).1, if_pos hk]
    simp
  | p :: P, w :: vs, i + 1, m, nd, h1, h2, hk => by
    show bindL kindOf ((p, w) :: P.zip vs) m x = _
    unfold bindL
    exact bindL_get (i := i) (List.nodup_cons.mp nd).2 (by simpa using h1) (by simpa using h2) hk
theorem bindC_get {kindOf : Str → Option NameKind} {x : Str} {v : Value} : ∀ {P : List Str} {vs : List Value} {i : Nat} {m : Str → Option Value}, P.Nodup → P[i]? = some x → vs[i]? = some v → kindOf x ≠ some .local →
    bindC kindOf (P.zip vs) m x = some v
  | [], _, _, _, _, h, _, _ => by simp at h
  | _ :: _, [], _, _, _, _, h, _ => by simp at h
  | p :: P, w :: vs, 0, m, nd, h1, h2, hk => by
    simp at h1 h2; subst h1; subst h2
    show bindC kindOf ((p, w) :: P.zip vs) m p = _
    unfold bindC
    rw [bindC_out fun v hv => (List.nodup_cons.mp nd).1 (List.of_mem_zip hv).1, if_neg hk]
    simp
  | p :: P, w :: vs, i + 1, m, nd, h1, h2, hk => by
    show bindC kindOf ((p, w) :: P.zip vs) m x = _
    unfold bindC
    exact bindC_get (i := i) (List.nodup_cons.mp nd).2 (by simpa using h1) (by simpa using h2) hk

def start (N : List Str) (vs : List V) : St := vs.map some ++ List.replicate (N.length - vs.length) none

def cxOf (CX : CXT) (P : Program) (w : World) (K : PySem.W.Frag) (mg : Str → Option Value) (base : Heap) (N : List Str) (qual : Str) (scope : Scope) (f : Addr) (cd : Value) (A : Around) (outer : List Env) (s : Shared) (H : Hp) (E : XK) : Cx where
  prog := P
  w := w
  K := K
  mg := mg
  base := base
  A := A.deeper (envOfC qual scope s.heap.objs.size f cd)
  N := N
  s₀ := s
  H₀ := H
  env := envOfC qual scope s.heap.objs.size f cd
  outer := outer
  stack := envOfC qual scope s.heap.objs.size f cd :: outer
  ex := []
  calm := true
  fn := fun _ => true
  pn := []
  xe := fun e s' => wpAny (model P w) (A.deeper (envOfC qual scope s.heap.objs.size f cd)) (leaving (envOfC qual scope s.heap.objs.size f cd) e) (fun _ s'' => CX outer H s E e s'') (fun e' s'' => CX outer H s E e' s'') s'

theorem cell_has {sc : Scope} {n : Nat} {x : Str} (h : sc.names.lookup x = some .cell) : ∃ c, (cellsFrom n sc.names []).lookup x = some c := by
  have q := PySem.W.cellsFrom_some sc.names n [] (.inl h)
  exact Option.isSome_iff_exists.mp q

theorem inv_start {CX : CXT} {P : Program} {w : World} {K : PySem.W.Frag} {mg : Str → Option Value} {base : Heap} {N ps : List Str} {qual : Str} {scope : Scope} {f : Addr} {cd : Value} {A : Around} {outer : List Env} {s s1 : Shared} {H : Hp} {E : XK} {us : List Value} {vs : List V}
    (S : FnScope N ps scope) (hd : A.handled = none) (e0 : Env0 P w K mg base A outer s H) (hl : vs.length = ps.length) (r : Vals vs us)
    (x : InCallC s s.heap.objs.size (bindL (envOfC qual scope s.heap.objs.size f cd).kindOf (ps.zip us) fun _ => none) (cellsFrom (s.heap.objs.size + 1) scope.names []) (bindC (envOfC qual scope s.heap.objs.size f cd).kindOf (ps.zip us) fun _ => none) s1) :
    Inv (cxOf CX P w K mg base N qual scope f cd A outer s H E) [] (start N vs) H s1 := by
  have hpl : ps.length ≤ N.length := by have := congrArg List.length S.pre; rw [List.length_take] at this; (first | lia | omega)
  obtain ⟨h1, tk, rfl, hk⟩ := x.done
  have noA : ∀ b : Addr, b ∉ (cxOf CX P w K mg base N qual scope f cd A outer s H E).ex := fun b z => absurd (show b ∈ ([] : List Addr) from z) (by simp)
  refine ⟨⟨e0.mod, S.kind, rfl, rfl, Nat.le_refl _, fun y z c h1 h2 => ?_, fun y hy => ?_, fun y c _ h => ?_, fun _ => hd, Around.frames_deeper e0.frames, .inr ⟨rfl, rfl⟩, fun b z => absurd z (noA b), e0.bs, e0.bsz, fun b _ _ => noA b, fun b z => absurd z (noA b), e0.funs, e0.frf⟩,
    rfl, e0.bare, Un.kept hk, ⟨_, x.toInCall.ns, fun i y v h1 h2 h3 => ?_⟩, fun y c h => ⟨_, x.cell y c h⟩, e0.hok.fresh (Nat.le_refl _), fun y c h => ?_, fun p hp => absurd (show p ∈ ([] : List (Addr × Obj)) from hp) (by simp), e0.hok.kept hk, ?_⟩
  · exact name_of_addr x.apart (PySem.mem_of_lookup h1) (PySem.mem_of_lookup h2)
  · have hy : scope.names.lookup y = some .cell ∨ scope.names.lookup y = some .free := hy
    rcases hy with hy | hy
    · exact cell_has hy
    · exact absurd rfl (S.nofree _ (PySem.mem_of_lookup hy))
  · exact Nat.le_of_lt (x.above y c (PySem.mem_of_lookup h))
  · have hi : i < vs.length := by
      unfold start at h2
      by_cases hi : i < vs.length
      · exact hi
      · rw [List.getElem?_append_right (by simpa using hi)] at h2
        rw [List.getElem?_replicate] at h2
        split at h2 <;> cases h2
    have ha : vs[i]? = some v := by
      unfold start at h2
      rw [List.getElem?_append_left (by simpa using hi), List.getElem?_map] at h2
      cases e : vs[i]? with
      | none => rw [e] at h2; cases h2
      | some a => rw [e] at h2; cases h2; rfl
    obtain ⟨u, hu, rv⟩ := r.get ha
    have hp : ps[i]? = some y := by
      rw [← S.pre, List.getElem?_take_of_lt (by (first | lia | omega))]; exact h1
    have ndP : ps.Nodup := by rw [← S.pre]; exact S.nd.sublist (List.take_sublist _ _)
    refine ⟨u, rv, ?_⟩
    rcases S.par y (List.mem_of_getElem? hp) with k | k
    · exact .inl ⟨k, bindL_get ndP hp hu k⟩
    · obtain ⟨c, e⟩ := cell_has (n := s.heap.objs.size + 1) k
      refine .inr ⟨.inl k, c, e, ?_⟩
      have q := x.cell y c e
      rw [bindC_get ndP hp hu (by show scope.names.lookup y ≠ _; rw [k]; decide)] at q
      exact q
  · exact e0.hok.fresh (Nat.le_of_lt (x.above y c (PySem.mem_of_lookup h)))
  · unfold start
    show _ = N.length
    rw [List.length_append, List.length_map, List.length_replicate]
    (first | lia | omega)

theorem fn_of {CX : CXT} {P : Program} {w : World} {K : PySem.W.Frag} {mg : Str → Option Value} {base : Heap} {k : Nat} {f : Addr} {name qual : Str} {params : Arguments} {body : List Stmt} {scope : Scope} {dV kV doc pm cdv ct oc : Value} {an od : Option Addr}
    {osl : Array (Option Value)} {N ps : List Str} {sp : Sp} (lk : K.lookup f = some ⟨oc, od, .func (PySem.W.fnOf name qual params body scope dV kV doc pm an cdv ct), osl⟩) (hcd : PySem.W.codeIn K cdv qual = true) (S : FnScope N ps scope)
    (len : ∀ vs H Q E, sp vs H Q E → vs.length = ps.length)
    (hbody : ∀ (A : Around) (outer : List Env) (s : Shared) (H : Hp) (vs : List V) (Q : VK) (E : XK), Room k (A.deeper (envOfC qual scope s.heap.objs.size f cdv)) → sp vs H Q E →
      ∃ t, PSs (cxOf CX P w K mg base N qual scope f cdv A outer s H E) body t ∧ t { nx := fun _ H' => Q .non H', rt := Q } (start N vs) H) :
    FnOk P w K mg base CX (k + 1) f (PySem.W.fnOf name qual params body scope dV kV doc pm an cdv ct) ps sp := by
  refine ⟨len, fun A outer s H args us vs Q E hr e0 hb r hsp => ?_⟩
  have hl := len _ _ _ _ hsp
  have KX : K.In s.heap := e0.mod.kin.keeps fun b o e => (e0.bs b o e).1
  have lim : s.heap.NoLimit := e0.mod.nolimit.keeps fun b o e => (e0.bs b o e).1
  have hkind : ∀ y ∈ ps.zip us, scope.names.lookup y.1 = some .local ∨ (scope.names.lookup y.1 = some .cell ∧ ((cellsFrom (s.heap.objs.size + 1) scope.names []).lookup y.1).isSome = true) := fun ⟨n, v⟩ hy => by
    rcases S.par n (List.of_mem_zip hy).1 with q | q
    · exact .inl q
    · exact .inr ⟨q, PySem.W.cellsFrom_some _ _ _ (.inl q)⟩
  refine codeAny_call_function hr.depth (KX _ _ lk) rfl S.co S.gen rfl (PySem.W.codeRec_of KX hcd) (hb _ _ _ _ ?_)
  refine wpAny_newFunctionEnv_cells S.kind hkind fun env he s1 x => ?_
  subst he
  refine ⟨lim.keeps x.toInCall.keep, codeAny_func ?_⟩
  obtain ⟨t, ht, hq⟩ := hbody A outer s H vs Q E (hr.deeper _) hsp
  have I : Inv (cxOf CX P w K mg base N qual scope f cdv A outer s H E) [] (start N vs) H s1 := inv_start S hr.hd e0 hl r x
  refine wpAny_mono (ht [] s1 (start N vs) H _ I hq) (fun fl s' hs => ?_) fun e s' hs => hs
  have fin : ∀ {σ' : St} {H' : Hp} {v : V} {u : Value}, Inv (cxOf CX P w K mg base N qual scope f cdv A outer s H E) [] σ' H' s' → RelV v u → Q v H' → CE outer P w H s Q u s' :=
    fun {σ' H' v u} J rv q => ⟨v, H', J.os, J.bare, J.base, J.hok, rv, q⟩
  cases fl with
  | ret u =>
    obtain ⟨v, σ', H', J, rv, q⟩ := hs
    exact fin J rv q
  | next =>
    obtain ⟨σ', H', J, q⟩ := hs
    exact fin (v := V.non) (u := Value.none) J rfl q
  | brk =>
    obtain ⟨_, _, _, q⟩ := hs
    exact False.elim q
  | cont =>
    obtain ⟨_, _, _, q⟩ := hs
    exact False.elim q
end L2

namespace L2
open PySem PySem.Spec PyProof.Rows
section
variable {X : Cx} {x : Str} {p pos : Pos} {e : Expr} {es : List Expr} {t : TA} {id T : String} {r : List V → Hp → VK → Prop}

def tCB (r : List V → Hp → VK → Prop) (t : TA) : TE := fun σ H Q => t σ H fun vs H1 => r vs H1 Q
theorem pe_callB (hc : CallR X (.builtin id) r) (hg : Gl X x) (hm : X.mg x = none) (hv : bootBuiltins x = some (.builtin id)) (ha : PA X (e :: es) t) (hn : x ≠ "__name__" := by decide) (hdb : (x == ("__debug__" : Str)) = false := by decide)
    (he : starEach (e :: es) X.env = (false, eval e X.env) :: starEach es X.env := by rfl) (hpl : (backTo pos (starEach es X.env)).any (·.1) = false := by rfl) : PE X (.Call (.Name x p) (e :: es) [] pos) (tCB r t) := by
  intro pins s σ H Q I h
  refine wpAny_Call_Name_kw (ld_blt I hg hm hv ?_ hn hdb)
  exact PyProof.Rows.callWith_builtin1 (thn (ha pos pins s σ H _ I h) fun us s1 ⟨vs, H1, I1, r1, q1⟩ => hc pins s1 σ H1 vs us Q I1 r1 q1) he hpl
theorem pe_callTy (hc : CallR X (.type T) r) (hg : Gl X x) (hm : X.mg x = none) (hv : bootBuiltins x = some (.type T)) (ha : PA X (e :: es) t) (hn : x ≠ "__name__" := by decide) (hdb : (x == ("__debug__" : Str)) = false := by decide)
    (he : starEach (e :: es) X.env = (false, eval e X.env) :: starEach es X.env := by rfl) (hpl : (backTo pos (starEach es X.env)).any (·.1) = false := by rfl) : PE X (.Call (.Name x p) (e :: es) [] pos) (tCB r t) := by
  intro pins s σ H Q I h
  refine wpAny_Call_Name_kw (ld_blt I hg hm hv ?_ hn hdb)
  exact PyProof.Rows.callWith_type1 (thn (ha pos pins s σ H _ I h) fun us s1 ⟨vs, H1, I1, r1, q1⟩ => hc pins s1 σ H1 vs us Q I1 r1 q1) he hpl
end
end L2

namespace HT
open PySem PyProof.Rows

section
open PySem.SeqAt
open PySem.AutoSeq1 (wpAny_loadPart')
open PySem.MeetsSeq PySem.MeetsSeq2 PySem.MeetsSeq3

end

section
variable {prog : Program} {w : World} {A : Around} {E : Value → Shared → Prop} {s : Shared}

def sIx (n d : Nat) : Option Int → Nat
  | none => d
  | some v => if v < 0 then (v + (n : Int)).toNat else min v.toNat n
theorem sIx_nat (n d k : Nat) : sIx n d (some (k : Int)) = min k n := by
  show (if (k : Int) < 0 then ((k : Int) + (n : Int)).toNat else min (k : Int).toNat n) = min k n
  rw [if_neg (by (first | lia | omega)), Int.toNat_natCast]
theorem sIx_le (n d : Nat) (hd : d ≤ n) (o : Option Int) : sIx n d o ≤ n := by
  cases o with
  | none => exact hd
  | some v =>
    show (if v < 0 then (v + (n : Int)).toNat else min v.toNat n) ≤ n
    by_cases hv : v < 0
    · rw [if_pos hv]; (first | lia | omega)
    · rw [if_neg hv]; exact Nat.min_le_right _ _
theorem clip_eq (v : Int) (n d : Nat) : (if v < 0 then max (v + (n : Int)) 0 else min v (n : Int)) = ((sIx n d (some v) : Nat) : Int) := by
  show (if v < 0 then max (v + (n : Int)) 0 else min v (n : Int)) = (((if v < 0 then (v + (n : Int)).toNat else min v.toNat n) : Nat) : Int)
  by_cases hv : v < 0
  · simp only [if_pos hv]; (first | lia | omega)
  · simp only [if_neg hv]; (first | lia | omega)
theorem adjust_gen (lo hi : Option Int) (n : Nat) : Builtin.Slice.sliceAdjust lo hi 1 (n : Int) = (((sIx n 0 lo : Nat) : Int), ((sIx n n hi : Nat) : Int)) := by
  have h1 : ¬ ((1 : Int) < 0) := by (first | lia | omega)
  unfold Builtin.Slice.sliceAdjust
  simp only [h1, if_false]
  refine Prod.ext ?_ ?_
  · cases lo with
    | none => rfl
    | some v => exact clip_eq v n 0
  · cases hi with
    | none => rfl
    | some v => exact clip_eq v n n
theorem places_gen (i j : Nat) : Builtin.Slice.slicePlaces (i : Int) (j : Int) 1 = j - i := by
  unfold Builtin.Slice.slicePlaces
  have h1 : (1 : Int) > 0 := by (first | lia | omega)
  simp only [h1, if_true, Int.ediv_one]
  split <;> (first | lia | omega)
theorem slicePart_ {v : Value} {o : Option Int} {Q : Option Int → Shared → Prop} (p : IsPart v o) (h : Q o s) : wpAny (model prog w) A (Builtin.Slice.slicePartIndex v) Q E s := by
  cases p with
  | none => exact slicePart_none h
  | int i t => exact slicePart_int h
theorem sliceApplied_gen {sl : Addr} {vl vu : Value} {lo hi : Option Int} {n : Nat} {Q : Int × Int × Nat → Shared → Prop} (hs : s.heap.IsSliceOf sl vl vu .none) (pl : IsPart vl lo) (pu : IsPart vu hi)
    (h : Q (((sIx n 0 lo : Nat) : Int), 1, sIx n n hi - sIx n 0 lo) s) : wpAny (model prog w) A (Builtin.Slice.sliceApplied (.ref sl) (pure (n : Int))) Q E s := by
  obtain ⟨os, hos, hcs, hds⟩ := id hs
  unfold Builtin.Slice.sliceApplied Builtin.Slice.sliceFields
  refine wpAny_bind (wpAny_bind (wpAny_field hos hds (x := vl) rfl (wpAny_bind (wpAny_field hos hds (x := vu) rfl (wpAny_bind (wpAny_field hos hds (x := .none) rfl (wpAny_pure ?_)))))))
  refine wpAny_bind (slicePart_none ?_)
  show wpAny _ _ (if ((1 : Int) == 0) = true then _ else _) _ _ s
  rw [if_neg (by decide)]
  refine wpAny_bind (slicePart_ pl (wpAny_bind (slicePart_ pu (wpAny_bind (wpAny_pure ?_)))))
  show wpAny _ _ (match Builtin.Slice.sliceAdjust lo hi 1 (n : Int) with | (lo, hi) => pure (lo, (1 : Int), Builtin.Slice.slicePlaces lo hi 1)) _ _ s
  rw [adjust_gen lo hi n]
  show wpAny _ _ (pure (((sIx n 0 lo : Nat) : Int), (1 : Int), Builtin.Slice.slicePlaces ((sIx n 0 lo : Nat) : Int) ((sIx n n hi : Nat) : Int) 1)) _ _ s
  rw [places_gen]
  exact wpAny_pure h
theorem pick_gen (xs : Array Value) (i k : Nat) : ((List.range k).filterMap fun (m : Nat) => xs[((i : Int) + (m : Int) * 1).toNat]?).toArray = ((xs.toList.drop i).take k).toArray := by
  have e : (fun (m : Nat) => xs[((i : Int) + (m : Int) * 1).toNat]?) = fun m => xs[i + m]? := by
    funext m
    have : ((i : Int) + (m : Int) * 1).toNat = i + m := by (first | lia | omega)
    rw [this]
  rw [e]
  have := pick_run xs i k
  rw [List.filterMap_map] at this
  have e2 : ((fun x => xs[x]?) ∘ fun x => i + x) = fun m => xs[i + m]? := rfl
  rw [e2] at this
  rw [this]

theorem getItem_tuple_cut {t sl : Addr} {items : Array Value} {vl vu : Value} {lo hi : Option Int} {Q : Value → Shared → Prop} (ht : IsTup s.heap t items) (hs : s.heap.IsSliceOf sl vl vu .none) (pl : IsPart vl lo) (pu : IsPart vu hi)
    (hw : ¬ (sIx items.size 0 lo = 0 ∧ sIx items.size items.size hi = items.size))
    (h : Q (.ref s.heap.objs.size) { s with heap := s.heap.push { cls := .type "tuple", data := .seq ((items.toList.drop (sIx items.size 0 lo)).take (sIx items.size items.size hi - sIx items.size 0 lo)).toArray } })
    (hsz : items.size ≤ sizeLine) : wpAny (model prog w) A (getItem (.ref t) (.ref sl)) Q E s := by
  have htake : sizeOk (.seq ((items.toList.drop (sIx items.size 0 lo)).take (sIx items.size items.size hi - sIx items.size 0 lo)).toArray) := by
    show ((items.toList.drop (sIx items.size 0 lo)).take (sIx items.size items.size hi - sIx items.size 0 lo)).toArray.size ≤ sizeLine
    rw [List.size_toArray, List.length_take, List.length_drop, Array.length_toList]
    (first | lia | omega)
  have hj : sIx items.size items.size hi ≤ items.size := sIx_le _ _ (Nat.le_refl _) hi
  obtain ⟨os, hos, hcs, hds⟩ := id hs
  have hTs : s.TypeIs (.ref sl) "slice" := ⟨os, hos, hcs⟩
  unfold getItem
  try with_reducible refine wpAny_holding ?_
  first | refine wpAny_bind (wpAny_pure ?_) | skip
  refine wpAny_bind (wpAny_sequenceKey ht.typeIs (by decide) ?_)
  refine wpAny_bind (wpAny_callSpecial?_slot (name := Str.ofString "__getitem__") ht.typeIs PyProof.Rows.slot_tuple_getitem
    (wpAny_call_entry PyProof.Rows.slot_tuple_getitem ht.typeIs entry_tuple_getitem ?_ (args_tuple_getitem _ _)))
  show wpAny _ _ (Builtin.Tuple.tupleItemsOf (.ref t) >>= _) _ _ s
  refine wpAny_bind (tupleItemsOf_ ht ?_)
  refine wpAny_bind (wpAny_typeOf hTs ?_)
  rw [if_pos (by decide)]
  refine wpAny_bind (sliceApplied_gen hs pl pu ?_)
  have hno : ¬ ((((sIx items.size 0 lo : Nat) : Int) == 0 && (1 : Int) == 1 && (sIx items.size items.size hi - sIx items.size 0 lo) == items.size) = true) := by
    intro q
    rw [Bool.and_eq_true, Bool.and_eq_true] at q
    have q1 : ((sIx items.size 0 lo : Nat) : Int) = 0 := eq_of_beq q.1.1
    have q2 : sIx items.size items.size hi - sIx items.size 0 lo = items.size := eq_of_beq q.2
    exact hw ⟨by (first | lia | omega), by (first | lia | omega)⟩
  show wpAny _ _ (if (((sIx items.size 0 lo : Nat) : Int) == 0 && (1 : Int) == 1 && (sIx items.size items.size hi - sIx items.size 0 lo) == items.size) = true then _ else _) _ _ s
  rw [if_neg hno, pick_gen]
  first
    | exact wpAny_bind (m := Builtin.Tuple.tupleExact _) (wpAny_newObj_type (wpAny_pure ⟨_, rfl, wpAny_pure h⟩) htake)
    | exact wpAny_bind (m := Builtin.Tuple.tupleExact _) (wpAny_newObj_type (wpAny_bind (wpAny_pure (wpAny_pure ⟨_, rfl, wpAny_pure h⟩))) htake)
    | exact wpAny_bind (wpAny_bind (m := Builtin.Tuple.tupleExact _) (wpAny_newObj_type (wpAny_pure (wpAny_pure ⟨_, rfl, wpAny_pure h⟩)) htake))
    | exact wpAny_bind (wpAny_bind (m := Builtin.Tuple.tupleExact _) (wpAny_newObj_type (wpAny_pure ⟨_, rfl, wpAny_pure h⟩) htake))
end
end HT

namespace L2
open PySem PySem.Spec PyProof.Rows

abbrev TO := St → Hp → (Option Int → Hp → Prop) → Prop
def PO (X : Cx) (e : Option Expr) (t : TO) : Prop :=
  ∀ (pins : List (Addr × Obj)) (s : Shared) (σ : St) (H : Hp) (Q : Option Int → Hp → Prop), Inv X pins σ H s → t σ H Q →
    wpAny (model X.prog X.w) X.A (evalPart e X.env) (fun u s' => ∃ o H', Inv X pins σ H' s' ∧ IsPart u o ∧ Q o H') X.xe s
def tNoPart : TO := fun _ H Q => Q none H
def tPart (t : TE) : TO := fun σ H Q => t σ H fun x H1 => ∃ i, x = .int i ∧ Q (some i) H1

theorem intsAre_of {ns : List Int} : ∀ {us : List Value}, Vals (ns.map V.int) us → IntsAre us ns := by
  induction ns with
  | nil => intro us r; rw [List.map_nil] at r; cases r; exact .nil
  | cons n ns ih =>
    intro us r
    rw [List.map_cons] at r
    cases r with
    | cons r1 r2 =>
      obtain ⟨t, e⟩ := r1
      subst e
      exact .cons n t (ih r2)

section
variable {X : Cx} {e : Expr} {te : TE} {lo hi : Option Expr} {tl th : TO} {pos p2 : Pos}

theorem po_none : PO X none tNoPart := by
  intro pins s σ H Q I h
  rw [evalPart_none]
  exact wpAny_pure ⟨none, H, I, .none, h⟩
theorem po_some (h : PE X e te) : PO X (some e) (tPart te) := by
  intro pins s σ H Q I hw
  rw [evalPart_some]
  refine thn (h pins s σ H _ I hw) fun u s1 ⟨x, H1, I1, r1, q1⟩ => ?_
  obtain ⟨i, rfl, q⟩ := q1
  obtain ⟨t, rfl⟩ := r1
  exact ⟨some i, H1, I1, .int i t, q⟩

def SlR (X : Cx) (r : V → Option Int → Option Int → Hp → VK → Prop) : Prop :=
  ∀ (pins : List (Addr × Obj)) (s : Shared) (σ : St) (H : Hp) (x : V) (v vl vu : Value) (lo hi : Option Int) (sl : Addr) (Q : VK), Inv X pins σ H s → RelV x v → s.heap.IsSliceOf sl vl vu .none → IsPart vl lo → IsPart vu hi → r x lo hi H Q →
    ∃ T id, typeLookup (.type T) "__getitem__" = pure (some (.builtin id)) ∧ s.TypeIs v T ∧ wpAny (model X.prog X.w) X.A (getItem v (.ref sl)) (EP X pins σ Q) X.xe s
def tSl (r : V → Option Int → Option Int → Hp → VK → Prop) (te : TE) (tl th : TO) : TE := fun σ H Q => te σ H fun x H1 => tl σ H1 fun l H2 => th σ H2 fun u H3 => r x l u H3 Q
theorem pe_slice {r : V → Option Int → Option Int → Hp → VK → Prop} (hr : SlR X r) (he : PE X e te) (hl : PO X lo tl) (hu : PO X hi th) : PE X (.Subscript e (.Slice lo hi none p2) pos) (tSl r te tl th) := by
  intro pins s σ H Q I h
  refine Subscript_ (thn (he pins s σ H _ I h) fun v s1 ⟨x, H1, I1, r1, q1⟩ => ?_)
  refine wpAny_Slice (thn (hl pins s1 σ H1 _ I1 q1) fun vl s2 ⟨l, H2, I2, pl, q2⟩ => thn (hu pins s2 σ H2 _ I2 q2) fun vu s3 ⟨u, H3, I3, pu, q3⟩ => ?_)
  rw [evalPart_none]
  refine wpAny_pure ?_
  have I4 : Inv X pins σ H3 { s3 with heap := s3.heap.push { cls := .type "slice", data := .fields #[vl, vu, .none] } } := I3.kept (t' := s3.toks) fun b ob q => Heap.get?_push_of_some _ q
  obtain ⟨T, id, hT, ht, hg⟩ := hr pins { s3 with heap := s3.heap.push { cls := .type "slice", data := .fields #[vl, vu, .none] } } σ H3 x v vl vu l u s3.heap.objs.size Q I4 r1 (Heap.IsSliceOf.new ..) pl pu q3
  show wpAny (model X.prog X.w) X.A (subscriptTail e (.Slice lo hi none p2) v (.ref s3.heap.objs.size)) (EP X pins σ Q) X.xe { s3 with heap := s3.heap.push { cls := .type "slice", data := .fields #[vl, vu, .none] } }
  exact tail_any (ops := [.ref s3.heap.objs.size, v]) ht hT hg (by with_unfolding_all rfl)

def cutV (xs : List V) (lo hi : Option Int) : List V := (xs.drop (HT.sIx xs.length 0 lo)).take (HT.sIx xs.length xs.length hi - HT.sIx xs.length 0 lo)
theorem cutV_length (xs : List V) (lo hi : Option Int) : (cutV xs lo hi).length ≤ xs.length := by
  unfold cutV
  rw [List.length_take, List.length_drop]
  (first | lia | omega)
def rSlT (K : PySem.W.Frag) : V → Option Int → Option Int → Hp → VK → Prop := fun x lo hi H Q => ∃ a xs, x = .ref a ∧ SqT K H a xs ∧
  ¬ (HT.sIx xs.length 0 lo = 0 ∧ HT.sIx xs.length xs.length hi = xs.length) ∧ ∀ p, H p = none → Q (.ref p) (upd H p (.tup (cutV xs lo hi)))
theorem sl_tup : SlR X (rSlT X.K) := by
  intro pins s σ H x v vl vu lo hi sl Q I rx hs pl pu h
  obtain ⟨a, xs, rfl, hx, hw, q⟩ := h
  cases rx
  obtain ⟨its, r, ht, hz⟩ := I.tuple hx
  have hlen : its.toArray.size = xs.length := by rw [List.size_toArray]; exact r.length.symm
  refine ⟨"tuple", _, PyProof.Rows.slot_tuple_getitem.lookup, ht.typeIs, ?_⟩
  refine HT.getItem_tuple_cut ht hs pl pu (by rw [hlen]; exact hw) ?_ (by rw [hlen]; exact hz)
  rw [hlen]
  refine ⟨.ref s.heap.objs.size, _, I.laid (t' := s.toks) (o := .tup (cutV xs lo hi)) (fun b ob q => Heap.get?_push_of_some _ q) (Nat.le_refl _) ?_, rfl, q _ (I.hok.fresh (Nat.le_refl _))⟩
  exact ⟨Nat.le_trans (cutV_length xs lo hi) hz, _, (r.drop (HT.sIx xs.length 0 lo)).take (HT.sIx xs.length xs.length hi - HT.sIx xs.length 0 lo), IsTup.new _ _⟩

end
end L2

namespace L2
open PySem PySem.Spec PyProof.Rows

def ixN (n : Nat) (i : Int) : Option Nat := if 0 ≤ i then (if i < n then some i.toNat else none) else if -(n : Int) ≤ i then some (i + n).toNat else none
def atI {α : Type} (xs : List α) (i : Int) : Option α := (ixN xs.length i).bind fun j => xs[j]?
theorem ixN_seq {n : Nat} {i : Int} {j : Nat} (h : ixN n i = some j) : seqIndex? i n = some j ∧ j < n ∧ -(n : Int) ≤ i ∧ i < n := by
  unfold ixN at h
  by_cases h0 : 0 ≤ i
  · rw [if_pos h0] at h
    by_cases h1 : i < n
    · rw [if_pos h1] at h
      have e : i.toNat = j := Option.some.inj h
      exact ⟨by rw [seqIndex_of h0 h1, e], by (first | lia | omega), by (first | lia | omega), h1⟩
    · rw [if_neg h1] at h; cases h
  · rw [if_neg h0] at h
    by_cases h1 : -(n : Int) ≤ i
    · rw [if_pos h1] at h
      have e : (i + n).toNat = j := Option.some.inj h
      exact ⟨by rw [seqIndex_neg (by (first | lia | omega)) h1, e], by (first | lia | omega), h1, by (first | lia | omega)⟩
    · rw [if_neg h1] at h; cases h
theorem atI_get {α : Type} {xs : List α} {i : Int} {v : α} (h : atI xs i = some v) : ∃ j, seqIndex? i xs.length = some j ∧ xs[j]? = some v ∧ j < xs.length ∧ -(xs.length : Int) ≤ i ∧ i < xs.length := by
  unfold atI at h
  cases e : ixN xs.length i with
  | none => rw [e] at h; cases h
  | some j =>
    rw [e] at h
    obtain ⟨h1, h2, h3, h4⟩ := ixN_seq e
    exact ⟨j, h1, h, h2, h3, h4⟩
theorem atI_nat {α : Type} {xs : List α} {j : Nat} {v : α} (h : xs[j]? = some v) : atI xs (j : Int) = some v := by
  have hj : j < xs.length := (List.getElem?_eq_some_iff.mp h).1
  have e : ixN xs.length (j : Int) = some j := by
    unfold ixN
    rw [if_pos (by (first | lia | omega)), if_pos (by (first | lia | omega))]; simp
  unfold atI; rw [e]; exact h
def PlainIx (b : Expr) : Prop := ∀ o i, subscripted b false o i = operate [o, i] (getItem o i)
def IxR (X : Cx) (r : R2) : Prop :=
  ∀ (value slice : Expr) (pins : List (Addr × Obj)) (s : Shared) (σ : St) (H : Hp) (x y : V) (v u : Value) (Q : VK), Inv X pins σ H s → RelV x v → RelV y u → r x y H Q →
    subscripted slice false v u = operate [v, u] (getItem v u) → wpAny (model X.prog X.w) X.A (subscriptTail value slice v u) (EP X pins σ Q) X.xe s
def MtR (X : Cx) (id : String) (r : V → List V → Hp → VK → Prop) : Prop :=
  ∀ (pins : List (Addr × Obj)) (s : Shared) (σ : St) (H : Hp) (x : V) (xs : List V) (v : Value) (us : List Value) (Q : VK), Inv X pins σ H s → RelV x v → Vals xs us → r x xs H Q →
    wpAny (model X.prog X.w) X.A (call (.builtin id) (v :: us)) (EP X pins σ Q) X.xe s
section
variable {X : Cx} {a b : Expr} {ta tb : TE} {pos : Pos}
theorem pe_ix {r : R2} (hr : IxR X r) (ha : PE X a ta) (hb : PE X b tb) (hs : PlainIx b) : PE X (.Subscript a b pos) (tOp r ta tb) := by
  intro pins s σ H Q I h
  exact Subscript_ (binT ha hb I h fun v u s2 x y H2 I2 rx ry q => hr a b pins s2 σ H2 x y v u Q I2 rx ry q (hs _ _))

def rIxL (K : PySem.W.Frag) : R2 := fun x y H Q => ∃ p xs i v, x = .ref p ∧ y = .int i ∧ SqL K H p xs ∧ atI xs i = some v ∧ Q v H
def rIxT (K : PySem.W.Frag) : R2 := fun x y H Q => ∃ p xs i v, x = .ref p ∧ y = .int i ∧ SqT K H p xs ∧ atI xs i = some v ∧ Q v H
theorem ix_list : IxR X (rIxL X.K) := by
  intro value slice pins s σ H x y v u Q I rx ry h hs
  obtain ⟨p, xs, i, z, rfl, rfl, hq, he, q⟩ := h
  cases rx
  obtain ⟨t, rfl⟩ := ry
  obtain ⟨its, r, pl, hz⟩ := I.list hq
  obtain ⟨j, h1, h2, h3, h4, h5⟩ := atI_get he
  obtain ⟨w, ew, rw'⟩ := r.get h2
  have hl := r.length
  have hn := line63
  have fin : EP X pins σ Q w s := ⟨z, H, I, rw', q⟩
  by_cases h0 : 0 ≤ i
  · have hj : i.toNat = j := by
      rw [seqIndex_of h0 h5] at h1
      exact Option.some.inj h1
    exact item_listR pl.isList h0 (by (first | lia | omega)) (by rw [hj]; simpa using ew) fin hs
  · have hj : (i + (its.toArray.size : Int)).toNat = j := by
      rw [seqIndex_neg (by (first | lia | omega)) h4] at h1
      rw [List.size_toArray, ← hl]
      exact Option.some.inj h1
    exact subscriptTail_builtinR (x := w) pl.isList.typeIs slot_list_getitem.lookup
      (wpAny_getItem_list_neg (Q := fun r s' => r = w ∧ EP X pins σ Q r s') pl.isList (by (first | lia | omega)) (by rw [List.size_toArray] <;> (first | lia | omega)) (by (first | lia | omega)) (by rw [hj]; simpa using ew) ⟨rfl, fin⟩) hs
theorem ix_tup : IxR X (rIxT X.K) := by
  intro value slice pins s σ H x y v u Q I rx ry h hs
  obtain ⟨p, xs, i, z, rfl, rfl, hq, he, q⟩ := h
  cases rx
  obtain ⟨t, rfl⟩ := ry
  obtain ⟨its, r, pl, hz⟩ := I.tuple hq
  obtain ⟨j, h1, h2, h3, h4, h5⟩ := atI_get he
  obtain ⟨w, ew, rw'⟩ := r.get h2
  have hl := r.length
  have hn := line63
  have fin : EP X pins σ Q w s := ⟨z, H, I, rw', q⟩
  exact subscriptTail_builtinR (x := w) pl.typeIs slot_tuple_getitem.lookup
    (getItem_tuple (j := j) (Q := fun r s' => r = w ∧ EP X pins σ Q r s') pl (by (first | lia | omega)) (by (first | lia | omega)) (by rw [List.size_toArray, ← hl]; exact h1) (by simpa using ew) ⟨rfl, fin⟩) hs
theorem slice_bounds (lo hi : Option Int) (n : Nat) : (sliceBounds lo hi none n).1 = ((HT.sIx n 0 lo : Nat) : Int) ∧ (sliceBounds lo hi none n).2.1 = ((HT.sIx n n hi : Nat) : Int) ∧ (sliceBounds lo hi none n).2.2 = 1 := by
  refine ⟨?_, ?_, rfl⟩
  · cases lo with
    | none => simp [sliceBounds, HT.sIx]
    | some i =>
      simp only [sliceBounds, HT.sIx, Option.getD_none, show (1 : Int) > 0 by decide, if_true]
      by_cases h : i < 0
      · simp only [h, if_true] <;> (first | lia | omega)
      · simp only [h, if_false] <;> (first | lia | omega)
  · cases hi with
    | none => simp [sliceBounds, HT.sIx]
    | some i =>
      simp only [sliceBounds, HT.sIx, Option.getD_none, show (1 : Int) > 0 by decide, if_true]
      by_cases h : i < 0
      · simp only [h, if_true] <;> (first | lia | omega)
      · simp only [h, if_false] <;> (first | lia | omega)
theorem slicePick_cut (its : List Value) (lo hi : Option Int) : slicePick its.toArray lo hi none = ((its.drop (HT.sIx its.length 0 lo)).take (HT.sIx its.length its.length hi - HT.sIx its.length 0 lo)).toArray := by
  obtain ⟨h1, h2, h3⟩ := slice_bounds lo hi its.toArray.size
  unfold slicePick
  rw [h1, h2, h3]
  simp only [sliceRange_one, pick_run, List.size_toArray] <;> rfl
def rSlL (K : PySem.W.Frag) : V → Option Int → Option Int → Hp → VK → Prop := fun x lo hi H Q => ∃ a xs, x = .ref a ∧ SqL K H a xs ∧ ∀ p, H p = none → Q (.ref p) (upd H p (.lst (cutV xs lo hi)))
theorem sl_list : SlR X (rSlL X.K) := by
  intro pins s σ H x v vl vu lo hi sl Q I rx hs pl pu h
  obtain ⟨a, xs, rfl, hx, q⟩ := h
  cases rx
  obtain ⟨its, r, ht, hz⟩ := I.list hx
  have hlen := r.length
  refine ⟨"list", _, slot_list_getitem.lookup, ht.isList.typeIs, ?_⟩
  refine wpAny_getItem_list_slice ht.isList hs pl pu .none (by simp) ?_ (by rw [List.size_toArray] <;> (first | lia | omega))
  rw [slicePick_cut, ← hlen]
  refine ⟨.ref s.heap.objs.size, _, I.laid (t' := s.toks) (o := .lst (cutV xs lo hi)) (fun b ob q => Heap.get?_push_of_some _ q) (Nat.le_refl _) ?_, rfl, q _ (I.hok.fresh (Nat.le_refl _))⟩
  exact ⟨Nat.le_trans (cutV_length xs lo hi) hz, _, 0, (r.drop (HT.sIx xs.length 0 lo)).take (HT.sIx xs.length xs.length hi - HT.sIx xs.length 0 lo), Heap.get?_push_size _ rfl⟩

def flatV : V → Bool
  | .non => true
  | .bl _ => true
  | .int _ => true
  | .str _ => true
  | _ => false
def eqV : V → V → Bool
  | .non, .non => true
  | .bl a, .bl b => a == b
  | .bl a, .int b => (if a then 1 else 0) == b
  | .int a, .bl b => a == (if b then 1 else 0)
  | .int a, .int b => a == b
  | .str a, .str b => a == b
  | _, _ => false
theorem eqAt_V {A : Around} {s : Shared} {y x : V} {u v : Value} (ry : RelV y u) (rx : RelV x v) (fy : flatV y = true) (fx : flatV x = true) : SeqAt.EqAt A s u v (eqV y x) := by
  cases y with
  | non =>
    cases ry
    cases x with
    | non => cases rx; exact SeqAt.EqAt.same _
    | bl b => cases rx; exact SeqAt.EqAt.none_bool b
    | int b => obtain ⟨t, rfl⟩ := rx; exact SeqAt.EqAt.none_int b t
    | str b => obtain ⟨t, rfl⟩ := rx; exact SeqAt.EqAt.none_str b t
    | _ => exact absurd (show false = true from fx) Bool.false_ne_true
  | bl a =>
    cases ry
    cases x with
    | non => cases rx; exact SeqAt.EqAt.bool_none a
    | bl b => cases rx; exact SeqAt.EqAt.bool_bool a b
    | int b => obtain ⟨t, rfl⟩ := rx; exact SeqAt.EqAt.bool_int a b t
    | str b => obtain ⟨t, rfl⟩ := rx; exact SeqAt.EqAt.bool_str a b t
    | _ => exact absurd (show false = true from fx) Bool.false_ne_true
  | int a =>
    obtain ⟨t', rfl⟩ := ry
    cases x with
    | non => cases rx; exact SeqAt.EqAt.int_none a t'
    | bl b => cases rx; exact SeqAt.EqAt.int_bool a t' b
    | int b => obtain ⟨t, rfl⟩ := rx; exact SeqAt.EqAt.int_int a t' b t
    | str b => obtain ⟨t, rfl⟩ := rx; exact SeqAt.EqAt.int_str a t' b t
    | _ => exact absurd (show false = true from fx) Bool.false_ne_true
  | str a =>
    obtain ⟨t', rfl⟩ := ry
    cases x with
    | non => cases rx; exact SeqAt.EqAt.str_none a t'
    | bl b => cases rx; exact SeqAt.EqAt.str_bool a t' b
    | int b => obtain ⟨t, rfl⟩ := rx; exact SeqAt.EqAt.str_int a t' b t
    | str b => obtain ⟨t, rfl⟩ := rx; exact SeqAt.EqAt.str_str a t' b t
    | _ => exact absurd (show false = true from fx) Bool.false_ne_true
  | _ => exact absurd (show false = true from fy) Bool.false_ne_true
def eqU (x : V) (u : Value) : Bool := match u with
  | .none => eqV .non x
  | .bool b => eqV (.bl b) x
  | .int i _ => eqV (.int i) x
  | .str z _ => eqV (.str z) x
  | _ => false
theorem eqU_of {x y : V} {u : Value} (r : RelV y u) (f : flatV y = true) : eqU x u = eqV y x := by
  cases y with
  | non => cases r; rfl
  | bl b => cases r; rfl
  | int i => obtain ⟨t, rfl⟩ := r; rfl
  | str z => obtain ⟨t, rfl⟩ := r; rfl
  | _ => exact absurd (show false = true from f) Bool.false_ne_true
theorem any_eqU {x : V} : ∀ {xs : List V} {us : List Value}, Vals xs us → xs.all flatV = true → us.any (eqU x) = xs.any fun y => eqV y x
  | _, _, .nil, _ => rfl
  | y :: xs, u :: us, .cons r t, f => by
    rw [List.all_cons, Bool.and_eq_true] at f
    rw [List.any_cons, List.any_cons, eqU_of r f.1, any_eqU t f.2]
theorem mem_eqAt {A : Around} {s : Shared} {x : V} {v : Value} (rx : RelV x v) (fx : flatV x = true) : ∀ {xs : List V} {us : List Value}, Vals xs us → xs.all flatV = true → ∀ u ∈ us, SeqAt.EqAt A s u v (eqU x u)
  | _, _, .nil, _ => fun u hu => by cases hu
  | y :: xs, u :: us, .cons r t, f => fun u' hu => by
    rw [List.all_cons, Bool.and_eq_true] at f
    rcases List.mem_cons.mp hu with rfl | hu
    · rw [eqU_of r f.1]; exact eqAt_V r rx f.1 fx
    · exact mem_eqAt rx fx t f.2 u' hu
def inV (x : V) (xs : List V) : Bool := xs.any fun y => eqV y x
def rIn (K : PySem.W.Frag) (neg : Bool) : R2 := fun x y H Q => ∃ p xs, y = .ref p ∧ (SqL K H p xs ∨ SqT K H p xs) ∧ flatV x = true ∧ xs.all flatV = true ∧ Q (.bl (if neg then !inV x xs else inV x xs)) H
theorem op_in_seq : OpR X (compareOp .In) (rIn X.K false) := by
  intro pins s σ H x y v u Q I rx ry h
  obtain ⟨p, xs, rfl, hq, fx, fs, q⟩ := h
  cases ry
  rcases hq with hq | hq
  · obtain ⟨its, r, pl, hz⟩ := I.list hq
    refine SeqAt.in_listAt (eqU x) pl.isList (fun w hw => mem_eqAt rx fx r fs w (by simpa using hw)) ⟨.bl _, H, I, rfl, ?_⟩
    rw [show its.toArray.any (eqU x) = its.any (eqU x) by simp, any_eqU r fs]
    exact q
  · obtain ⟨its, r, pl, hz⟩ := I.tuple hq
    refine SeqAt.in_tupleAt (eqU x) pl (fun w hw => mem_eqAt rx fx r fs w (by simpa using hw)) ⟨.bl _, H, I, rfl, ?_⟩
    rw [show its.toArray.any (eqU x) = its.any (eqU x) by simp, any_eqU r fs]
    exact q
theorem op_notIn_seq : OpR X (compareOp .NotIn) (rIn X.K true) := by
  intro pins s σ H x y v u Q I rx ry h
  obtain ⟨p, xs, rfl, hq, fx, fs, q⟩ := h
  cases ry
  rcases hq with hq | hq
  · obtain ⟨its, r, pl, hz⟩ := I.list hq
    refine SeqAt.notIn_listAt (eqU x) pl.isList (fun w hw => mem_eqAt rx fx r fs w (by simpa using hw)) ⟨.bl _, H, I, rfl, ?_⟩
    rw [show its.toArray.any (eqU x) = its.any (eqU x) by simp, any_eqU r fs]
    exact q
  · obtain ⟨its, r, pl, hz⟩ := I.tuple hq
    refine SeqAt.notIn_tupleAt (eqU x) pl (fun w hw => mem_eqAt rx fx r fs w (by simpa using hw)) ⟨.bl _, H, I, rfl, ?_⟩
    rw [show its.toArray.any (eqU x) = its.any (eqU x) by simp, any_eqU r fs]
    exact q
theorem call_len_seq : CallR X (.builtin "len") (fun xs H Q => ∃ p ys, xs = [.ref p] ∧ (SqL X.K H p ys ∨ SqT X.K H p ys) ∧ Q (.int ys.length) H) := by
  intro pins s σ H xs us Q I r h
  obtain ⟨p, ys, rfl, hq, q⟩ := h
  obtain ⟨u, rfl, rx⟩ := vals1 r
  cases rx
  have hn := line63
  rcases hq with hq | hq
  · obtain ⟨its, r', pl, hz⟩ := I.list hq
    have hlen := r'.length
    exact Calls.call_len_list pl.isList (by simp only [List.size_toArray] <;> (first | lia | omega)) ⟨.int ys.length, H, I.tok _, ⟨s.toks + 1, by rw [List.size_toArray, hlen]⟩, q⟩
  · obtain ⟨its, r', pl, hz⟩ := I.tuple hq
    have hlen := r'.length
    exact len_tuple pl (by simp only [List.size_toArray] <;> (first | lia | omega)) ⟨.int ys.length, H, I.tok _, ⟨s.toks + 1, by rw [List.size_toArray, hlen]⟩, q⟩
theorem call_tuple_of : CallR X (.type "tuple") (fun xs H Q => ∃ p ys, xs = [.ref p] ∧ ((SqL X.K H p ys ∧ ∀ l, H l = none → Q (.ref l) (upd H l (.tup ys))) ∨ (SqT X.K H p ys ∧ Q (.ref p) H))) := by
  intro pins s σ H xs us Q I r h
  obtain ⟨p, ys, rfl, h⟩ := h
  obtain ⟨u, rfl, rx⟩ := vals1 r
  cases rx
  rcases h with ⟨hq, q⟩ | ⟨hq, q⟩
  · obtain ⟨its, r', pl, hz⟩ := I.list hq
    have hlen := r'.length
    refine call_tuple_list pl.isList (fun h' kp => ?_) (by simp only [List.size_toArray] <;> (first | lia | omega))
    have I1 : Inv X pins σ H { s with heap := h' } := I.kept (t' := s.toks) kp
    have I2 : Inv X pins σ (upd H h'.objs.size (.tup ys)) { s with heap := h'.push { cls := .type "tuple", data := .seq its.toArray } } :=
      I1.laid (t' := s.toks) (fun b o e => Heap.get?_push_of_some _ e) (Nat.le_refl _) (show ObjOk X.prog X.w _ _ _ (.tup ys) from ⟨hz, its, r', IsTup.new _ _⟩)
    exact ⟨.ref h'.objs.size, _, I2, rfl, q _ (I1.hok.fresh (Nat.le_refl _))⟩
  · obtain ⟨its, r', pl, hz⟩ := I.tuple hq
    exact call_tuple_same pl ⟨.ref p, H, I, rfl, q⟩

def tyV (K : PySem.W.Frag) (T : String) (x : V) (H : Hp) : Prop := match x with
  | .str _ => T = "str"
  | .int _ => T = "int"
  | .ref p => (T = "list" ∧ ∃ xs, SqL K H p xs) ∨ (T = "tuple" ∧ ∃ o, K.lookup p = some o ∧ o.cls = .type "tuple" ∧ o.dict = none) ∨
      (T = "dict" ∧ ((∃ kvs, H p = some (.dK kvs)) ∨ ∃ kvs, H p = some (.dT kvs))) ∨ (T = "set" ∧ ∃ S n, H p = some (.set S n))
  | _ => False
theorem tyV_is {pins : List (Addr × Obj)} {σ : St} {H : Hp} {s : Shared} {T : String} {x : V} {v : Value} (I : Inv X pins σ H s) (r : RelV x v) (ty : tyV X.K T x H) :
    s.TypeIs v T ∧ ∀ a, v = .ref a → ∃ ob, s.heap.get? a = some ob ∧ ob.dict = none := by
  cases x with
  | str z =>
    obtain ⟨t, rfl⟩ := r
    cases (show T = "str" from ty)
    exact ⟨typeIs_str s z t, fun _ e => nomatch e⟩
  | int i =>
    obtain ⟨t, rfl⟩ := r
    cases (show T = "int" from ty)
    exact ⟨typeIs_int s i t, fun _ e => nomatch e⟩
  | ref p =>
    cases r
    rcases ty with ⟨rfl, xs, hq⟩ | ⟨rfl, o, hk, hc, hd⟩ | ⟨rfl, hk⟩ | ⟨rfl, S, n, hk⟩
    · obtain ⟨its, _, pl, _⟩ := I.list hq
      refine ⟨pl.isList.typeIs, fun a e => ?_⟩
      cases e
      obtain ⟨o, n, e, c, hd, _⟩ := pl
      exact ⟨o, e, hd⟩
    · refine ⟨⟨o, I.kIn p o hk, hc⟩, fun a e => ?_⟩
      cases e
      exact ⟨o, I.kIn _ o hk, hd⟩
    · have z : ∃ o, s.heap.get? p = some o ∧ o.ExactDict := by
        rcases hk with ⟨kvs, hk⟩ | ⟨kvs, hk⟩
        · obtain ⟨_, _, _, _, o, _, _, e, ex, _⟩ := I.hok p _ hk
          exact ⟨o, e, ex⟩
        · obtain ⟨_, _, _, _, o, _, _, e, ex, _⟩ := I.hok p _ hk
          exact ⟨o, e, ex⟩
      obtain ⟨o, e, ex⟩ := z
      refine ⟨⟨o, e, ex.1⟩, fun a e2 => ?_⟩
      cases e2
      exact ⟨o, e, ex.2.1⟩
    · obtain ⟨o, _, _, _, e, ex, _⟩ := I.hok p _ hk
      refine ⟨⟨o, e, ex.1⟩, fun a e2 => ?_⟩
      cases e2
      exact ⟨o, e, ex.2.1⟩
  | _ => exact False.elim ty
def tBM0 (K : PySem.W.Frag) (T : String) (r : V → List V → Hp → VK → Prop) (to : TE) : TE := fun σ H Q => to σ H fun x H1 => tyV K T x H1 ∧ r x [] H1 Q
def tBM (K : PySem.W.Frag) (T : String) (r : V → List V → Hp → VK → Prop) (to : TE) (t : TA) : TE := fun σ H Q => to σ H fun x H1 => tyV K T x H1 ∧ t σ H1 fun xs H2 => r x xs H2 Q
variable {o e : Expr} {es : List Expr} {to : TE} {t : TA} {name : Str} {apos cpos : Pos} {T id : String} {r : V → List V → Hp → VK → Prop}
theorem pe_bm0 (pa : PlainAttrs T) (slot : Slot T name id) (hty : typeOf (.builtin id) = pure (.type "method_descriptor")) (hm : MtR X id r) (ho : PE X o to)
    (hbase : attributeBase o name X.env (eval o X.env) = eval o X.env := by rfl) (hline : (apos.endLine == cpos.line) = true := by rfl) : PE X (.Call (.Attribute o name apos) [] [] cpos) (tBM0 X.K T r to) := by
  intro pins s σ H Q I h
  refine wpAny_Call_method0_late hbase hline (thn (ho pins s σ H _ I h) fun v s1 ⟨x, H1, I1, r1, ty, q1⟩ => ?_)
  obtain ⟨h1, h2⟩ := tyV_is I1 r1 ty
  exact ⟨T, id, pa, slot, hty, h1, h2, Calls.callWith_builtin rfl (PySem.evalArgs_none (hm pins s1 σ H1 x [] v [] Q I1 r1 .nil q1))⟩
theorem pe_bm (pa : PlainAttrs T) (slot : Slot T name id) (hty : typeOf (.builtin id) = pure (.type "method_descriptor")) (hm : MtR X id r) (ho : PE X o to) (ha : PA X (e :: es) t)
    (hbase : attributeBase o name X.env (eval o X.env) = eval o X.env := by rfl)
    (hfew : ((backTo cpos (starEach (e :: es) X.env)).all (fun x => !x.1) && (backToKw cpos (keywordEach [] X.env)).all (fun x => x.1.isSome)
      && decide ((e :: es).length + ([] : List Keyword).length + (if ([] : List Keyword).isEmpty then 0 else 1) < 30)) = true := by rfl)
    (hline : (apos.endLine == cpos.line) = true := by rfl) (hs : starEach (e :: es) X.env = (false, eval e X.env) :: starEach es X.env := by rfl) (hplain : (backTo cpos (starEach es X.env)).any (·.1) = false := by rfl) :
    PE X (.Call (.Attribute o name apos) (e :: es) [] cpos) (tBM X.K T r to t) := by
  intro pins s σ H Q I h
  refine wpAny_Call_method_late hbase hfew hline rfl (thn (ho pins s σ H _ I h) fun v s1 ⟨x, H1, I1, r1, ty, q1⟩ => ?_)
  obtain ⟨h1, h2⟩ := tyV_is I1 r1 ty
  refine ⟨T, id, pa, slot, hty, h1, h2, ?_⟩
  have hA := ha cpos pins s1 σ H1 _ I1 q1
  rw [hs] at hA ⊢
  refine Calls.callWith_builtin (by show (false || (backTo cpos (starEach es X.env)).any (·.1)) = false; rw [hplain] <;> rfl) (Calls.evalArgs_plain ?_)
  exact thn hA fun us s2 ⟨vs, H2, I2, r2, q2⟩ => hm pins s2 σ H2 x vs v us Q I2 r1 r2 q2
/- xs.append(e), list.index on a module's tuple .. are MtR facts of 06m -/
end
end L2

namespace L2
open PySem PySem.Spec PyProof.Rows

def MtM (X : Cx) (id : String) (r : V → List V → Hp → VK → Prop) : Prop :=
  ∀ (pins : List (Addr × Obj)) (s : Shared) (σ : St) (H : Hp) (x : V) (xs : List V) (v : Value) (us : List Value) (Q : VK), Inv X pins σ H s → RelV x v → Vals xs us → r x xs H Q →
    wpAny (model X.prog X.w) X.A (call (.builtin id) (v :: us)) (EP X pins σ Q) X.xe s

theorem Vals.one : ∀ {x : V} {us : List Value}, Vals [x] us → ∃ u, us = [u] ∧ RelV x u
  | _, _, .cons r .nil => ⟨_, rfl, r⟩
theorem Vals.rep {xs : List V} {us : List Value} (h : Vals xs us) : ∀ k : Nat, Vals (List.replicate k xs).flatten (List.replicate k us).flatten
  | 0 => .nil
  | k + 1 => by
    rw [List.replicate_succ, List.replicate_succ, List.flatten_cons, List.flatten_cons]
    exact Vals.append h (Vals.rep h k)
theorem foldl_rep (its : List Value) : ∀ (k : Nat) (acc : List Value),
    List.foldl (fun x1 x2 => x1 ++ x2) acc.toArray (List.replicate k its.toArray) = (acc ++ (List.replicate k its).flatten).toArray
  | 0, acc => by simp
  | k + 1, acc => by
    have e : acc.toArray ++ its.toArray = (acc ++ its).toArray := by simp
    have e2 : (acc ++ its) ++ (List.replicate k its).flatten = acc ++ (List.replicate (k + 1) its).flatten := by
      rw [List.replicate_succ, List.flatten_cons, List.append_assoc]
    rw [← e2, ← foldl_rep its k (acc ++ its), ← e, List.replicate_succ, List.foldl_cons]

section
variable {X : Cx} {pins : List (Addr × Obj)} {σ : St} {H : Hp} {s : Shared} {l b : Addr} {xs ys zs : List V}

theorem Inv.lset {its its' : List Value} {n : Nat} {f : Array Value → Array Value} {t' : Nat} (I : Inv X pins σ H s) (hH : H l = some (.lst xs))
    (e : s.heap.get? l = some { cls := .type "list", data := .seq its.toArray n }) (hf : f its.toArray = its'.toArray) (hv : Vals ys its') (hz : ys.length ≤ sizeLine) :
    Inv X pins σ (upd H l (.lst ys)) { s with heap := s.heap.update l (Obj.mapSeq f), toks := t' } := by
  have q := PySem.IsL.update e f
  rw [hf] at q
  refine I.write (x := l) (e := l) (by rw [hH]; exact trivial) (.inl rfl) (fun b' u hb hu => (Heap.get?_update_other s.heap (Obj.mapSeq f) (Ne.symm hb)).trans hu) ⟨_, q⟩ ?_
  exact ⟨hz, its', _, hv, q⟩
theorem Inv.lnew {its : List Value} {t' : Nat} (I : Inv X pins σ H s) (hv : Vals ys its) (hz : ys.length ≤ sizeLine) :
    Inv X pins σ (upd H s.heap.objs.size (.lst ys)) { s with heap := s.heap.push { cls := .type "list", data := .seq its.toArray }, toks := t' } :=
  I.laid (fun _ _ q => Heap.get?_push_of_some _ q) (Nat.le_refl _) ⟨hz, its, 0, hv, Heap.get?_push_size _ rfl⟩
theorem Inv.fresh (I : Inv X pins σ H s) : H s.heap.objs.size = none := I.hok.fresh (Nat.le_refl _)
theorem Inv.lstM (I : Inv X pins σ H s) (hH : H l = some (.lst xs)) : xs.length ≤ sizeLine ∧ ∃ (its : List Value) (n : Nat), Vals xs its ∧ xs.length = its.length ∧ s.heap.get? l = some { cls := .type "list", data := .seq its.toArray n } := by
  obtain ⟨z, its, n, r, e⟩ := I.hok l _ hH
  exact ⟨z, its, n, r, r.length, e⟩

theorem notLongL {n : Nat} (h : n ≤ sizeLine) : Builtin.List.listTooLong n = false := by
  unfold Builtin.List.listTooLong
  exact decide_eq_false (by (first | lia | omega))
end

section
variable {X : Cx}

def rAppend : V → List V → Hp → VK → Prop := fun x vs H Q => ∃ l xs y, x = .ref l ∧ vs = [y] ∧ H l = some (.lst xs) ∧ xs.length < sizeLine ∧ Q .non (upd H l (.lst (xs ++ [y])))
theorem mt_append : MtM X "list.append" rAppend := by
  intro pins s σ H x vs v us Q I rx rv h
  obtain ⟨l, xs, y, rfl, rfl, hH, hz, q⟩ := h
  cases rx
  obtain ⟨u, rfl, ru⟩ := rv.one
  obtain ⟨z, its, n, r, hl, e⟩ := I.lstM hH
  refine call_meets F.slot_list_append ⟨_, e, rfl⟩ F.entry_list_append (F.args_list_append_2 _ _) (PySem.list_append l its.toArray n u (by rw [List.size_toArray]; (first | lia | omega))) ⟨e, ?_⟩
  refine ⟨.non, _, I.lset (its' := its ++ [u]) hH e (by simp) (r.append (.cons ru .nil)) ?_, rfl, q⟩
  rw [List.length_append, List.length_singleton]
  (first | lia | omega)

def rRep : R2 := fun x y H Q => ∃ l k xs, x = .ref l ∧ y = .int k ∧ H l = some (.lst xs) ∧ -(2 ^ 63) ≤ k ∧ k < 2 ^ 63 ∧ xs.length * k.toNat ≤ sizeLine ∧
  ∀ p, H p = none → Q (.ref p) (upd H p (.lst (List.replicate k.toNat xs).flatten))
theorem len_rep {α : Type} (xs : List α) (k : Nat) : (List.replicate k xs).flatten.length = k * xs.length := by
  induction k with
  | zero => simp
  | succ k ih => rw [List.replicate_succ, List.flatten_cons, List.length_append, ih, Nat.succ_mul, Nat.add_comm]
theorem op_rep : OpR X (binaryOp .Mult) rRep := by
  intro pins s σ H x y v u Q I rx ry h
  obtain ⟨l, k, xs, rfl, rfl, hH, h1, h2, hz, q⟩ := h
  cases rx
  obtain ⟨t, rfl⟩ := ry
  obtain ⟨z, its, n, r, hl, e⟩ := I.lstM hH
  have hlen : its.toArray.size * k.toNat ≤ sizeLine := by rw [List.size_toArray, ← hl]; exact hz
  have hcap : ¬ its.toArray.size * k.toNat > (2 ^ 63 - 1) / 8 := by
    have : (sizeLine : Nat) ≤ (2 ^ 63 - 1) / 8 := by decide
    (first | lia | omega)
  have hfit : ¬ (!Builtin.List.listFitsIndex k) = true := by
    rw [fitsIndex_both h1 h2]
    exact Bool.false_ne_true
  have hlong : ¬ Builtin.List.listTooLong (its.toArray.size * k.toNat) = true := by
    rw [notLongL hlen]
    exact Bool.false_ne_true
  have hnew : List.foldl (fun x1 x2 => x1 ++ x2) #[] (List.replicate (if its.toArray.isEmpty = true then 0 else k.toNat) its.toArray) = (List.replicate k.toNat its).flatten.toArray := by
    have f0 : ∀ m : Nat, List.foldl (fun x1 x2 => x1 ++ x2) #[] (List.replicate m its.toArray) = (List.replicate m its).flatten.toArray := fun m => by
      have := foldl_rep its m []
      rw [List.nil_append] at this
      exact this
    rw [f0]
    cases its with
    | nil => simp
    | cons a r' => rw [if_neg (by simp)]
  refine wpAny_binaryOp_repeat_ref (T := "list") (U := "int") (by decide) ⟨_, e, rfl⟩ (fun s' => typeIs_int s' k t) noFill_list_mul F.fills_int_mul F.slot_int_rmul repeat_list F.slot_int_index.lookup
    (call_meets F.slot_int_rmul (typeIs_int s k t) F.entry_int_rmul (F.args_int_rmul_2 _ _) (int___rmul___int_list k t l its.toArray n)
      ⟨e, rfl, ⟨_, e, rfl⟩, call_meets F.slot_list_mul ⟨_, e, rfl⟩ F.entry_list_mul (F.args_list_mul_2 _ _) (AutoListH.list___mul___list_int_3 l its.toArray n k t hfit hcap hlong) ⟨e, ?_⟩⟩)
  rw [hnew]
  exact ⟨.ref _, _, I.lnew (t' := s.toks) (r.rep k.toNat) (by rw [len_rep, Nat.mul_comm]; exact hz), rfl, q _ I.fresh⟩

end

section
variable {prog : Program} {w : World} {A : Around} {E : Value → Shared → Prop} {s : Shared}
end

section
variable {X : Cx}
end
end L2

namespace Att
open PySem PySem.W PySem.Calls PyProof.Rows

theorem ints_of_wellAll {P : Params} {h : Heap} : ∀ (ns : List Int) (vs : List Value), WellAll P h vs (ns.map WData.int) → IntsAre vs ns := by
  intro ns
  induction ns with
  | nil =>
    intro vs w
    rw [List.map_nil] at w
    cases w
    exact .nil
  | cons n ns ih =>
    intro vs w
    rw [List.map_cons] at w
    cases w with
    | cons a b =>
      cases a
      exact .cons _ _ (ih _ b)

theorem script_of {l : OpenLaw} {n : Nat} (hn : l.most = some n) {P : Params} {h : Heap} {args : List WData} {vals : List Value}
    (hpre : l.row.toRowW.claim.pre args = true) (hwl : WellAll P h vals args) :
    ∃ a vs ns, vals = [Value.ref a] ∧ args = [WData.list (ns.map WData.int)] ∧ h.get? a = some { cls := .type "list", data := .seq vs.toArray } ∧ IntsAre vs ns ∧ ns.length ≤ n := by
  have hsh : WShape.hasAll [] args [.list .int] = true := (pre_splitW hpre).1
  have hc : l.pre.holds [] { args := args } = true := (pre_splitW hpre).2
  obtain ⟨d, r, rfl, h1, h2⟩ := hasAllW_cons hsh
  obtain rfl := hasAllW_nil h2
  obtain ⟨xs, rfl, h3⟩ := hasW_list h1
  obtain ⟨ns, rfl⟩ := items_int h3
  have hlen : ns.length ≤ n := by
    unfold OpenLaw.pre at hc
    have h4 : (WTm.not (.lt (.lit (.int (n : Int))) (.len (.arg 0)))).holds [] { args := [.list (ns.map .int)] } = true := by
      have h4 := (holds_andW hc).1
      rw [hn] at h4
      exact h4
    have h5 := condW_of h4 (w_not (w_lt w_lit (w_len_list (w_arg rfl))))
    rw [List.length_map] at h5
    refine Nat.le_of_not_lt fun q => ?_
    have q' : (n : Int) < ((ns.length : Nat) : Int) := by (first | lia | omega)
    first
      | (rw [decide_eq_true q'] at h5; exact absurd h5 (by decide))
      | (simp at h5; (first | lia | omega))
  cases hwl with
  | cons w1 w2 =>
    cases w2
    cases w1 with
    | list ho hall => exact ⟨_, _, ns, rfl, rfl, ho, ints_of_wellAll ns _ hall, hlen⟩

theorem post_true (l : OpenLaw) (args : List WData) : l.row.toRowW.claim.post args (.bool true) args = true :=
  postW_of (r := l.row.toRowW) (X := (true == true))
    (show WShape.has [] (.bool true) .bool = true by first | rfl | decide | simp [WShape.has, WShape.arms, WShape.armsAll])
    (show (WTm.eq .res (.lit (.bool true))).value [] { args := args, res := some (.bool true), after := args } = some (.bool (true == true)) from w_eq_bool (w_res rfl) w_lit) rfl

theorem attach_call {l : OpenLaw} {n : Nat} {q : Program} {loose : List Str} {XP : (Str → Option Value) → Heap → Prop} {YP : World → Heap → Prop} {d : DefRec}
    (hn : l.most = some n) (hdf : d.params.defaults = [])
    (call : ∀ (w : World) (s₀ s₁ : Shared) (mg mb : Str → Option Value) (fa : Addr) (o : Obj) (pm cd doc : Value) (a : Addr) (vs : List Value) (ns : List Int),
      Ground q loose [] XP w s₀ mg mb s₁.heap → YP w s₁.heap →
      s₁.heap.get? fa = some o → o.data = .func (docDef d.name d.params d.body d.scope pm cd doc) → s₁.heap.CodeRec cd d.name → mg d.name = some (.ref fa) →
      s₁.heap.get? a = some { cls := .type "list", data := .seq vs.toArray } → IntsAre vs ns → ns.length ≤ n → s₁.gens = #[] →
      codeAny (model l.prog w) callerA (.call (.ref fa) ⟨[.ref a], []⟩) (fun r s' => r = .ok (.ret (.bool true)) ∧ OldK s₁.heap s'.heap ∧ s'.os = s₁.os ∧ AllBare s'.gens) s₁) :
    WalkO q loose XP YP l.row.toRowW d [] (fun f vs => PySem.call f vs) := by
  intro w s₀ s₁ mg mb G Y fa o pm cd doc dV kV ho hd hcd hD hmg hg args vals as hpre hlay hrd hwl hlo
  obtain rfl : dV = .none := Dflts.none hD hdf
  obtain rfl : kV = .none := Dflts.noKw hD
  obtain ⟨a, vs, ns, rfl, rfl, hobj, hints, hlen⟩ := script_of hn hpre hwl
  refine enter_call (codeAny_mono (call w s₀ s₁ mg mb fa o pm cd doc a vs ns G Y ho (fd_plain hd) hcd hmg hobj hints hlen hg) fun r s' hq => ?_)
  obtain ⟨rfl, h2, h3, h4⟩ := hq
  exact ⟨.inl ⟨.bool true, .bool true, [], rfl, fun _ => rfl, .bool true, post_true l _, fun _ => ⟨List.Pairwise.nil, fun _ hm => (nomatch hm)⟩⟩, h2, h3, h4⟩

section
variable {prog : Program} {w : World} {A : Around} {E : Value → Shared → Prop} {s : Shared} {K : Frag}

end
end Att

namespace L2
open PySem PySem.Spec PyProof.Rows

theorem vals_ints : ∀ {vs : List Value} {ns : List Int}, IntsAre vs ns → Vals (ns.map V.int) vs
  | _, _, .nil => .nil
  | _, _, .cons n t h => .cons ⟨t, rfl⟩ (vals_ints h)

def Only (H : Hp) : Prop := ∀ b, H b = none ∨ ∃ o xs, H b = some (.frz o (.lst xs))

theorem law_call {P : Program} {w : World} {K : PySem.W.Frag} {mg mb : Str → Option Value} {CX : CXT} {k : Nat} {fa a : Addr} {fd : FuncData} {x : Str} {sp : Sp} {s₁ : Shared} {vs : List Value} {ns : List Int}
    (KX : K.In s₁.heap) (hns : s₁.heap.Ns mainGlobals mg) (hb : s₁.heap.Ns builtinsNs mb) (hbb : ∀ x : Str, x ≠ "__name__" → mb x = bootBuiltins x) (hlim : s₁.heap.NoLimit) (hg : s₁.gens = #[])
    (ha : s₁.heap.get? a = some { cls := .type "list", data := .seq vs.toArray }) (hi : IntsAre vs ns) (hl : ns.length ≤ sizeLine) (hr : Room k callerA)
    (F : ∀ base : Heap, K.In base → base.Ns mainGlobals mg → FnOk P w K mg base CX k fa fd [x] sp) (hbind : ∀ (s : Shared) (u : Value), BindsTo s fd ⟨[u], []⟩ [(x, u)])
    (hsp : ∀ H : Hp, Only H → SqL K H a (ns.map V.int) → sp [.ref a] H (fun v _ => v = .bl true) fun _ _ _ => False)
    (hCX : ∀ H e s', CX [] H s₁ (fun _ _ _ => False) e s' → False) :
    codeAny (model P w) callerA (.call (.ref fa) ⟨[.ref a], []⟩) (fun r s' => r = .ok (.ret (.bool true)) ∧ OldK s₁.heap s'.heap ∧ s'.os = s₁.os ∧ AllBare s'.gens) s₁ := by
  have rv := vals_ints hi
  have lenV := hi.length
  -- from an abstract heap in which nothing but the script may be tracked
  have core : ∀ H : Hp, Only H → SqL K H a (ns.map V.int) → HOk P w H s₁.heap → (∀ b, H b ≠ none → b = a) → (H a ≠ none → K.lookup a = none) →
      codeAny (model P w) callerA (.call (.ref fa) ⟨[.ref a], []⟩) (fun r s' => r = .ok (.ret (.bool true)) ∧ OldK s₁.heap s'.heap ∧ s'.os = s₁.os ∧ AllBare s'.gens) s₁ := by
    intro H hO hS hok hA hK
    have base_of : ∀ {b : Addr} {o : Obj}, s₁.heap.get? b = some o → H b = none → (hidT s₁.heap H).get? b = some o := fun e n => hidT_get e n
    have noA : ∀ {b : Addr} {o : Obj} {es : Array DictEntry} {ep : Nat}, s₁.heap.get? b = some o → o.data = .dict es ep → H b = none := fun {b o es ep} e d => by
      cases q : H b with
      | none => rfl
      | some u =>
        have e' : b = a := hA b (by rw [q]; simp)
        subst e'
        rw [ha] at e; cases e
        have d' : Data.seq vs.toArray _ = Data.dict es ep := d
        cases d'
    have nsK : ∀ {b : Addr} {m : Str → Option Value}, s₁.heap.Ns b m → (hidT s₁.heap H).Ns b m := fun {b m} ⟨o, es, ep, e, d, r⟩ => ⟨o, es, ep, base_of e (noA e d), d, r⟩
    have hKb : K.In (hidT s₁.heap H) := fun b o e => base_of (KX b o e) (by
      cases q : H b with
      | none => rfl
      | some u =>
        have e' : b = a := hA b (by rw [q]; simp)
        subst e'
        rw [hK (by rw [q]; simp)] at e; cases e)
    have hM : Mod K mg (hidT s₁.heap H) := ⟨hKb, nsK hns, ⟨mb, nsK hb, hbb⟩, let ⟨mc, h1, h2⟩ := hlim; ⟨mc, nsK h1, h2⟩⟩
    have e0 : Env0 P w K mg (hidT s₁.heap H) callerA [] s₁ H := ⟨rfl, hM, fun b o e => of_hidT e, Nat.le_of_eq (hidT_size _ _), trivial, fun b hb => absurd (show b ∈ ([] : List Addr) from hb) (by simp), hok, .of_eq hg⟩
    refine codeAny_mono ((F _ hKb (nsK hns)).run callerA [] s₁ H ⟨[.ref a], []⟩ [.ref a] [.ref a] _ _ hr e0 (hbind s₁ (.ref a)) (.cons rfl .nil) (hsp H hO hS)) fun r s' h => ?_
    cases r with
    | error e => exact (hCX H e s' h).elim
    | ok fl =>
      cases fl with
      | next => exact False.elim h
      | brk => exact False.elim h
      | cont => exact False.elim h
      | ret u =>
        obtain ⟨v, H', os, bare, un, hok', r', q⟩ := h
        have q' : v = .bl true := q
        subst q'
        obtain rfl : u = Value.bool true := r'
        refine ⟨rfl, OldK.of_keep fun b o e => ?_, os, bare⟩
        cases q : H b with
        | none => exact un.keep b o e q (by intro z; exact absurd (show b ∈ ([] : List Addr) from z) (by simp)) (by simp)
        | some u =>
          rcases hO b with z | ⟨ob, xs, z⟩
          · rw [q] at z; cases z
          · have z2 := un.frzs b ob _ z
            obtain ⟨e1, _⟩ := hok b _ z
            obtain ⟨e2, _⟩ := hok' b _ z2
            rw [e] at e1; cases e1
            exact e2
  cases hk : K.lookup a with
  | some o =>
    -- the script is one of the module's own objects
    have e := KX a o hk
    rw [ha] at e
    cases e
    refine core (fun _ => none) (fun _ => .inl rfl) (.inr ⟨_, vs.toArray, _, hk, rfl, rfl, rfl, by rw [List.size_toArray, lenV]; exact hl, by simpa using rv⟩) (fun b u z => by have z' : (none : Option HO) = some u := z; cases z') (fun b z => absurd rfl z) fun z => absurd rfl z
  | none =>
    refine core (fun b => if b = a then some (.frz { cls := .type "list", data := .seq vs.toArray } (.lst (ns.map V.int))) else none) (fun b => ?_) (.inl (.inr ⟨{ cls := .type "list", data := .seq vs.toArray }, if_pos rfl⟩)) (fun b u z => ?_) (fun b z => ?_) fun _ => hk
    · by_cases hb : b = a
      · exact .inr ⟨_, _, if_pos hb⟩
      · exact .inl (if_neg hb)
    · by_cases hb : b = a
      · have z' := (if_pos hb).symm.trans z
        cases z'
        subst hb
        exact ⟨ha, by rw [List.length_map]; exact hl, vs, _, rv, ha⟩
      · have z' := (if_neg hb).symm.trans z
        cases z'
    · by_cases hb : b = a
      · exact hb
      · exact absurd (if_neg hb) z
end L2

namespace L2
open PySem PySem.Spec PyProof.Rows

theorem walk_of {l : PySem.W.OpenLaw} {n k : Nat} {q : Program} {loose : List Str} {XP : (Str → Option Value) → Heap → Prop} {YP : World → Heap → Prop} {d : DefRec} {K : Params → PySem.W.Frag} {CX : World → CXT} {sp : World → Sp} {x : Str}
    (hn : l.most = some n) (hn2 : n ≤ sizeLine) (hdf : d.params.defaults = []) (hr : Room k callerA)
    (hY : ∀ (w : World) (h : Heap), YP w h → (K w.params).In h)
    (F : ∀ (w : World) (mg : Str → Option Value) (fa : Addr) (h : Heap), (K w.params).In h → h.Ns mainGlobals mg → mg d.name = some (.ref fa) →
      ∃ fd : FuncData, (∀ (s : Shared) (u : Value), BindsTo s fd ⟨[u], []⟩ [(x, u)]) ∧
        ∀ base : Heap, (K w.params).In base → base.Ns mainGlobals mg → FnOk l.prog w (K w.params) mg base (CX w) k fa fd [x] (sp w))
    (hsp : ∀ (w : World) (H : Hp) (a : Addr) (ns : List Int), ns.length ≤ n → Only H → SqL (K w.params) H a (ns.map V.int) → sp w [.ref a] H (fun v _ => v = .bl true) fun _ _ _ => False)
    (hCX : ∀ (w : World) (H : Hp) (s : Shared) (e : Value) (s' : Shared), CX w [] H s (fun _ _ _ => False) e s' → False) :
    PySem.W.WalkO q loose XP YP l.row.toRowW d [] (fun f vs => PySem.call f vs) := by
  refine Att.attach_call hn hdf fun w s₀ s₁ mg mb fa o pm cd doc a vs ns G Y ho hd hcd hmg hobj hints hlen hg => ?_
  have KX := hY w _ Y
  obtain ⟨fd, hb, hF⟩ := F w mg fa _ KX G.T.g hmg
  exact law_call KX G.T.g G.T.b G.T.builtins G.T.nolimit hg hobj hints (Nat.le_trans hlen hn2) hr hF hb (fun H hO hS => hsp w H a ns hlen hO hS) fun H e s' => hCX w H s₁ e s'
end L2

/- THE LAST THEOREM (shape; LID, My.* are yours):
   My.Adr: a structure of the addresses that your layer names (classes, functions); My.Txt K t: a structure (Prop) of the equations over K;
   My.txt_mk : {K} {implicit addresses ..} (e1 : nsIn K mainGlobals "law" = some (some (.ref f))) (e2 : K.lookup f = some ⟨oc, od, .func (fnOf "law" "law" params body scope dV kV doc pm an cdv ct), sl⟩) (e3 : codeIn K cdv "law" = true) .. : ∃ t, My.Txt K t

set_option maxRecDepth 100000 in
set_option maxHeartbeats 0 in
theorem PySem.Challenge.cw_LID_holds : PySem.Challenge.rw_LID.Holds := by
  w_on; o_law; k_head; (case hw => w_witness2)
  k_fill
  refine L2.walk_of (l := PySem.Challenge.rw_LID) (n := 63) (k := 40) (x := "script") (CX := fun w => ..) (sp := fun _ => My.sp_law) rfl (by decide) rfl ⟨rfl, by decide, by decide⟩ (fun w h Y => PySem.W.kIn_of Y) ?F ?S ?C
  case F =>
    intro w mg fa h KX G hmg
    have T : ∃ t, My.Txt (L2.KOf KX) t := by
      dsimp only [L2.KOf]                          -- K must stand as «<heap const> w.params» for k_is
      refine' My.txt_mk ?e1 ?e2 ?e3 ..
      (case e1 => PySem.W.k_is)                    -- in the order: a name -> its address -> its object -> its parts
      (case e2 => PySem.W.k_is)
      ..
    obtain ⟨t, T⟩ := T
    have e0 := hmg.symm.trans (PySem.W.mg_of KX G T.law)
    cases e0                                       -- fa is the law's own address
    exact ⟨_, fun s u => .of_eq rfl, fun base kb nb => My.law_fn T kb nb⟩     -- if «.of_eq rfl» comes too early: refine' ⟨_, ?b, fun base kb nb => My.law_fn T kb nb⟩; exact fun s u => .of_eq rfl
  case S => exact fun w H a ns hl hO hS => ..
  case C => exact ..
(the tactic k_is has no namespace: write k_is) -/

namespace L2
open PySem PySem.Spec PyProof.Rows

def defArgs (s : Stmt) : Arguments := match s with
  | .FunctionDef _ a _ _ _ _ _ _ _ _ => a
  | _ => { posonlyargs := [], args := [], vararg := none, kwonlyargs := [], kw_defaults := [], kwarg := none, defaults := [] }
def defBody (s : Stmt) : List Stmt := match s with
  | .FunctionDef _ _ b _ _ _ _ _ _ _ => b
  | _ => []
def defScope (s : Stmt) : Scope := match s with
  | .FunctionDef _ _ _ _ _ _ sc _ _ _ => sc
  | _ => { kind := .function, names := [], isGenerator := false, isCoroutine := false }

abbrev CX0 : CXT := fun _ _ _ _ _ _ => False
abbrev E0 : XK := fun _ _ _ => False
theorem pass0 {X : Cx} : Passes CX0 X E0 := fun _ _ _ _ _ _ _ h => h.elim

structure Fun (K : PySem.W.Frag) (x qual : Str) (st : Stmt) (f : Addr) (fd : FuncData) : Prop where
  ex : ∃ (oc : Value) (od : Option Addr) (kV doc pm : Value) (an : Option Addr) (cdv ct : Value) (osl : Array (Option Value)),
    fd = PySem.W.fnOf x qual (defArgs st) (defBody st) (defScope st) .none kV doc pm an cdv ct ∧ K.lookup f = some ⟨oc, od, .func fd, osl⟩ ∧ PySem.W.codeIn K cdv qual = true
  kp : PySem.W.keepIn K (.ref f) = true
section
variable {P : Program} {w : World} {K : PySem.W.Frag} {mg : Str → Option Value} {base : Heap}
theorem Fun.ok {x qual : Str} {st : Stmt} {f : Addr} {fd : FuncData} {N ps : List Str} {k : Nat} {sp : Sp} (F : Fun K x qual st f fd) (S : FnScope N ps (defScope st)) (len : ∀ vs H Q E, sp vs H Q E → vs.length = ps.length)
    (hbody : ∀ (cdv : Value) (A : Around) (outer : List Env) (s : Shared) (H : Hp) (vs : List V) (Q : VK) (E : XK), Room k (A.deeper (envOfC qual (defScope st) s.heap.objs.size f cdv)) → sp vs H Q E →
      ∃ t, PSs (cxOf CX0 P w K mg base N qual (defScope st) f cdv A outer s H E).nox (defBody st) t ∧ t { nx := fun _ H' => Q .non H', rt := Q } (start N vs) H) : FnOk P w K mg base CX0 (k + 1) f fd ps sp := by
  obtain ⟨oc, od, kV, doc, pm, an, cdv, ct, osl, rfl, lk, hcd⟩ := F.ex
  refine fn_of lk hcd S len fun A outer s H vs Q E hr hsp => ?_
  obtain ⟨t, h, q⟩ := hbody cdv A outer s H vs Q E hr hsp
  exact ⟨t, h.nox, q⟩
theorem Fun.binds {x qual : Str} {st : Stmt} {f : Addr} {fd : FuncData} {ps : List Str} (F : Fun K x qual st f fd)
    (h : ∀ (kV doc pm : Value) (an : Option Addr) (cdv ct : Value) (us : List Value), us.length = ps.length → bindArgs (PySem.W.fnOf x qual (defArgs st) (defBody st) (defScope st) .none kV doc pm an cdv ct) ⟨us, []⟩ = pure (ps.zip us)) : Binds K fd ps [] := by
  obtain ⟨oc, od, kV, doc, pm, an, cdv, ct, osl, rfl, lk, hcd⟩ := F.ex
  exact .all (h kV doc pm an cdv ct)
theorem fun_mk {x qual : Str} {st : Stmt} {f : Addr} {oc : Value} {od an : Option Addr} {osl : Array (Option Value)} {kV doc pm cdv ct : Value} (l : K.lookup f = some ⟨oc, od, .func (PySem.W.fnOf x qual (defArgs st) (defBody st) (defScope st) .none kV doc pm an cdv ct), osl⟩)
    (c : PySem.W.codeIn K cdv qual = true) (k : PySem.W.keepIn K (.ref f) = true) : Fun K x qual st f (PySem.W.fnOf x qual (defArgs st) (defBody st) (defScope st) .none kV doc pm an cdv ct) := ⟨⟨oc, od, kV, doc, pm, an, cdv, ct, osl, rfl, l, c⟩, k⟩
end
theorem small1000 {n : Nat} (h : n ≤ 1000) : n < sizeLine := Nat.lt_of_le_of_lt h (by decide)

section
variable {X : Cx}
theorem pv (i : Nat) {x : Str} {pos : Pos} (hN : X.N[i]? = some x := by rfl) (hv : Vis X.env.scope x := by first | exact Or.inl rfl | exact Or.inr (Or.inl rfl) | exact Or.inr (Or.inr rfl)) (hd : (x == ("__debug__" : Str)) = false := by decide)
    (hcd : (x == ("__classdict__" : Str)) = false := by decide) : PE X (.Name x pos) (tVar i) := pe_var hN hv hd hcd
end

theorem iteF {A B : Prop} (h : B) : if false = true then A else B := by
  rw [if_neg Bool.false_ne_true]
  exact h
theorem iteT {A B : Prop} (h : A) : if true = true then A else B := by
  rw [if_pos rfl]
  exact h
theorem ite2 {c A B : Prop} [Decidable c] (h1 : c → A) (h2 : ¬ c → B) : if c then A else B := by
  by_cases h : c
  · rw [if_pos h]
    exact h1 h
  · rw [if_neg h]
    exact h2 h
theorem iteNS {c A B : Prop} [Decidable c] (hc : c) (h : B) : if (!decide c) = true then A else B := by
  rw [decide_eq_true hc]
  exact iteF h

def Same (H H' : Hp) : Prop := ∀ b o, H b = some o → H' b = some o
theorem Same.refl (H : Hp) : Same H H := fun _ _ h => h
theorem Same.trans {H H1 H2 : Hp} (a : Same H H1) (b : Same H1 H2) : Same H H2 := fun c o h => b c o (a c o h)
theorem Same.free {H H' : Hp} (e : Same H H') {l : Addr} (h : H' l = Option.none) : H l = Option.none := by
  cases q : H l with
  | none => rfl
  | some o =>
    rw [e l o q] at h
    cases h
theorem Same.seq {K : PySem.W.Frag} {H H' : Hp} {a : Addr} {xs : List V} (e : Same H H') (h : SqL K H a xs) : SqL K H' a xs := by
  rcases h with (h | ⟨o, h⟩) | h
  · exact .inl (.inl (e _ _ h))
  · exact .inl (.inr ⟨o, e _ _ h⟩)
  · exact .inr h

end L2

namespace L2
open PySem PySem.Spec PyProof.Rows

def closOf (cells : List (Str × Addr)) : List (Str × NameKind) → List (Str × Addr) → List (Str × Addr)
  | [], cs => cs
  | (n, k) :: r, cs => closOf cells r (if (k == NameKind.free) = true then (n, (cells.lookup n).getD 0) :: cs else cs)
theorem closure_go {env : Env} {f : Str × NameKind → List (Str × Addr) → Sem (ForInStep (List (Str × Addr)))}
    (hf1 : ∀ n k cs c, (k == NameKind.free) = true → env.cells.lookup n = some c → f (n, k) cs = pure (.yield ((n, c) :: cs)))
    (hf2 : ∀ n k cs, (k == NameKind.free) = false → f (n, k) cs = pure (.yield cs)) :
    ∀ (names : List (Str × NameKind)) (cs : List (Str × Addr)), (∀ n k, (n, k) ∈ names → (k == NameKind.free) = true → ∃ c, env.cells.lookup n = some c) →
      forIn names cs f = (pure (closOf env.cells names cs) : Sem (List (Str × Addr)))
  | [], cs, _ => by rw [List.forIn_nil]; rfl
  | (n, k) :: r, cs, h => by
    have ih := fun cs => closure_go hf1 hf2 r cs fun m j hm => h m j (List.mem_cons_of_mem _ hm)
    rw [List.forIn_cons]
    cases e : (k == NameKind.free) with
    | true =>
      obtain ⟨c, hc⟩ := h n k List.mem_cons_self e
      rw [hf1 n k cs c e hc, pure_bind]
      show forIn r ((n, c) :: cs) f = _
      rw [ih]
      conv => rhs; unfold closOf
      rw [if_pos e, hc]
      rfl
    | false =>
      rw [hf2 n k cs e, pure_bind]
      show forIn r cs f = _
      rw [ih]
      conv => rhs; unfold closOf
      rw [if_neg (by rw [e]; exact Bool.false_ne_true)]
theorem closure_is {scope : Scope} {env : Env} (h : ∀ n k, (n, k) ∈ scope.names → (k == NameKind.free) = true → ∃ c, env.cells.lookup n = some c) : closureFor scope env = pure (closOf env.cells scope.names []) := by
  simp only [closureFor]
  rw [closure_go (env := env) ?_ ?_ scope.names [] h]
  · rfl
  · intro n k cs c e hc
    show (if (k == NameKind.free) = true then _ else _) = _
    rw [if_pos e]
    unfold cellOf
    rw [hc]
    rfl
  · intro n k cs e
    show (if (k == NameKind.free) = true then _ else _) = _
    rw [if_neg (by rw [e]; exact Bool.false_ne_true)]
theorem closOf_look {cells : List (Str × Addr)} {x : Str} {c : Addr} : ∀ {names : List (Str × NameKind)} {cs : List (Str × Addr)}, (closOf cells names cs).lookup x = some c → cs.lookup x = some c ∨ ((x, NameKind.free) ∈ names ∧ (cells.lookup x).getD 0 = c)
  | [], cs, h => .inl h
  | (n, k) :: r, cs, h => by
    unfold closOf at h
    rcases closOf_look h with q | ⟨q1, q2⟩
    · by_cases e : (k == NameKind.free) = true
      · rw [if_pos e] at q
        by_cases hx : x = n
        · subst hx
          rw [List.lookup_cons_self] at q
          have hk : k = NameKind.free := eq_of_beq e
          exact .inr ⟨by rw [hk]; exact List.mem_cons_self, Option.some.inj q⟩
        · have hb : (x == n) = false := beq_eq_false_iff_ne.mpr hx
          simp only [List.lookup_cons, hb] at q
          exact .inl q
      · rw [if_neg e] at q
        exact .inl q
    · exact .inr ⟨List.mem_cons_of_mem _ q1, q2⟩
theorem closOf_has {cells : List (Str × Addr)} {x : Str} : ∀ {names : List (Str × NameKind)} {cs : List (Str × Addr)}, ((x, NameKind.free) ∈ names ∨ ∃ c, cs.lookup x = some c) → ∃ c, (closOf cells names cs).lookup x = some c
  | [], cs, h => by
    rcases h with h | h
    · cases h
    · exact h
  | (n, k) :: r, cs, h => by
    unfold closOf
    apply closOf_has
    rcases h with h | ⟨c, h⟩
    · rcases List.mem_cons.mp h with h | h
      · cases h
        right
        rw [if_pos (by rfl)]
        exact ⟨_, List.lookup_cons_self⟩
      · exact .inl h
    · right
      by_cases e : (k == NameKind.free) = true
      · rw [if_pos e]
        by_cases hx : x = n
        · subst hx
          exact ⟨_, List.lookup_cons_self⟩
        · have hb : (x == n) = false := beq_eq_false_iff_ne.mpr hx
          exact ⟨c, by simp only [List.lookup_cons, hb]; exact h⟩
      · rw [if_neg e]
        exact ⟨c, h⟩
theorem relabel_look {env : Env} {x : Str} {k : NameKind} : ∀ {names : List (Str × NameKind)},
    (names.map fun (n, k) => if (k == NameKind.free && env.scope.kind == .function && env.kindOf n == some .cell) then (n, NameKind.cell) else (n, k)).lookup x = some k →
      ∃ k0, names.lookup x = some k0 ∧ (k = k0 ∨ (k0 = .free ∧ k = .cell))
  | [], h => by cases h
  | (n, j) :: r, h => by
    have ih := @relabel_look env x k r
    replace h : List.lookup x ((if (j == NameKind.free && env.scope.kind == .function && env.kindOf n == some .cell) = true then (n, NameKind.cell) else (n, j)) :: _) = some k := h
    cases hx : x == n with
    | true =>
      by_cases hc : (j == NameKind.free && env.scope.kind == .function && env.kindOf n == some .cell) = true
      · rw [if_pos hc] at h
        simp only [List.lookup_cons, hx] at h ⊢
        have hj : j = NameKind.free := by
          rw [Bool.and_eq_true, Bool.and_eq_true] at hc
          exact eq_of_beq hc.1.1
        exact ⟨j, rfl, .inr ⟨hj, (Option.some.inj h).symm⟩⟩
      · rw [if_neg hc] at h
        simp only [List.lookup_cons, hx] at h ⊢
        exact ⟨j, rfl, .inl (Option.some.inj h).symm⟩
    | false =>
      by_cases hc : (j == NameKind.free && env.scope.kind == .function && env.kindOf n == some .cell) = true
      · rw [if_pos hc] at h
        simp only [List.lookup_cons, hx] at h ⊢
        exact ih h
      · rw [if_neg hc] at h
        simp only [List.lookup_cons, hx] at h ⊢
        exact ih h
theorem relabel_free {env : Env} {x : Str} : ∀ {names : List (Str × NameKind)}, names.lookup x = some .free →
    (names.map fun (n, k) => if (k == NameKind.free && env.scope.kind == .function && env.kindOf n == some .cell) then (n, NameKind.cell) else (n, k)).lookup x = some .cell ∨
    (names.map fun (n, k) => if (k == NameKind.free && env.scope.kind == .function && env.kindOf n == some .cell) then (n, NameKind.cell) else (n, k)).lookup x = some .free
  | [], h => by cases h
  | (n, j) :: r, h => by
    have ih := @relabel_free env x r
    show List.lookup x ((if (j == NameKind.free && env.scope.kind == .function && env.kindOf n == some .cell) = true then (n, NameKind.cell) else (n, j)) :: _) = _ ∨
      List.lookup x ((if (j == NameKind.free && env.scope.kind == .function && env.kindOf n == some .cell) = true then (n, NameKind.cell) else (n, j)) :: _) = _
    cases hx : x == n with
    | true =>
      simp only [List.lookup_cons, hx] at h
      cases h
      by_cases hc : (NameKind.free == NameKind.free && env.scope.kind == .function && env.kindOf n == some .cell) = true
      · rw [if_pos hc]
        simp only [List.lookup_cons, hx]
        exact .inl trivial
      · rw [if_neg hc]
        simp only [List.lookup_cons, hx]
        exact .inr trivial
    | false =>
      simp only [List.lookup_cons, hx] at h
      by_cases hc : (j == NameKind.free && env.scope.kind == .function && env.kindOf n == some .cell) = true
      · rw [if_pos hc]
        simp only [List.lookup_cons, hx]
        exact ih h
      · rw [if_neg hc]
        simp only [List.lookup_cons, hx]
        exact ih h

def cxComp (X : Cx) (N : List Str) (scope : Scope) (xe : Value → Shared → Prop) (C : Addr) (s : Shared) (H : Hp) (fp : List Addr) : Cx where
  prog := X.prog
  w := X.w
  K := X.K
  mg := X.mg
  base := X.base
  A := X.A
  N := N
  s₀ := s
  H₀ := H
  env := compEnvC scope (closOf X.env.cells scope.names []) C X.env
  outer := X.stack
  stack := X.stack
  ex := fp
  fn := fun _ => false
  calm := X.calm
  pn := []
  xe := xe
def takeSt (σ : St) (js : List Nat) : St := js.map fun j => (σ[j]?).getD none
structure CompText (X : Cx) (scope : Scope) (own frees : List Str) (js : List Nat) : Prop where
  kind : scope.kind = .function
  nocell : ∀ y ∈ scope.names, y.2 ≠ .cell
  names : ∀ y ∈ scope.names, y.2 = .local → scope.names.lookup y.1 = some .local
  free : ∀ y ∈ scope.names, y.2 = .free → X.env.scope.names.lookup y.1 = some .cell ∨ X.env.scope.names.lookup y.1 = some .free
  at_ : js.map (fun j => X.N[j]?) = frees.map some
  fr : ∀ x ∈ frees, scope.names.lookup x = some .free
theorem takeSt_get {σ : St} {js : List Nat} {i : Nat} {v : V} (h : (takeSt σ js)[i]? = some (some v)) : ∃ j, js[i]? = some j ∧ σ[j]? = some (some v) := by
  unfold takeSt at h
  rw [List.getElem?_map] at h
  cases e : js[i]? with
  | none => rw [e] at h; cases h
  | some j =>
    rw [e] at h
    have h' : (σ[j]?).getD none = some v := Option.some.inj h
    refine ⟨j, rfl, ?_⟩
    cases q : σ[j]? with
    | none => rw [q] at h'; cases h'
    | some o => rw [q] at h'; rw [show o = some v from h']

section
variable {X : Cx}
theorem closure_ok {pins : List (Addr × Obj)} {σ : St} {H : Hp} {s : Shared} {scope : Scope} {own frees : List Str} {js : List Nat} (I : Inv X pins σ H s) (T : CompText X scope own frees js) :
    ∀ n k, (n, k) ∈ scope.names → (k == NameKind.free) = true → ∃ c, X.env.cells.lookup n = some c := fun n k hm e => by
  have hk : k = NameKind.free := eq_of_beq e
  exact I.ok.has n (T.free (n, k) hm hk)
theorem inv_comp {pins : List (Addr × Obj)} {σ : St} {H : Hp} {s : Shared} {scope : Scope} {own frees : List Str} {js : List Nat} {fp : List Addr} {D C : Addr} {h1 : Heap} {t1 : Nat} {m : Str → Option Value} {xe : Value → Shared → Prop}
    (I : Inv X pins σ H s) (T : CompText X scope own frees js) (hf : ∀ b ∈ fp, FpOk X pins H b) (hfo : ∀ b ∈ fp, ∃ o, s.heap.get? b = some o) (hD : s.heap.objs.size ≤ D) (hC : s.heap.objs.size ≤ C) (hDC : D ≠ C)
    (old : ∀ b o, s.heap.get? b = some o → h1.get? b = some o) (hl : h1.get? D = some { cls := .type "list", data := .seq ([] : List Value).toArray 0 }) (hn : h1.Ns C m) :
    Inv (cxComp X (own ++ frees) scope xe C s H fp) [] (List.replicate own.length none ++ takeSt σ js) (upd H D (.lst [])) { s with heap := h1, toks := t1 } := by
  have cells : ∀ x c, (closOf X.env.cells scope.names []).lookup x = some c → X.env.cells.lookup x = some c := fun x c h => by
    rcases closOf_look h with q | ⟨q1, q2⟩
    · cases q
    · obtain ⟨c', hc'⟩ := closure_ok I T x .free q1 rfl
      rw [hc'] at q2
      rw [hc']
      exact congrArg some q2
  have lt_of : ∀ b o, s.heap.get? b = some o → b < s.heap.objs.size := fun b o e => Heap.lt_size e
  have hcl : ∀ x c, X.env.cells.lookup x = some c → c < s.heap.objs.size := fun x c e => by
    obtain ⟨v, q⟩ := I.cell x c e
    exact q.lt
  have frlt : ∀ b ∈ frs X.stack, b < s.heap.objs.size := fun b hb => by
    obtain ⟨_, o, ho, _⟩ := I.stack.mem hb
    exact Heap.lt_size ho
  have hHD : H D = none := I.hok.fresh hD
  have hHC : H C = none := I.hok.fresh hC
  refine ⟨⟨I.ok.mod, T.kind, I.ok.glob, I.ok.blt, hC, fun x y c a b => I.ok.inj x y c (cells x c a) (cells y c b), fun x hx => ?_, fun x c z _ => (nomatch z), I.ok.hd, I.ok.frames, .inl rfl, fun b hb => ⟨?_, fun x c e z => ?_⟩,
      fun b o e => I.bs b o e, Nat.le_trans I.ok.bsz I.sz, fun b o e hb => ?_, fun b hb z => ?_, I.stack, I.stkFree⟩,
    rfl, I.bare, Un.laid old hD hHD, ⟨m, hn, fun i x v e1 e2 e3 => ?_⟩, fun x c e => ?_, ?_, fun x c e => ?_, fun p hp => absurd (show p ∈ ([] : List (Addr × Obj)) from hp) (by simp), ?_, ?_⟩
  · -- has
    have hx : (relabel scope X.env).names.lookup x = some .cell ∨ (relabel scope X.env).names.lookup x = some .free := hx
    have hf0 : (x, NameKind.free) ∈ scope.names := by
      rcases hx with hx | hx
      · obtain ⟨k0, q, r⟩ := relabel_look hx
        have hm := PySem.mem_of_lookup q
        rcases r with r | ⟨r, _⟩
        · exact absurd r.symm (T.nocell _ hm)
        · rw [r] at hm; exact hm
      · obtain ⟨k0, q, r⟩ := relabel_look hx
        have hm := PySem.mem_of_lookup q
        rcases r with r | ⟨_, r⟩
        · rw [← r] at hm; exact hm
        · cases r
    exact closOf_has (.inl hf0)
  · -- b ≠ C
    obtain ⟨o, ho⟩ := hfo b hb
    exact Nat.ne_of_lt (Nat.lt_of_lt_of_le (lt_of b o ho) hC)
  · exact (hf b hb).2.2.2.2.1 x c (cells x c e) z
  · -- noex
    obtain ⟨_, _, _, f3, _, _⟩ := hf b hb
    rcases f3 with z | z
    · exact I.ok.noex b o e z
    · exact absurd (Nat.lt_of_lt_of_le (Heap.lt_size (I.ok.bs b o e).1) z) (Nat.lt_irrefl _)
  · -- exfs
    obtain ⟨_, f1, f2, _⟩ := hf b hb
    rcases List.mem_cons.mp (I.stkSub b z) with q | q
    · exact f1 q
    · exact f2 q
  · -- loc
    by_cases hi : i < own.length
    · rw [List.getElem?_append_left (by simpa using hi), List.getElem?_replicate, if_pos hi] at e2
      cases e2
    · rw [List.getElem?_append_right (by simpa using hi), List.length_replicate] at e2
      replace e1 : (own ++ frees)[i]? = some x := e1
      rw [List.getElem?_append_right (by (first | lia | omega))] at e1
      obtain ⟨j, hj, hσ⟩ := takeSt_get e2
      have hN : X.N[j]? = some x := by
        have q := congrArg (fun l => l[i - own.length]?) T.at_
        simp only [List.getElem?_map, hj, e1, Option.map_some] at q
        exact Option.some.inj q
      have hfx := T.fr x (List.mem_of_getElem? e1)
      have hm := PySem.mem_of_lookup hfx
      have hk := T.free (x, .free) hm rfl
      obtain ⟨m0, hn0, hl0⟩ := I.loc
      obtain ⟨u, r, l⟩ := hl0 j x v hN hσ (by rcases hk with k | k; exact .inr (.inl k); exact .inr (.inr k))
      refine ⟨u, r, .inr ⟨relabel_free hfx, ?_⟩⟩
      rcases l with ⟨hkl, _⟩ | ⟨_, c, hc, hcell⟩
      · have hkl : X.env.scope.names.lookup x = some .local := hkl
        rcases hk with k | k <;> (rw [hkl] at k; cases k)
      · obtain ⟨c', hc'⟩ := closOf_has (cells := X.env.cells) (names := scope.names) (cs := []) (x := x) (.inl hm)
        have q := cells x c' hc'
        rw [hc] at q
        cases q
        exact ⟨c, hc', hcell.keeps old⟩
  · -- cell
    obtain ⟨v, q⟩ := I.cell x c (cells x c e)
    exact ⟨v, q.keeps old⟩
  · -- free
    show upd H D (.lst []) C = none
    rw [upd_ne (Ne.symm hDC)]
    exact hHC
  · show upd H D (.lst []) c = none
    have e := cells x c e
    rw [upd_ne (Nat.ne_of_lt (Nat.lt_of_lt_of_le (hcl x c e) hD))]
    exact I.freeC x c e
  · exact I.hok.laid old hD ⟨Nat.zero_le _, [], 0, .nil, hl⟩
  · show _ = (own ++ frees).length
    have q := congrArg List.length T.at_
    rw [List.length_map, List.length_map] at q
    rw [List.length_append, List.length_append, List.length_replicate]
    unfold takeSt
    rw [List.length_map, q]

theorem inv_comp_back {pins : List (Addr × Obj)} {σ σ' : St} {H H' : Hp} {s s' : Shared} {scope : Scope} {N : List Str} {fp : List Addr} {C : Addr} {h' : Heap} {xe : Value → Shared → Prop}
    (I : Inv X pins σ H s) (hf : ∀ b ∈ fp, FpOk X pins H b) (hC : s.heap.objs.size ≤ C) (J : Inv (cxComp X N scope xe C s H fp) [] σ' H' s') (sb : Heap.SameBut C s'.heap h') : Inv X pins σ H' { s' with heap := h' } := by
  have hHC : H' C = none := J.free
  refine I.call' (ch := fp) J.os ?_ ?_ J.bare (fun b hb => ?_)
  · have u : Un (frs X.stack) fp H H' s.heap s'.heap := J.base
    have ne : ∀ b o, s.heap.get? b = some o → b ≠ C := fun b o e => Nat.ne_of_lt (Nat.lt_of_lt_of_le (Heap.lt_size e) hC)
    refine ⟨fun b o e n hb hx => (sb.2 b (ne b o e)).trans (u.keep b o e n hb hx), fun b o e n hb hx => ?_, u.free, fun b o e hx => ?_, u.tups, u.frzs, u.tbls⟩
    · obtain ⟨sl, q⟩ := u.slot b o e n hb hx
      exact ⟨sl, (sb.2 b (ne b o e)).trans q⟩
    · obtain ⟨o', q⟩ := u.there b o e hx
      exact ⟨o', (sb.2 b (ne b o e)).trans q⟩
  · intro b ob e
    refine (J.hok b ob e).stay (fun c w' hc q => (sb.2 c ?_).trans q) (fun _ q => q) fun _ _ q => q
    rintro rfl
    rcases hc with rfl | hc
    · rw [hHC] at e; cases e
    · rw [hHC] at hc; cases hc
  · obtain ⟨_, f1, _, f3, f4, f5⟩ := hf b hb
    exact ⟨f3, f1, f4, f5⟩
end

section
variable {prog : Program} {w : World} {A : Around} {R : Result → Shared → Prop} {s : Shared}
abbrev testsOf (ifs : List Expr) (env : Env) : Sem Bool := forIn ifs true fun c r => if r = true then do let ok ← isTrue c env (eval c env); pure (ForInStep.yield ok) else pure (ForInStep.yield r)
theorem compLoop_any {elt target iter : Expr} {ifs : List Expr} {scope : Scope} {pos : Pos} {it acc : Value} {env : Env} (I : Nat → Shared → Prop)
    (turn : ∀ n s, I n s → wpAny (model prog w) A (pyNext it) (fun r s₁ => match r with
      | none => R (.ok .next) s₁
      | some v => wpAny (model prog w) A (letOwnedTupleGo target it v) (fun _ s₀ => wpAny (model prog w) A (assign target env v) (fun _ s₂ =>
          wpAny (model prog w) A (testsOf ifs env) (fun ok s₃ =>
            if ok = true then wpAny (model prog w) A (eval elt env) (fun x s₄ =>
              wpAny (model prog w) A (call (.builtin "list.append") [acc, x]) (fun _ s₅ => ∃ m, m < n ∧ I m s₅) (notedBy (model prog w) A env fun e s' => R (.error e) s') s₄) (notedBy (model prog w) A env fun e s' => R (.error e) s') s₃
            else ∃ m, m < n ∧ I m s₃) (notedBy (model prog w) A env fun e s' => R (.error e) s') s₂) (notedBy (model prog w) A env fun e s' => R (.error e) s') s₀) (notedBy (model prog w) A env fun e s' => R (.error e) s') s₁) (notedBy (model prog w) A env fun e s' => R (.error e) s') s)
    (n : Nat) (h : I n s) :
    codeAny (model prog w) A (.compLoop (.ListComp elt [⟨target, iter, ifs, 0⟩] scope pos) 0 it acc env) R s := by
  refine codeAny_loop rfl I (fun n s hI => ?_) n h
  show wpAny _ A ((compTurn (.ListComp elt [⟨target, iter, ifs, 0⟩] scope pos) 0 it acc env).onRaise (fun x => do noteFrame x env; theTreesLotGoes x)) _ _ s
  refine wpAny_noted ?_
  rw [compTurn_list]
  refine wpAny_bind (wpAny_standAt (wpAny_bind (wpAny_mono (turn n s hI) (fun r s₁ h₁ => ?_) fun _ _ h' => h')))
  cases r with
  | none => exact wpAny_pure h₁
  | some v =>
    refine wpAny_bind (wpAny_mono h₁ (fun _ s₀ h₀ => ?_) fun _ _ h' => h')
    refine wpAny_bind (wpAny_mono h₀ (fun _ s₂ h₂ => wpAny_bind (wpAny_mono h₂ (fun ok s₃ h₃ => ?_) fun _ _ h' => h')) fun _ _ h' => h')
    cases ok with
    | false => exact wpAny_pure ⟨rfl, h₃⟩
    | true =>
      exact wpAny_bind (wpAny_bind (wpAny_mono h₃ (fun x s₄ h₄ => wpAny_bind (wpAny_mono h₄ (fun _ s₅ h₅ => wpAny_pure (wpAny_pure ⟨rfl, h₅⟩)) fun _ _ h' => h')) fun _ _ h' => h'))
end

def PTs (X : Cx) (ifs : List Expr) (t : TT) : Prop :=
  ∀ (pins : List (Addr × Obj)) (s : Shared) (σ : St) (H : Hp) (Q : Bool → Hp → Prop), Inv X pins σ H s → t σ H Q → wpAny (model X.prog X.w) X.A (testsOf ifs X.env) (TP X pins σ Q) X.xe s
def tTrue : TT := fun _ H Q => Q true H
theorem pts_nil {X : Cx} : PTs X [] tTrue := fun _ _ _ H _ I h => wpAny_tests_nil ⟨H, I, h⟩
theorem pts_one {X : Cx} {c : Expr} {t : TT} (h : PT X c t) : PTs X [c] t := fun pins s σ H Q I q => wpAny_tests_one (h pins s σ H Q I q)

def CompLoop (J : It) (g : TG) (tt : TT) (te : TE) (n : Nat) (fr : St) (D : Addr) (Q : Hp → Prop) (H1 : Hp) : Prop :=
  ∃ W : Nat → Nat → List V → Hp → Prop, (∃ m, W 0 m [] H1) ∧ ∀ i m acc H, W i m acc H → H D = some (.lst acc) ∧
    ((J.stop i H ∧ Q H) ∨ (J.go i H ∧ acc.length < sizeLine ∧ ∃ N : List V → Hp → Prop, (∀ acc' H', N acc' H' → ∃ m', m' < m ∧ W (i + 1) m' acc' H') ∧
      ∀ x H', J.yld i H x H' → g x (List.replicate n none ++ fr) H' fun σ2 H2 => σ2.drop n = fr ∧ tt σ2 H2 fun b H3 =>
      if b = true then te σ2 H3 fun v H4 => H4 D = some (.lst acc) ∧ N (acc ++ [v]) (upd H4 D (.lst (acc ++ [v])))
      else N acc H3))
def tComp (wi : TI) (g : TG) (tt : TT) (te : TE) (n : Nat) (js : List Nat) : TE := fun σ H Q => wi σ H fun J H1 => ∀ D, H1 D = none → CompLoop J g tt te n (takeSt σ js) D (fun H2 => Q (.ref D) H2) (upd H1 D (.lst []))

structure TurnX (A : Around) (cm : Bool) (P : Program) (w : World) (K : PySem.W.Frag) (tg : Expr) (J : It) (fp : List Addr) (it : Addr) (tn : Nat → Heap → Prop) : Prop where
  mem : it ∈ fp
  obj : ∀ i h, tn i h → ∀ b ∈ fp, ∃ o, h.get? b = some o ∧ ∀ v, o.data ≠ .cell v
  keep : ∀ i h h', tn i h → (∀ b ∈ fp, ∀ o, h.get? b = some o → h'.get? b = some o) → tn i h'
  item : ∀ (X : Cx), X.prog = P → X.w = w → X.K = K → X.A = A → X.calm = cm → ∀ (i : Nat) (pins : List (Addr × Obj)) (s : Shared) (σ : St) (H : Hp) (E : Value → Shared → Prop), Inv X pins σ H s → (∀ b ∈ fp, FpOk X pins H b) → tn i s.heap → J.go i H →
    wpAny (model P w) X.A (pyNext (.ref it)) (fun r s1 => ∃ u, r = some u ∧
      wpAny (model P w) X.A (letOwnedTupleGo tg (.ref it) u) (fun _ s2 => ∃ x H', Inv X pins σ H' s2 ∧ RelV x u ∧ J.yld i H x H' ∧ tn (i + 1) s2.heap ∧ ∀ b ∈ fp, H' b = none) E s1) E s
  done : ∀ (X : Cx), X.prog = P → X.w = w → X.K = K → X.A = A → X.calm = cm → ∀ (i : Nat) (pins : List (Addr × Obj)) (s : Shared) (σ : St) (H : Hp) (E : Value → Shared → Prop), Inv X pins σ H s → (∀ b ∈ fp, FpOk X pins H b) → tn i s.heap → J.stop i H →
    wpAny (model P w) X.A (pyNext (.ref it)) (fun r s1 => r = none ∧ Inv X pins σ H s1) E s
  self : ∀ (A : Around) (i : Nat) (s : Shared) (Q : Value → Shared → Prop) (E : Value → Shared → Prop), tn i s.heap → Q (.ref it) s → wpAny (model P w) A (pyIter (.ref it)) Q E s
theorem Turn.x {A : Around} {cm : Bool} {P : Program} {w : World} {K : PySem.W.Frag} {tg : Expr} {J : It} {fp : List Addr} {it : Addr} {tn : Nat → Heap → Prop} (T : Turn P w K tg J fp it tn) (hc : cm = true) : TurnX A cm P w K tg J fp it tn :=
  ⟨T.mem, T.obj, T.keep, fun X a b c _ d => T.item X a b c (d.trans hc), fun X a b c _ d => T.done X a b c (d.trans hc), T.self⟩
section
variable {X : Cx} {elt iter tg : Expr} {ifs : List Expr} {scope : Scope} {pos : Pos} {own frees : List Str} {js : List Nat} {wi : TI} {g : TG} {tt : TT} {te : TE}
theorem comp_block {pins : List (Addr × Obj)} {σ : St} {H2 : Hp} {s2 : Shared} {it : Addr} {fp : List Addr} {tn : Nat → Heap → Prop} {J : It} {E : Value → Shared → Prop} {RR : Value → Addr → Result → Shared → Prop} {QQ : Addr → Hp → Prop}
    (T : CompText X scope own frees js)
    (hg : ∀ C s H fp, PG (cxComp X (own ++ frees) scope (fun _ _ => False) C s H fp) tg g)
    (ht : ∀ C s H fp, PTs (cxComp X (own ++ frees) scope (fun _ _ => False) C s H fp) ifs tt)
    (he : ∀ C s H fp, PE (cxComp X (own ++ frees) scope (fun _ _ => False) C s H fp) elt te)
    (I2 : Inv X pins σ H2 s2) (TT' : TurnX X.A X.calm X.prog X.w X.K tg J fp it tn) (st2 : tn 0 s2.heap) (f2 : ∀ b ∈ fp, FpOk X pins H2 b)
    (hl : ∀ D, H2 D = none → CompLoop J g tt te own.length (takeSt σ js) D (QQ D) (upd H2 D (.lst [])))
    (hRR : ∀ D C σ' H' s', s2.heap.objs.size ≤ C → Inv (cxComp X (own ++ frees) scope (fun _ _ => False) C s2 H2 fp) [] σ' H' s' → QQ D H' → RR (.ref D) C (.ok .next) s') :
    wpAny (model X.prog X.w) X.A (newList []) (fun acc s₃ => wpAny (model X.prog X.w) X.A (newFunctionEnv scope X.env.globals (closOf X.env.cells scope.names []) [] X.env.qual none .none (some X.env)) (fun cenv s₄ =>
      codeAny (model X.prog X.w) X.A (.compStart (.ListComp elt [⟨tg, iter, ifs, 0⟩] scope pos) 0 (.ref it) acc { cenv with scope := relabel scope X.env }) (RR acc cenv.locals) s₄) E s₃) E s2 := by
  refine wpAny_newObj_type (wpAny_newFunctionEnv T.nocell (by intro y hy; simp at hy) (fun h₁ hns₁ hsb₁ => ?_) T.kind)
  dsimp only at hns₁ hsb₁ ⊢
  generalize hH2 : s2.heap.push { cls := .type "list", dict := none, data := .seq ([] : List Value).toArray } = G2 at hns₁ hsb₁ ⊢
  have hC : G2.objs.size = s2.heap.objs.size + 1 := by rw [← hH2, Heap.size_push]
  have hDC : s2.heap.objs.size ≠ G2.objs.size := by rw [hC]; exact Nat.ne_of_lt (Nat.lt_succ_self _)
  have hCle : s2.heap.objs.size ≤ G2.objs.size := by rw [hC]; exact Nat.le_succ _
  have below : ∀ b, b < s2.heap.objs.size → b ≠ G2.objs.size := fun b hb => by rw [hC]; exact Nat.ne_of_lt (Nat.lt_succ_of_lt hb)
  have old : ∀ b o, s2.heap.get? b = some o → h₁.get? b = some o := fun b o e => hsb₁.extBut b o (below b (Heap.lt_size e)) (Heap.get?_push_of_some _ (hH2 ▸ Heap.get?_push_of_some _ e))
  have hacc : h₁.get? s2.heap.objs.size = some { cls := .type "list", data := .seq ([] : List Value).toArray 0 } := hsb₁.extBut _ _ hDC (Heap.get?_push_of_some _ (hH2 ▸ Heap.get?_push_size _ rfl))
  have fpo : ∀ b ∈ fp, ∃ o, s2.heap.get? b = some o := fun b hb => let ⟨o, e, _⟩ := TT'.obj _ _ st2 b hb; ⟨o, e⟩
  have st1 : tn 0 h₁ := TT'.keep _ _ _ st2 fun b _ o e => old b o e
  obtain ⟨W, ⟨m0, w0⟩, turn⟩ := hl s2.heap.objs.size (I2.hok.fresh (Nat.le_refl _))
  have hfx : ∀ {H' : Hp}, (∀ b ∈ fp, H' b = none) → ∀ b ∈ fp, FpOk (cxComp X (own ++ frees) scope (fun _ _ => False) G2.objs.size s2 H2 fp) [] H' b := fun {H'} hn b hb => by
    obtain ⟨_, f1, f2', _, f4, _⟩ := f2 b hb
    obtain ⟨o, ho⟩ := fpo b hb
    refine ⟨hn b hb, below b (Heap.lt_size ho), fun z => ?_, .inl hb, fun x c e => ?_, fun p hp => absurd (show p ∈ ([] : List (Addr × Obj)) from hp) (by simp)⟩
    · rcases List.mem_cons.mp (I2.stkSub b z) with q | q
      · exact f1 q
      · exact f2' q
    · rcases closOf_look (show (closOf X.env.cells scope.names []).lookup x = some c from e) with q | ⟨q1, q2⟩
      · cases q
      · obtain ⟨c', hc'⟩ := closure_ok I2 T x .free q1 rfl
        rw [hc'] at q2
        have q2 : c' = c := q2
        rw [← q2]
        exact f4 x c' hc'
  have fp0 : ∀ b ∈ fp, upd H2 s2.heap.objs.size (.lst []) b = none := fun b hb => by
    obtain ⟨o, ho⟩ := fpo b hb
    rw [upd_ne (Nat.ne_of_lt (Heap.lt_size ho))]
    exact (f2 b hb).1
  have back : ∀ {σ6 : St} {p6 : List (Addr × Obj)} {H6 : Hp} {s6 : Shared}, Inv (cxComp X (own ++ frees) scope (fun _ _ => False) G2.objs.size s2 H2 fp) p6 σ6 H6 s6 → σ6.drop own.length = takeSt σ js →
      Inv (cxComp X (own ++ frees) scope (fun _ _ => False) G2.objs.size s2 H2 fp) [] (List.replicate own.length none ++ takeSt σ js) H6 s6 := fun {σ6 p6 H6 s6} I6 hd => by
    have hl6 : σ6.length = (own ++ frees).length := I6.len
    have J6 := I6.pins_of (pins' := []) fun p hp => absurd hp (by simp)
    refine J6.weak ?_ fun i v e => ?_
    · have q := congrArg List.length hd
      rw [List.length_drop] at q
      rw [List.length_append] at hl6
      rw [List.length_append, List.length_replicate]
      (first | lia | omega)
    · by_cases hi : i < own.length
      · rw [List.getElem?_append_left (by simpa using hi), List.getElem?_replicate, if_pos hi] at e
        cases e
      · rw [List.getElem?_append_right (by simpa using hi), List.length_replicate, ← hd, List.getElem?_drop] at e
        rw [show own.length + (i - own.length) = i by (first | lia | omega)] at e
        exact e
  have loop : ∀ s₃ : Shared, s₃ = { s2 with heap := h₁, toks := s2.toks + ([] : List (Str × Value)).length } →
      codeAny (model X.prog X.w) X.A (.compLoop (.ListComp elt [⟨tg, iter, ifs, 0⟩] scope pos) 0 (.ref it) (.ref s2.heap.objs.size) (compEnvC scope (closOf X.env.cells scope.names []) G2.objs.size X.env))
        (RR (.ref s2.heap.objs.size) G2.objs.size) s₃ := by
    rintro s₃ rfl
    refine compLoop_any (fun n s' => ∃ i acc H', Inv (cxComp X (own ++ frees) scope (fun _ _ => False) G2.objs.size s2 H2 fp) [] (List.replicate own.length none ++ takeSt σ js) H' s' ∧ tn i s'.heap ∧ (∀ b ∈ fp, H' b = none) ∧ W i n acc H') ?_ m0
      ⟨0, [], upd H2 s2.heap.objs.size (.lst []), inv_comp I2 T f2 fpo (Nat.le_refl _) hCle hDC old hacc hns₁, st1, fp0, w0⟩
    rintro n s3 ⟨i, acc, H3, I3, st3, fr3, w3⟩
    obtain ⟨hD3, hcase⟩ := turn i n acc H3 w3
    rcases hcase with ⟨stop, qn⟩ | ⟨go, hz, NN, hNN, step⟩
    · refine wpAny_mono (TT'.done (cxComp X (own ++ frees) scope (fun _ _ => False) G2.objs.size s2 H2 fp) rfl rfl rfl rfl rfl i [] s3 _ H3 (fun _ _ => False) I3 (hfx fr3) st3 stop) (fun r s4 ⟨hr, I4⟩ => ?_) fun _ _ z => z.elim
      subst hr
      exact hRR _ _ _ H3 s4 hCle I4 qn
    · refine wpAny_mono (TT'.item (cxComp X (own ++ frees) scope (fun _ _ => False) G2.objs.size s2 H2 fp) rfl rfl rfl rfl rfl i [] s3 _ H3 (fun _ _ => False) I3 (hfx fr3) st3 go) (fun r s4 ⟨u, hr, h4⟩ => ?_) fun _ _ z => z.elim
      subst hr
      refine wpAny_mono h4 (fun _ s5 ⟨x, H5, I5, r5, y5, st5, fr5⟩ => ?_) fun _ _ z => z.elim
      have I5' := I5.pinned (hfx fr5) (TT'.obj _ _ st5)
      refine wpAny_mono (hg _ _ _ _ _ s5 _ H5 x u _ I5' r5 (step x H5 y5)) (fun _ s6 ⟨σ6, H6, I6, hd6, q6⟩ => ?_) fun _ _ z => z.elim
      refine wpAny_mono (ht _ _ _ _ _ s6 σ6 H6 _ I6 q6) (fun ok s7 ⟨H7, I7, q7⟩ => ?_) fun _ _ z => z.elim
      have again : ∀ {H8 : Hp} {s8 : Shared}, Inv (cxComp X (own ++ frees) scope (fun _ _ => False) G2.objs.size s2 H2 fp) ([] ++ pinsAt fp s5.heap) σ6 H8 s8 → tn (i + 1) s8.heap ∧ ∀ b ∈ fp, H8 b = none := fun {H8 s8} I8 => by
        refine ⟨TT'.keep _ _ _ st5 fun b hb o e => (I8.pin (b, o) (List.mem_append_right _ (List.mem_append_right _ (mem_pinsAt hb e)))).1, fun b hb => ?_⟩
        obtain ⟨o, e, d⟩ := TT'.obj _ _ st5 b hb
        exact (I8.pin (b, o) (List.mem_append_right _ (List.mem_append_right _ (mem_pinsAt hb e)))).2.1
      cases ok with
      | false =>
        rw [if_neg Bool.false_ne_true]
        obtain ⟨m', hm, w7⟩ := hNN _ _ q7
        obtain ⟨t7, n7⟩ := again I7
        exact ⟨m', hm, i + 1, acc, H7, back I7 hd6, t7, n7, w7⟩
      | true =>
        rw [if_pos rfl]
        refine wpAny_mono (he _ _ _ _ _ s7 σ6 H7 _ I7 q7) (fun xv s8 ⟨v, H8, I8, r8, hD8, q8⟩ => ?_) fun _ _ z => z.elim
        obtain ⟨m', hm, w8⟩ := hNN _ _ q8
        refine wpAny_mono (mt_append (X := cxComp X (own ++ frees) scope (fun _ _ => False) G2.objs.size s2 H2 fp) _ s8 σ6 H8 (.ref s2.heap.objs.size) [v] (.ref s2.heap.objs.size) [xv] (fun y H9 => y = .non ∧ H9 = upd H8 s2.heap.objs.size (.lst (acc ++ [v]))) I8 rfl (.cons r8 .nil) ⟨_, acc, v, rfl, rfl, hD8, hz, rfl, rfl⟩)
          (fun _ s9 ⟨y, H9, I9, _, _, e9⟩ => ?_) fun _ _ z => z.elim
        subst e9
        obtain ⟨t9, n9⟩ := again I9
        exact ⟨m', hm, i + 1, acc ++ [v], _, back I9 hd6, t9, n9, w8⟩
  exact codeAny_compStart_list (loop _ rfl) (TT'.self _ 0 _ _ _ st1 (loop _ rfl))

theorem pe_comp (T : CompText X scope own frees js) (hc : X.calm = true) (hi : PI X tg iter wi)
    (hg : ∀ C s H fp, PG (cxComp X (own ++ frees) scope (fun _ _ => False) C s H fp) tg g)
    (ht : ∀ C s H fp, PTs (cxComp X (own ++ frees) scope (fun _ _ => False) C s H fp) ifs tt)
    (he : ∀ C s H fp, PE (cxComp X (own ++ frees) scope (fun _ _ => False) C s H fp) elt te)
    (hs : ∀ x, foldedSetIterable iter X.env x = pure x := by intro _; rfl) :
    PE X (.ListComp elt [⟨tg, iter, ifs, 0⟩] scope pos) (tComp wi g tt te own.length js) := by
  intro pins s σ H Q I h
  rw [eval_ListComp]
  refine wpAny_comprehension_free (use := none) rfl hs (closure_is (closure_ok I T)) T.kind T.names ?_
  refine wpAny_mono (hi pins s σ H _ I h) (fun v s1 h1 => wpAny_mono h1 (fun itv s2 h2 => ?_) fun _ _ z => z) fun _ _ z => z
  obtain ⟨it, fp, tn, J, H2, e, I2, TT', st2, f2, hl⟩ := h2
  subst e
  refine comp_block (QQ := fun D H' => Q (.ref D) H') T hg ht he I2 (TT'.x hc) st2 f2 hl fun D C σ' H' s' hC J' q => ?_
  obtain ⟨m, hn, _⟩ := J'.loc
  exact ⟨m, hn, fun h' sb => ⟨.ref D, H', inv_comp_back I2 f2 hC J' sb, rfl, q⟩⟩
def PIX (X : Cx) (tg iter : Expr) (wi : TI) : Prop := ∀ (pins : List (Addr × Obj)) (s : Shared) (σ : St) (H : Hp) (R : It → Hp → Prop), Inv X pins σ H s → wi σ H R →
  wpAny (model X.prog X.w) X.A (eval iter X.env) (fun v s1 => wpAny (model X.prog X.w) X.A (pyIter v) (fun itv s2 => ∃ (it : Addr) (fp : List Addr) (tn : Nat → Heap → Prop) (J : It) (H' : Hp), itv = .ref it ∧ Inv X pins σ H' s2 ∧ TurnX X.A X.calm X.prog X.w X.K tg J fp it tn ∧ tn 0 s2.heap ∧ (∀ b ∈ fp, FpOk X pins H' b) ∧ R J H') X.xe s1) X.xe s
theorem pe_compX (T : CompText X scope own frees js) (hi : PIX X tg iter wi)
    (hg : ∀ C s H fp, PG (cxComp X (own ++ frees) scope (fun _ _ => False) C s H fp) tg g)
    (ht : ∀ C s H fp, PTs (cxComp X (own ++ frees) scope (fun _ _ => False) C s H fp) ifs tt)
    (he : ∀ C s H fp, PE (cxComp X (own ++ frees) scope (fun _ _ => False) C s H fp) elt te)
    (hs : ∀ x, foldedSetIterable iter X.env x = pure x := by intro _; rfl) :
    PE X (.ListComp elt [⟨tg, iter, ifs, 0⟩] scope pos) (tComp wi g tt te own.length js) := by
  intro pins s σ H Q I h
  rw [eval_ListComp]
  refine wpAny_comprehension_free (use := none) rfl hs (closure_is (closure_ok I T)) T.kind T.names ?_
  refine wpAny_mono (hi pins s σ H _ I h) (fun v s1 h1 => wpAny_mono h1 (fun itv s2 h2 => ?_) fun _ _ z => z) fun _ _ z => z
  obtain ⟨it, fp, tn, J, H2, e, I2, TT', st2, f2, hl⟩ := h2
  subst e
  refine comp_block (QQ := fun D H' => Q (.ref D) H') T hg ht he I2 TT' st2 f2 hl fun D C σ' H' s' hC J' q => ?_
  obtain ⟨m, hn, _⟩ := J'.loc
  exact ⟨m, hn, fun h' sb => ⟨.ref D, H', inv_comp_back I2 f2 hC J' sb, rfl, q⟩⟩
def tSetComp (i : Nat) (wi : TI) (g : TG) (tt : TT) (te : TE) (n : Nat) (js : List Nat) : TS := fun D σ H => tComp wi g tt te n js σ H fun v H1 => D.nx (σ.set i (some v)) H1
theorem ps_comp {i : Nat} {x : Str} {pos' spos : Pos} (hN : X.N.Nodup) (hix : X.N[i]? = some x) (hx : X.env.scope.names.lookup x = some .local) (T : CompText X scope own frees js) (hc : X.calm = true) (hi : PI X tg iter wi)
    (hg : ∀ C s H fp, PG (cxComp X (own ++ frees) scope (fun _ _ => False) C s H fp) tg g)
    (ht : ∀ C s H fp, PTs (cxComp X (own ++ frees) scope (fun _ _ => False) C s H fp) ifs tt)
    (he : ∀ C s H fp, PE (cxComp X (own ++ frees) scope (fun _ _ => False) C s H fp) elt te)
    (hsw : swapsWith (.ListComp elt [⟨tg, iter, ifs, 0⟩] scope pos) (some (.Name x pos')) spos.line X.env = pure true := by rfl)
    (hs : ∀ x, foldedSetIterable iter X.env x = pure x := by intro _; rfl) :
    PS X (.Assign [.Name x pos'] (.ListComp elt [⟨tg, iter, ifs, 0⟩] scope pos) spos) (tSetComp i wi g tt te own.length js) := by
  intro pins s σ H D I h
  rw [exec_Assign_Name_used _ _ _ _ hsw]
  refine wpAny_bind (wpAny_standAt (wpAny_bind ?_))
  show wpAny _ X.A (do let _ ← comprehension (.ListComp elt [⟨tg, iter, ifs, 0⟩] scope pos) scope X.env _ (newList []) false (eval iter X.env) (some (assign (.Name x pos') X.env))) _ _ s
  refine wpAny_bind (wpAny_mono (wpAny_comprehension_free (use := some (assign (.Name x pos') X.env)) (Q := fun _ s' => SP X pins D .next s') rfl hs (closure_is (closure_ok I T)) T.kind T.names ?_) (fun _ s' hq => wpAny_pure (wpAny_pure hq)) fun _ _ e => e)
  refine wpAny_mono (hi pins s σ H _ I h) (fun v s1 h1 => wpAny_mono h1 (fun itv s2 h2 => ?_) fun _ _ z => z) fun _ _ z => z
  obtain ⟨it, fp, tn, J, H2, e, I2, TT', st2, f2, hl⟩ := h2
  subst e
  refine comp_block (QQ := fun D' H' => D.nx (σ.set i (some (.ref D'))) H') T hg ht he I2 (TT'.x hc) st2 f2 hl fun D' C σ' H' s' hC J' q => ?_
  have I3 : Inv X pins σ H' s' := by
    obtain ⟨hh, gg, dd, tt', oo⟩ := s'
    exact inv_comp_back I2 f2 hC J' (Heap.SameBut.refl ..)
  obtain ⟨m, hn, _⟩ := J'.loc
  obtain ⟨oC, es, ep, hoC, hdC, rest⟩ := id hn
  have hHC : H' C = none := J'.free
  have hlC : C ≠ X.env.locals := Nat.ne_of_gt (Nat.lt_of_lt_of_le I2.lt hC)
  have hfC : C ∉ X.fs := fun z => by
    obtain ⟨_, o, ho, _⟩ := I2.funs.mem z
    exact absurd (Nat.lt_of_lt_of_le (Heap.lt_size ho) hC) (Nat.lt_irrefl _)
  have I4 : Inv X (pins ++ [(C, oC)]) σ H' s' := I3.pins_of fun p hp => (List.mem_append.mp hp).elim (fun z => I3.pin p (List.mem_append_right _ z)) fun z => by
    have e : p = (C, oC) := by simpa using z
    subst e
    exact ⟨hoC, hHC, hlC, hfC, fun v z => by have z' : oC.data = .cell v := z; rw [hdC] at z'; cases z'⟩
  show wpAny _ X.A (assign (.Name x pos') X.env (.ref D')) _ _ _
  refine wpAny_assign_Name (store_ok (v := .ref D') I4 hN hix (.inl hx) rfl (fun s5 I5 => ?_) (.inr hx))
  have e5 : s5.heap.get? C = some oC := (I5.pin (C, oC) (List.mem_append_right _ (List.mem_append_right _ (by simp)))).1
  refine ⟨m, ⟨oC, es, ep, e5, hdC, rest⟩, fun h' sb => ⟨_, H', ?_, q⟩⟩
  -- the block's names let go
  have I6 : Inv X pins (σ.set i (some (.ref D'))) H' s5 := I5.unpinned
  refine I6.turned (t' := s5.toks) (fun b o hb e => (sb.2 b hb).trans e) hHC hlC (.inr (Nat.le_trans I2.sz hC)) (fun y c e => ?_) (fun p hp z => ?_)
  · obtain ⟨v, qc⟩ := I2.cell y c e
    exact Nat.ne_of_lt (Nat.lt_of_lt_of_le qc.lt hC)
  · have hp2 := (I2.pin p hp).1
    exact absurd (Nat.lt_of_lt_of_le (Heap.lt_size hp2) (by rw [z]; exact hC)) (Nat.lt_irrefl _)
end

section
variable {K : PySem.W.Frag} {a : Addr} {xs : List V} {g : TG} {tt : TT} {te : TE} {n : Nat} {fr : St} {D : Addr} {Q : Hp → Prop} {H1 : Hp}
theorem comp_list (Pv : Nat → List V → Hp → Prop) (h0 : Pv 0 [] H1) (hl : ∀ i acc H, i ≤ xs.length → Pv i acc H → SqL K H a xs ∧ H D = some (.lst acc) ∧ acc.length ≤ i) (hz : xs.length ≤ sizeLine)
    (hs : ∀ i x acc H, xs[i]? = some x → Pv i acc H → g x (List.replicate n none ++ fr) H fun σ2 H2 => σ2.drop n = fr ∧ tt σ2 H2 fun b H3 =>
      if b = true then te σ2 H3 fun v H4 => H4 D = some (.lst acc) ∧ Pv (i + 1) (acc ++ [v]) (upd H4 D (.lst (acc ++ [v]))) else Pv (i + 1) acc H3)
    (hd : ∀ acc H, Pv xs.length acc H → Q H) : CompLoop (Itl K a) g tt te n fr D Q H1 := by
  refine ⟨fun i m acc H => m = xs.length - i ∧ i ≤ xs.length ∧ Pv i acc H, ⟨xs.length, by simp, Nat.zero_le _, h0⟩, ?_⟩
  rintro i m acc H ⟨rfl, hi, p⟩
  obtain ⟨q, hD, ha⟩ := hl i acc H hi p
  refine ⟨hD, ?_⟩
  by_cases hlt : i < xs.length
  · refine .inr ⟨⟨xs, xs[i], q, by simp [hlt]⟩, by (first | lia | omega), Pv (i + 1), fun acc' H' p' => ⟨xs.length - (i + 1), by (first | lia | omega), rfl, hlt, p'⟩, fun x H' y => ?_⟩
    obtain ⟨e, y⟩ := y
    subst e
    exact hs i x acc _ (y xs q) p
  · have e : i = xs.length := by (first | lia | omega)
    subst e
    exact .inl ⟨⟨xs, q, Nat.le_refl _⟩, hd acc H p⟩
theorem comp_range {lo : Int} {m : Nat} (Pv : Nat → List V → Hp → Prop) (h0 : Pv 0 [] H1) (hl : ∀ i acc H, i ≤ m → Pv i acc H → H D = some (.lst acc) ∧ acc.length ≤ i) (hz : m ≤ sizeLine)
    (hs : ∀ i acc H, i < m → Pv i acc H → g (.int (lo + i)) (List.replicate n none ++ fr) H fun σ2 H2 => σ2.drop n = fr ∧ tt σ2 H2 fun b H3 =>
      if b = true then te σ2 H3 fun v H4 => H4 D = some (.lst acc) ∧ Pv (i + 1) (acc ++ [v]) (upd H4 D (.lst (acc ++ [v]))) else Pv (i + 1) acc H3)
    (hd : ∀ acc H, Pv m acc H → Q H) : CompLoop (Itr lo m) g tt te n fr D Q H1 := by
  refine ⟨fun i k acc H => k = m - i ∧ i ≤ m ∧ Pv i acc H, ⟨m, by simp, Nat.zero_le _, h0⟩, ?_⟩
  rintro i k acc H ⟨rfl, hi, p⟩
  obtain ⟨hD, ha⟩ := hl i acc H hi p
  refine ⟨hD, ?_⟩
  by_cases hlt : i < m
  · refine .inr ⟨hlt, by (first | lia | omega), Pv (i + 1), fun acc' H' p' => ⟨m - (i + 1), by (first | lia | omega), rfl, hlt, p'⟩, fun x H' y => ?_⟩
    obtain ⟨e, y⟩ := y
    subst e y
    exact hs i acc _ hlt p
  · have e : i = m := by (first | lia | omega)
    subst e
    exact .inl ⟨Nat.le_refl _, hd acc H p⟩
end
end L2

namespace L2
open PySem PySem.Spec PyProof.Rows

def compLook (scope osc : Scope) (N frees : List Str) (js : List Nat) : Bool :=
  decide (scope.kind = .function) && scope.names.all (fun y => decide (y.2 ≠ .cell)) && scope.names.all (fun y => decide (y.2 = .local → scope.names.lookup y.1 = some .local)) &&
  scope.names.all (fun y => decide (y.2 = .free → osc.names.lookup y.1 = some .cell ∨ osc.names.lookup y.1 = some .free)) && decide (js.map (fun j => N[j]?) = frees.map some) && frees.all (fun x => decide (scope.names.lookup x = some .free))
theorem compText_of {X : Cx} {scope : Scope} {own frees : List Str} {js : List Nat} (osc : Scope) (N : List Str) (h1 : X.env.scope = osc := by rfl) (h2 : X.N = N := by rfl) (h : compLook scope osc N frees js = true := by decide +kernel) : CompText X scope own frees js := by
  unfold compLook at h
  simp only [Bool.and_eq_true, decide_eq_true_eq, List.all_eq_true] at h
  obtain ⟨⟨⟨⟨⟨a, b⟩, c⟩, d⟩, e⟩, f⟩ := h
  exact ⟨a, b, c, by rw [h1]; exact d, by rw [h2]; exact e, f⟩

mutual
inductive DatV (K : PySem.W.Frag) (H : Hp) : V → PyData → Prop
  | non : DatV K H .non .none
  | bl (b : Bool) : DatV K H (.bl b) (.bool b)
  | int (i : Int) : DatV K H (.int i) (.int i)
  | str (x : Str) : DatV K H (.str x) (.str x)
  | lst {a : Addr} {xs : List V} {ds : List PyData} (h : SqL K H a xs) (r : DatVs K H xs ds) : DatV K H (.ref a) (.list ds)
  | tup {a : Addr} {xs : List V} {ds : List PyData} (h : SqT K H a xs) (r : DatVs K H xs ds) : DatV K H (.ref a) (.tuple ds)
inductive DatVs (K : PySem.W.Frag) (H : Hp) : List V → List PyData → Prop
  | nil : DatVs K H [] []
  | cons {x : V} {d : PyData} {xs : List V} {ds : List PyData} (h : DatV K H x d) (r : DatVs K H xs ds) : DatVs K H (x :: xs) (d :: ds)
end
section
variable {X : Cx} {pins : List (Addr × Obj)} {σ : St} {H : Hp} {s : Shared}
mutual
theorem DatV.reads (I : Inv X pins σ H s) : ∀ {v : V} {d : PyData} {u : Value}, DatV X.K H v d → RelV v u → ∃ as, Reads s.heap u d as
  | _, _, u, .non, r => by cases (show u = Value.none from r); exact ⟨_, .none⟩
  | _, _, u, .bl b, r => by cases (show u = Value.bool b from r); exact ⟨_, .bool b⟩
  | _, _, u, .int i, r => by obtain ⟨t, rfl⟩ := (show ∃ t, u = Value.int i t from r); exact ⟨_, .int i t⟩
  | _, _, u, .str x, r => by obtain ⟨t, rfl⟩ := (show ∃ t, u = Value.str x t from r); exact ⟨_, .str x t⟩
  | _, _, u, .lst (a := a) h rs, r => by
    cases (show u = Value.ref a from r)
    obtain ⟨its, rv, ⟨o, n, e, c, _, d⟩, _⟩ := I.list h
    obtain ⟨as, q⟩ := DatVs.reads I rs rv
    exact ⟨_, .list e c d (by simpa using q)⟩
  | _, _, u, .tup (a := a) h rs, r => by
    cases (show u = Value.ref a from r)
    obtain ⟨its, rv, ⟨o, e, c, n, d⟩, _⟩ := I.tuple h
    obtain ⟨as, q⟩ := DatVs.reads I rs rv
    exact ⟨_, .tuple e c d (by simpa using q)⟩
theorem DatVs.reads (I : Inv X pins σ H s) : ∀ {vs : List V} {ds : List PyData} {us : List Value}, DatVs X.K H vs ds → Vals vs us → ∃ as, ReadsAll s.heap us ds as
  | _, _, _, .nil, .nil => ⟨_, .nil⟩
  | _, _, _, .cons h r, .cons rv rr => by
    obtain ⟨as, q⟩ := DatV.reads I h rv
    obtain ⟨bs, q2⟩ := DatVs.reads I r rr
    exact ⟨_, .cons q q2⟩
end
end
section
variable {X : Cx}
def rEqD (K : PySem.W.Frag) : R2 := fun x y H Q => ∃ d e, DatV K H x d ∧ DatV K H y e ∧ SeqAt.shaped d = true ∧ SeqAt.shaped e = true ∧ Q (.bl (PyData.eqv d e)) H
def rNeD (K : PySem.W.Frag) : R2 := fun x y H Q => ∃ d e, DatV K H x d ∧ DatV K H y e ∧ SeqAt.shaped d = true ∧ SeqAt.shaped e = true ∧ Q (.bl (!PyData.eqv d e)) H
theorem op_eqD (hu : X.A.units + 64 < cLine) : OpR X (compareOp .Eq) (rEqD X.K) := by
  intro pins s σ H x y v u Q I rx ry h
  obtain ⟨d, e, h1, h2, s1, s2, q⟩ := h
  obtain ⟨as, ra⟩ := h1.reads I rx
  obtain ⟨bs, rb⟩ := h2.reads I ry
  exact eq_dataH ra rb s1 s2 hu ⟨.bl _, H, I, rfl, q⟩
theorem op_neD (hu : X.A.units + 64 < cLine) : OpR X (compareOp .NotEq) (rNeD X.K) := by
  intro pins s σ H x y v u Q I rx ry h
  obtain ⟨d, e, h1, h2, s1, s2, q⟩ := h
  obtain ⟨as, ra⟩ := h1.reads I rx
  obtain ⟨bs, rb⟩ := h2.reads I ry
  exact ne_dataH ra rb s1 s2 hu ⟨.bl _, H, I, rfl, q⟩
def clsV : V → Option Value
  | .ty n => some (.type n)
  | .ref a => some (.ref a)
  | _ => none
theorem clsV_of {c : V} {u w : Value} (h : clsV c = some u) (r : RelV c w) : w = u := by
  cases c with
  | ty n => exact (show w = Value.type n from r).trans (Option.some.inj h)
  | ref a => exact (show w = Value.ref a from r).trans (Option.some.inj h)
  | _ => cases h
def rIsi (K : PySem.W.Frag) : List V → Hp → VK → Prop := fun xs H Q => ∃ x c t u b, xs = [x, c] ∧ clsV c = some u ∧ TyOf K H x t ∧ PySem.W.kitOne K t u = some b ∧ Q (.bl b) H
theorem call_isi : CallR X (.builtin "isinstance") (rIsi X.K) := by
  intro pins s σ H xs us Q I r h
  obtain ⟨x, c, t, u, b, rfl, rc, ty, e, q⟩ := h
  cases r with
  | cons r1 r2 =>
    cases r2 with
    | cons r2 r3 =>
      cases r3
      cases clsV_of rc r2
      exact isinst_ok I r1 ty e fun tk => ⟨.bl b, H, I.tok tk, rfl, q⟩
theorem kit_ii (K : PySem.W.Frag) : PySem.W.kitOne K (.type "int") (.type "int") = some true := by with_unfolding_all rfl
theorem kit_ib (K : PySem.W.Frag) : PySem.W.kitOne K (.type "int") (.type "bool") = some false := by with_unfolding_all rfl
theorem kit_tt (K : PySem.W.Frag) : PySem.W.kitOne K (.type "tuple") (.type "tuple") = some true := by with_unfolding_all rfl
theorem kit_ll (K : PySem.W.Frag) : PySem.W.kitOne K (.type "list") (.type "list") = some true := by with_unfolding_all rfl
theorem mt_bits : MtR X "int.bit_length" (fun x xs H Q => ∃ i, x = .int i ∧ xs = [] ∧ Q (.int (Builtin.Int.intBits i)) H) := by
  intro pins s σ H x xs v us Q I rx rs h
  obtain ⟨i, rfl, rfl, q⟩ := h
  obtain ⟨t, rfl⟩ := rx
  cases rs
  exact call_int_bit_length ⟨.int _, H, I.tok _, ⟨_, rfl⟩, q⟩
end
end L2
namespace L2
open PySem PySem.Spec PyProof.Rows
section
variable {X : Cx}
end
theorem dl {n : Nat} (h : Nat.ble n 1000 = true) : n ≤ sizeLine := Nat.le_of_lt (small1000 (Nat.le_of_ble_eq_true h))
theorem modC {j : Int} (h : decide (0 < j) = true) : 0 < j := of_decide_eq_true h
theorem iteD {c A B : Prop} [Decidable c] (h : ¬ c) (hb : B) : if decide c = true then A else B := by
  rw [decide_eq_false h]
  exact iteF hb
theorem Same.new {H : Hp} {p : Addr} {o : HO} (h : H p = none) : Same H (upd H p o) := fun b u e => by
  rw [upd_ne (ne_of_none e h)]
  exact e
theorem Same.put {H H2 : Hp} {D : Addr} {o : HO} (s : Same H H2) (h : H D = none) : Same H (upd H2 D o) := fun b u e => by
  rw [upd_ne (ne_of_none e h)]
  exact s b u e
def Tups (H H' : Hp) : Prop := ∀ b xs, H b = some (.tup xs) → H' b = some (.tup xs)
theorem Same.tups {H H' : Hp} (s : Same H H') : Tups H H' := fun b xs e => s b _ e
theorem Tups.trans {H H1 H2 : Hp} (a : Tups H H1) (b : Tups H1 H2) : Tups H H2 := fun c xs e => b c xs (a c xs e)
theorem Tups.put {H : Hp} {D : Addr} {o : HO} {ys : List V} (h : H D = some (.lst ys)) : Tups H (upd H D o) := fun b xs e => by
  rw [upd_ne (ne_of e h (by intro z; cases z))]
  exact e
theorem Paired.getP {α β : Type} {F : α → β → Prop} : ∀ {l : List α} {r : List β} {i : Nat} {x : α}, Paired F l r → l[i]? = some x → ∃ y, r[i]? = some y ∧ F x y
  | _, _, _, _, .nil, e => by simp at e
  | _, _, 0, _, .cons h _, e => by
    simp at e
    subst e
    exact ⟨_, rfl, h⟩
  | _, _, i + 1, x, .cons _ t, e => by
    obtain ⟨y, h1, h2⟩ := Paired.getP (i := i) (x := x) t (by simpa using e)
    exact ⟨y, by simpa using h1, h2⟩
theorem ints_cut (ns : List Int) (lo hi : Option Int) : cutV (ns.map V.int) lo hi = ((ns.drop (HT.sIx ns.length 0 lo)).take (HT.sIx ns.length ns.length hi - HT.sIx ns.length 0 lo)).map V.int := by
  unfold cutV
  rw [List.length_map, ← List.map_drop, ← List.map_take]
end L2

namespace L2
open PySem PySem.Spec PyProof.Rows
section
variable {X : Cx} {l : Expr} {tl : TE} {tg a b o e : Expr} {ta tb to : TE} {es : List Expr}
theorem op_eqK (K : PySem.W.Frag) (hu : X.A.units + 64 < cLine) (h : X.K = K := by rfl) : OpR X (compareOp .Eq) (rEqD K) := by subst h; exact op_eqD hu
theorem op_neK (K : PySem.W.Frag) (hu : X.A.units + 64 < cLine) (h : X.K = K := by rfl) : OpR X (compareOp .NotEq) (rNeD K) := by subst h; exact op_neD hu
theorem isiK (K : PySem.W.Frag) (h : X.K = K := by rfl) : CallR X (.builtin "isinstance") (rIsi K) := by subst h; exact call_isi
def rLen (K : PySem.W.Frag) : List V → Hp → VK → Prop := fun xs H Q => ∃ p ys, xs = [.ref p] ∧ (SqL K H p ys ∨ SqT K H p ys) ∧ Q (.int ys.length) H
theorem lenK (K : PySem.W.Frag) (h : X.K = K := by rfl) : CallR X (.builtin "len") (rLen K) := by subst h; exact call_len_seq
def rTupl (K : PySem.W.Frag) : List V → Hp → VK → Prop := fun xs H Q => ∃ p ys, xs = [.ref p] ∧ ((SqL K H p ys ∧ ∀ l, H l = none → Q (.ref l) (upd H l (.tup ys))) ∨ (SqT K H p ys ∧ Q (.ref p) H))
theorem tuplK (K : PySem.W.Frag) (h : X.K = K := by rfl) : CallR X (.type "tuple") (rTupl K) := by subst h; exact call_tuple_of
theorem ixL (K : PySem.W.Frag) (h : X.K = K := by rfl) : IxR X (rIxL K) := by subst h; exact ix_list
theorem ixT (K : PySem.W.Frag) (h : X.K = K := by rfl) : IxR X (rIxT K) := by subst h; exact ix_tup
theorem slL (K : PySem.W.Frag) (h : X.K = K := by rfl) : SlR X (rSlL K) := by subst h; exact sl_list
theorem slT (K : PySem.W.Frag) (h : X.K = K := by rfl) : SlR X (rSlT K) := by subst h; exact sl_tup
theorem inK (K : PySem.W.Frag) (h : X.K = K := by rfl) : OpR X (compareOp .In) (rIn K false) := by subst h; exact op_in_seq
theorem notInK (K : PySem.W.Frag) (h : X.K = K := by rfl) : OpR X (compareOp .NotIn) (rIn K true) := by subst h; exact op_notIn_seq
theorem piL (K : PySem.W.Frag) (hl : PE X l tl) (h : X.K = K := by rfl) : PI X tg l (iList K tl) := by subst h; exact pi_list hl
theorem pgT (K : PySem.W.Frag) {k : Nat} {t : TGs} {n : Nat} {pos : Pos} (hc : X.calm = true) (hp : PGs X es t) (hn : (assignEach es X.env).length = n := by rfl) (hst : (assignEach es X.env).findIdx? (·.1) = none := by rfl) (h : X.K = K := by rfl) :
    PG X (.Tuple es k pos) (gTup K n t) := by subst h; exact pg_tup hc hp hn hst
theorem pe_ty {x : Str} {T : String} {pos : Pos} (hg : Gl X x) (hm : X.mg x = none) (hv : bootBuiltins x = some (.type T)) (hn : x ≠ "__name__" := by decide) (hd : (x == ("__debug__" : Str)) = false := by decide) : PE X (.Name x pos) (tC (.ty T)) :=
  pe_bltn hg hm hv rfl hn hd
end
end L2

namespace L2
open PySem PySem.Spec PyProof.Rows

def Sec (e : Addr) (h : Heap) : Prop := ∃ oe vs, h.get? e = some oe ∧ oe.data = .fields vs ∧ vs[2]? = some .none
def SecD (od : Option Addr) (e : Addr) (h : Heap) : Prop := ∃ oe vs, h.get? e = some oe ∧ oe.data = .fields vs ∧ vs[2]? = some .none ∧ oe.dict = od
theorem dict_map (o : Obj) (f) : (o.mapFields f).dict = o.dict := by
  obtain ⟨c, d, dt, sl⟩ := o
  cases dt <;> rfl
section
variable {M : Model} {A : Around} {E : Value → Shared → Prop} {s : Shared} {B : Heap} {env : Env} {outer l : List Env} {L e : Addr} {cls a0 : Value} {Q : Unit → Shared → Prop} {od : Option Addr}
theorem upd_rec {h : Heap} {T : Addr} {oT : Obj} {ts : Array Value} (f : Obj → Obj) (hT : h.get? T = some oT) (hd : oT.data = .fields ts) : h.UpToSlots (h.update T f) := fun b o hb hn => by
  have ne : T ≠ b := fun z => by
    rw [← z, hT] at hb
    cases hb
    exact hn ts hd
  exact ⟨o.slots, (Heap.get?_update_other h f ne).trans hb⟩
theorem stays_rec {h : Heap} {T : Addr} (f : Obj → Obj) (k : B.StaysIn h) (n : B.get? T = none) : B.StaysIn (h.update T f) := fun b o hb => by
  have ne : T ≠ b := fun z => by
    rw [← z, n] at hb
    cases hb
  exact (Heap.get?_update_other h f ne).trans (k b o hb)
theorem FunFrames_up {h h' : Heap} (x : h.FunFrames B l) (u : h.UpToSlots h') : h'.FunFrames B l := x.of_keeps fun b o hb hn =>
  let ⟨_, q⟩ := u b o hb hn
  ⟨_, q, rfl⟩
theorem land2 {fl : Value} (hk : B.StaysIn s.heap) (hn : B.get? e = none) (hl : s.heap.FunFrames B l) (ht : s.heap.TracedAtW B e cls a0 fl) (h2 : SecD od e s.heap)
    (q : ∀ h', Heap.FlyingW B l e cls a0 h' → SecD od e h' → s.heap.UpToSlots h' → Q () { s with heap := h' }) : wpAny M A (setFlight (.ref e) none) Q E s := by
  obtain ⟨oe, vs, T, oT, ts, ge, hc, de, f1, nT, Te, gT, dT, f3⟩ := ht
  have z3 : 3 < ts.size := (Array.getElem?_eq_some_iff.mp f3).1
  rw [setFlight]
  refine wpAny_bind (wpAny_field ge de f1 ?_)
  rw [if_pos (by simp)]
  refine wpAny_setField gT dT z3 ?_
  have up := upd_rec (Obj.mapFields (·.setIfInBounds 3 ((none : Option Addr).elim Value.none fun f => rawInt f))) gT dT
  have ge' := (Heap.get?_update_other s.heap (Obj.mapFields (·.setIfInBounds 3 ((none : Option Addr).elim Value.none fun f => rawInt f))) Te).trans ge
  have dT' := Obj.data_mapFields dT (·.setIfInBounds 3 ((none : Option Addr).elim Value.none fun f => rawInt f))
  refine q _ ⟨stays_rec _ hk nT, hn, FunFrames_up hl up, oe, vs, T, _, _, ge', hc, de, f1, nT, Te, Heap.get?_update_self _ gT (Obj.isFreed_of_fields dT'), dT', by simp [z3]⟩ ?_ up
  obtain ⟨o2, v2, g2, d2, k2, z2⟩ := h2
  rw [ge] at g2
  cases g2
  exact ⟨oe, v2, ge', d2, k2, z2⟩
theorem entry2 {oe : Obj} {vs : Array Value} {head : Value} {hadNext : Bool} (hfr : A.frames = some (env :: outer)) (hl : s.heap.FunFrames B (env :: outer)) (hf : env.frame = some L) (ge : s.heap.get? e = some oe) (hk : B.StaysIn s.heap) (hn : B.get? e = none)
    (de : oe.data = .fields vs) (hz : 1 < vs.size) (h0 : vs[0]? = some a0) (h2 : vs[2]? = some .none) (hz2 : oe.dict = od)
    (q : ∀ h', Heap.HeldW B (env :: outer) e oe.cls a0 L h' → SecD od e h' → s.heap.UpToSlots h' → Q () { s with heap := h' }) :
    wpAny M A (do let a ← frameOf env; let pl ← entryPlaceOf L hadNext; let b ← EntryCells.newEntry head a .none (rawInt L) .none pl; setField (.ref e) 1 b) Q E s := by
  have noFr : e ∉ (env :: outer).filterMap (·.frame) := fun z => by
    obtain ⟨_, o, ho, nf⟩ := hl.mem z
    rw [ge] at ho
    cases ho
    exact nf vs de
  refine wpAny_bind (wpAny_frameOf_fun hfr hl hf fun h1 so => wpAny_bind (wpAny_entryPlaceOf fun pl ip => ?_))
  rw [EntryCells.newEntry, newFields]
  refine wpAny_bind (wpAny_newObj_type ?_ (ip.sizeOk5 _ _ _ _ _))
  generalize hnw : ({ cls := .type "traceback", dict := none, data := .fields ([head, .ref L, .none, rawInt L, .none] ++ (if pl.isEmpty then List.replicate 6 Value.none else pl)).toArray } : Obj) = nw
  have dn : nw.data = .fields ([head, .ref L, .none, rawInt L, .none] ++ (if pl.isEmpty then List.replicate 6 Value.none else pl)).toArray := by rw [← hnw]
  have ge1 : h1.get? e = some oe := (so.2.1 e noFr).trans ge
  have ge2 := Heap.get?_push_of_some (h := h1) nw ge1
  have Te : h1.objs.size ≠ e := Nat.ne_of_gt (Heap.lt_size ge1)
  refine wpAny_setField ge2 de hz ?_
  have de3 := Obj.data_mapFields de (·.setIfInBounds 1 (Value.ref h1.objs.size))
  have ge3 := Heap.get?_update_self (Obj.mapFields (·.setIfInBounds 1 (Value.ref h1.objs.size))) ge2 (Obj.isFreed_of_fields de3)
  have gT3 := (Heap.get?_update_other (h1.push nw) (Obj.mapFields (·.setIfInBounds 1 (Value.ref h1.objs.size))) (Ne.symm Te)).trans (Heap.get?_push_size h1 (by rw [← hnw]; rfl))
  have up : s.heap.UpToSlots ((h1.push nw).update e (Obj.mapFields (·.setIfInBounds 1 (Value.ref h1.objs.size)))) := by
    have u1 : s.heap.UpToSlots h1 := fun b o hb _ => so.2.2 b o hb
    exact (u1.trans (.of_keeps fun b o hb => Heap.get?_push_of_some nw hb)).trans (upd_rec _ ge2 de)
  have k1 : B.StaysIn h1 := fun b o hb => (so.2.1 b fun z => by rw [(hl.mem z).1] at hb; cases hb).trans (hk b o hb)
  have k2 : B.StaysIn (h1.push nw) := fun b o hb => Heap.get?_push_of_some nw (k1 b o hb)
  refine q _ ⟨stays_rec _ k2 hn, hn, FunFrames_up hl up, _, _, h1.objs.size, nw, _, ge3, ⟨Obj.cls_mapFields _ _, by rw [Array.getElem?_setIfInBounds_ne (by decide)]; exact h0⟩, de3, by simp [hz], k1.fresh, Te, gT3, dn, ?_⟩ ?_ up
  · first | (simp; done) | (rcases ip with rfl | ⟨_, _, _, _, _, _, _, rfl⟩ <;> simp)
  · exact ⟨_, _, ge3, de3, by rw [Array.getElem?_setIfInBounds_ne (by decide)]; exact h2, (dict_map _ _).trans hz2⟩
theorem note2 (hfr : A.frames = some (env :: outer)) (hf : env.frame = some L) (fl : Heap.FlyingW B (env :: outer) e cls a0 s.heap) (h2 : SecD od e s.heap)
    (q : ∀ h', Heap.HeldW B (env :: outer) e cls a0 L h' → SecD od e h' → s.heap.UpToSlots h' → Q () { s with heap := h' }) : wpAny M A (noteFrame (.ref e) env) Q E s := by
  obtain ⟨hk, hn, hl, oe, vs, T, oT, ts, ge, ⟨hc, h0⟩, de, f1, nT, Te, gT, dT, f3⟩ := fl
  obtain ⟨o2, v2, g2, d2, k2, z2⟩ := h2
  rw [ge] at g2
  cases g2
  rw [de] at d2
  cases d2
  cases hc
  rw [noteFrame]
  simp only [hf]
  refine wpAny_bind (wpAny_field ge de f1 ?_)
  rw [if_pos (by simp)]
  refine wpAny_bind (wpAny_field gT dT f3 ?_)
  rw [if_neg (by simp [rawInt])]
  refine wpAny_bind (wpAny_setField gT dT (Array.getElem?_eq_some_iff.mp f3).1 ?_)
  have up := upd_rec (Obj.mapFields (·.setIfInBounds 3 Value.none)) gT dT
  have ge' := (Heap.get?_update_other s.heap (Obj.mapFields (·.setIfInBounds 3 Value.none)) Te).trans ge
  exact entry2 (s := { s with heap := s.heap.update T (Obj.mapFields (·.setIfInBounds 3 Value.none)) }) hfr (FunFrames_up hl up) hf ge' (stays_rec _ hk nT) hn de (Array.getElem?_eq_some_iff.mp f1).1 h0 k2 z2 fun h' x1 x2 x3 => q h' x1 x2 (up.trans x3)
theorem fly2 (x : Heap.FlyingW B (env :: outer) e cls a0 s.heap) : Heap.FlyingW B outer e cls a0 s.heap :=
  let ⟨k1, k2, ⟨_, _, k3⟩, k4⟩ := x
  ⟨k1, k2, k3, k4⟩
theorem leave_on2 (hfr : A.frames = some (env :: outer)) (hf : env.frame = some L) (fl : Heap.FlyingW B (env :: outer) e cls a0 s.heap) (h2 : SecD od e s.heap)
    (q : ∀ h', Heap.FlyingW B outer e cls a0 h' → SecD od e h' → s.heap.UpToSlots h' → Q () { s with heap := h' }) : wpAny M A (leaving env (.ref e)) Q E s := by
  rw [leaving]
  refine wpAny_bind (note2 hfr hf fl h2 fun h' x1 x2 x3 => ?_)
  obtain ⟨y1, y2, y3, y4⟩ := x1
  exact land2 (s := { s with heap := h' }) y1 y2 y3 y4 x2 fun h'' z1 z2 z3 => q h'' (fly2 (s := { s with heap := h'' }) z1) z2 (x3.trans z3)
theorem leave_new {oe : Obj} {vs : Array Value} (hfr : A.frames = some (env :: outer)) (hf : env.frame = some L) (hk : B.StaysIn s.heap) (hn : B.get? e = none) (hl : s.heap.FunFrames B (env :: outer)) (ge : s.heap.get? e = some oe) (de : oe.data = .fields vs)
    (h0 : vs[0]? = some a0) (h1 : vs[1]? = some .none) (h2 : vs[2]? = some .none) (hz2 : oe.dict = od)
    (q : ∀ h', Heap.FlyingW B outer e oe.cls a0 h' → SecD od e h' → s.heap.UpToSlots h' → Q () { s with heap := h' }) : wpAny M A (leaving env (.ref e)) Q E s := by
  rw [leaving, noteFrame]
  simp only [hf]
  refine wpAny_bind (wpAny_bind (wpAny_field ge de h1 ?_))
  rw [if_neg (by decide)]
  refine entry2 (a0 := a0) hfr hl hf ge hk hn de (Array.getElem?_eq_some_iff.mp h1).1 h0 h2 hz2 fun h' x1 x2 x3 => ?_
  obtain ⟨y1, y2, y3, y4⟩ := x1
  exact land2 (s := { s with heap := h' }) y1 y2 y3 y4 x2 fun h'' z1 z2 z3 => q h'' (fly2 (s := { s with heap := h'' }) z1) z2 (x3.trans z3)
end
end L2

namespace L2
open PySem PySem.Spec PyProof.Rows

section
variable {P : Program} {w : World} {H H0 H1 : Hp} {h h0 h1 h2 : Heap} {a : Addr} {o : HO} {fs : List Addr} {B : Heap}
theorem ObjOk.thing (x : ObjOk P w H h a o) : ∃ ob, h.get? a = some ob := by
  cases o with
  | lst xs => obtain ⟨_, _, _, _, e⟩ := x; exact ⟨_, e⟩
  | tup xs => obtain ⟨_, _, _, ob, e, _⟩ := x; exact ⟨ob, e⟩
  | dK kvs => obtain ⟨_, _, _, _, ob, _, _, e, _⟩ := x; exact ⟨ob, e⟩
  | dT kvs => obtain ⟨_, _, _, _, ob, _, _, e, _⟩ := x; exact ⟨ob, e⟩
  | set S n => obtain ⟨ob, _, _, _, e, _⟩ := x; exact ⟨ob, e⟩
  | ins C dx fs => obtain ⟨_, _, _, e, _⟩ := x; exact ⟨_, e⟩
  | own y => exact x
  | xd fs => obtain ⟨_, ⟨ob, _, _, e, _⟩, _⟩ := x; exact ⟨ob, e⟩
  | rng lo hi => obtain ⟨_, _, _, e⟩ := x; exact ⟨_, e⟩
  | frz ob u => obtain ⟨e, _⟩ := x; exact ⟨_, e⟩
  | tbl ps => exact ⟨_, (show h.get? a = some _ from x)⟩
  | met f y => exact ⟨_, (show h.get? a = some _ from x)⟩
  | ext φ => obtain ⟨_, e, _⟩ := x; exact e
def Cov (B : Heap) (fs : List Addr) (h0 : Heap) (H : Hp) (h : Heap) : Prop := ∀ b o, h.get? b = some o → (H b ≠ none ∨ ∃ o', h0.get? b = some o') → b ∉ fs → B.get? b = some o
theorem stays_un (un : Un fs [] H0 H1 h0 h1) (hok : HOk P w H1 h1) (nof : ∀ b ∈ fs, H1 b = none) (fr : ∀ b ∈ fs, ∀ ob, h1.get? b = some ob → ∀ vs, ob.data ≠ .fields vs) (cov : Cov B fs h0 H1 h1)
    (hB : B.StaysIn h2) (up : h1.UpToSlots h2) : Un fs [] H0 H1 h0 h2 ∧ HOk P w H1 h2 ∧ Cov B fs h0 H1 h2 := by
  have inB : ∀ b ob, h1.get? b = some ob → (H1 b ≠ none ∨ ∃ o', h0.get? b = some o') → b ∉ fs → h2.get? b = some ob := fun b ob e c n => hB b ob (cov b ob e c n)
  have trk : ∀ b u, H1 b = some u → b ∉ fs := fun b u e z => by
    rw [nof b z] at e
    cases e
  refine ⟨⟨fun b ob e n hb hx => inB b ob (un.keep b ob e n hb hx) (.inr ⟨ob, e⟩) hb, fun b ob e n hb hx => ?_, un.free, fun b ob e hx => ?_, un.tups, un.frzs, un.tbls⟩, fun b u e => ?_, fun b ob e c n => ?_⟩
  · obtain ⟨sl, q⟩ := un.slot b ob e n hb hx
    obtain ⟨sl', q'⟩ := up b _ q (fr b hb _ q)
    exact ⟨sl', q'⟩
  · obtain ⟨o', q⟩ := un.there b ob e hx
    by_cases hb : b ∈ fs
    · obtain ⟨sl', q'⟩ := up b _ q (fr b hb _ q)
      exact ⟨_, q'⟩
    · exact ⟨o', inB b o' q (.inr ⟨ob, e⟩) hb⟩
  · refine (hok b u e).stay (fun c v hc q => ?_) (fun _ q => q) fun _ _ q => q
    have hct : ∃ z, H1 c = some z := by
      rcases hc with hc | hc
      · rw [hc]
        exact ⟨u, e⟩
      · exact ⟨_, hc⟩
    obtain ⟨z, hz⟩ := hct
    exact inB c v q (.inl (by rw [hz]; simp)) (trk c z hz)
  · have ht : ∃ o1, h1.get? b = some o1 := by
      rcases c with c | ⟨o', c⟩
      · cases hz : H1 b with
        | none => exact absurd hz c
        | some z => exact (hok b z hz).thing
      · exact un.there b o' c (by simp)
    obtain ⟨o1, q⟩ := ht
    have q2 := cov b o1 q c n
    have q3 := hB b o1 q2
    rw [e] at q3
    rw [Option.some.inj q3]
    exact q2
end
def CX1 (P : Program) (w : World) : CXT := fun outer H s E e s' => ∃ (ea : Addr) (cls a0 : Value) (od : Option Addr) (H' : Hp) (B : Heap), e = .ref ea ∧ s'.os = s.os ∧ AllBare s'.gens ∧ Un (frs outer) [] H H' s.heap s'.heap ∧ HOk P w H' s'.heap ∧ H' ea = none ∧
  Cov B (frs outer) s.heap H' s'.heap ∧ Heap.FlyingW B outer ea cls a0 s'.heap ∧ SecD od ea s'.heap ∧ E cls od H'
structure Out (X : Cx) (E : XK) : Prop where
  stk : X.stack = X.env :: X.outer
  fr : X.env.frame = some X.env.locals
  ex : X.ex = []
  xe : ∀ e s', wpAny (model X.prog X.w) X.A (leaving X.env e) (fun _ s'' => CX1 X.prog X.w X.outer X.H₀ X.s₀ E e s'') (fun e' s'' => CX1 X.prog X.w X.outer X.H₀ X.s₀ E e' s'') s' → X.xe e s'
def Thr (X : Cx) (E : XK) : Prop := ∀ (pins : List (Addr × Obj)) (σ : St) (H : Hp) (s : Shared) (h1 : Heap) (ea : Addr) (cls : Value) (vs : List Value), Inv X pins σ H s → Heap.MadeExcOf s.heap h1 ea cls vs → E cls none H → X.xe (.ref ea) { s with heap := h1 }
section
variable {X : Cx} {E : XK} {pins : List (Addr × Obj)} {σ : St} {H : Hp} {s : Shared}
theorem Inv.fsData (I : Inv X pins σ H s) : ∀ b ∈ X.fs, ∀ ob, s.heap.get? b = some ob → ∀ vs, ob.data ≠ .fields vs := fun b hb ob e => by
  obtain ⟨_, o, ho, hnf⟩ := I.funs.mem hb
  rw [e] at ho
  cases ho
  exact hnf
theorem Inv.fsFree (I : Inv X pins σ H s) (hx : X.ex = []) : ∀ b ∈ X.fs, H b = none := fun b hb => by
  obtain ⟨_, o, ho, _⟩ := I.ok.funs.mem hb
  exact I.base.free b o ho (I.ok.frf b hb) (by rw [hx]; simp)
theorem Cov.outer {B h0 : Heap} {h : Heap} (I : Inv X pins σ H s) (cov : Cov B (frs X.stack) h0 H h) (k : ∀ b o, X.s₀.heap.get? b = some o → ∃ o', h0.get? b = some o') : Cov B X.fs X.s₀.heap H h := fun b o e c n => by
  refine cov b o e (c.imp id fun ⟨o', q⟩ => k b o' q) fun z => ?_
  rcases List.mem_cons.mp (I.stkSub b z) with q | q
  · subst q
    rcases c with c | ⟨o', c⟩
    · exact c I.free
    · exact absurd (Nat.lt_of_lt_of_le (Heap.lt_size c) I.ok.above) (Nat.lt_irrefl _)
  · exact n q
theorem fly_out (O : Out X E) (I : Inv X pins σ H s) {B : Heap} {ea : Addr} {cls a0 : Value} {od : Option Addr} {h2 : Heap} (cov : Cov B X.fs X.s₀.heap H s.heap) (fl : Heap.FlyingW B X.outer ea cls a0 h2) (sc : SecD od ea h2) (up : s.heap.UpToSlots h2) (hn : H ea = none) (q : E cls od H) :
    CX1 X.prog X.w X.outer X.H₀ X.s₀ E (.ref ea) { s with heap := h2 } := by
  have un : Un X.fs [] X.H₀ H X.s₀.heap s.heap := by
    have u := I.base
    rw [O.ex] at u
    exact u
  obtain ⟨u2, ok2, c2⟩ := stays_un un I.hok (I.fsFree O.ex) I.fsData cov fl.1 up
  exact ⟨ea, cls, a0, od, H, B, rfl, I.os, I.bare, u2, ok2, hn, c2, fl, sc, q⟩
theorem Out.thrG (O : Out X E) {ea : Addr} {oe : Obj} {vs : Array Value} {a0 : Value} (I : Inv X pins σ H s) (ge : s.heap.get? ea = some oe) (de : oe.data = .fields vs) (h0 : vs[0]? = some a0) (h1 : vs[1]? = some .none) (h2 : vs[2]? = some .none)
    (hn : H ea = none) (new : X.s₀.heap.get? ea = none) (q : E oe.cls oe.dict H) : X.xe (.ref ea) s := by
  refine O.xe _ _ ?_
  have hfr : X.A.frames = some (X.env :: X.outer) := by rw [I.ok.frames, O.stk]
  have hl : s.heap.FunFrames (PySem.W.hideAll s.heap (ea :: frs X.stack)) (X.env :: X.outer) := by
    have z := PySem.W.funFrames_hide (as := ea :: frs X.stack) I.stack fun env he b hb => List.mem_cons_of_mem _ (List.mem_filterMap.mpr ⟨env, he, hb⟩)
    rw [O.stk] at z ⊢
    exact z
  refine leave_new hfr O.fr (fun b o e => PySem.W.of_hideAll _ e) (PySem.W.hideAll_none _ (List.mem_cons_self ..)) hl ge de h0 h1 h2 rfl fun h3 fl sc up => ?_
  refine fly_out O I (Cov.outer I (h0 := X.s₀.heap) (fun b o e c n => ?_) fun b o e => ⟨o, e⟩) fl sc up hn q
  refine PySem.W.hideAll_get _ e fun z => ?_
  rcases List.mem_cons.mp z with z | z
  · subst z
    rcases c with c | ⟨o', c⟩
    · exact c hn
    · rw [new] at c
      cases c
  · exact n z
theorem Out.thr (O : Out X E) : Thr X E := by
  intro pins σ H s h1 ea cls vs I mk q
  have I1 : Inv X pins σ H { s with heap := h1 } := I.kept (t' := s.toks) mk.keeps
  have hn : H ea = none := by
    cases hz : H ea with
    | none => rfl
    | some z =>
      obtain ⟨ob, e⟩ := (I.hok ea z hz).thing
      rw [mk.new] at e
      cases e
  obtain ⟨t, ge, _, _⟩ := mk.there
  refine O.thrG I1 (a0 := .ref t) ge rfl rfl rfl rfl hn ?_ q
  cases hz : X.s₀.heap.get? ea with
  | none => rfl
  | some o =>
    obtain ⟨o', e⟩ := I.base.there ea o hz (by rw [O.ex]; simp)
    rw [mk.new] at e
    cases e
theorem Inv.threw {H' : Hp} {s' : Shared} (I : Inv X pins σ H s) (os : s'.os = s.os) (bare : AllBare s'.gens) (un : Un (frs X.stack) [] H H' s.heap s'.heap) (hok : HOk X.prog X.w H' s'.heap) : Inv X pins σ H' s' :=
  I.call' (ch := []) os un hok bare fun b z => absurd z (by simp)
theorem Out.passes (O : Out X E) : Passes (CX1 X.prog X.w) X E := by
  intro pins σ H s e s' I q
  obtain ⟨ea, cls, a0, od, H', B, rfl, os, bare, un, hok, hn, cov, fl, sc, qE⟩ := q
  have I1 := I.threw os bare un hok
  refine O.xe _ _ ?_
  have hfr : X.A.frames = some (X.env :: X.outer) := by rw [I.ok.frames, O.stk]
  rw [O.stk] at fl
  refine leave_on2 hfr O.fr fl sc fun h2 fl2 sc2 up => ?_
  exact fly_out O I1 (Cov.outer I1 cov fun b o e => I.base.there b o e (by rw [O.ex]; simp)) fl2 sc2 up hn qE
end
theorem out_of {P : Program} {w : World} {K : PySem.W.Frag} {mg : Str → Option Value} {base : Heap} {N : List Str} {qual : Str} {scope : Scope} {f : Addr} {cd : Value} {A : Around} {outer : List Env} {s : Shared} {H : Hp} {E : XK} :
    Out (cxOf (CX1 P w) P w K mg base N qual scope f cd A outer s H E) E := ⟨rfl, rfl, rfl, fun _ _ h => h⟩
theorem Fun.ok1 {P : Program} {w : World} {K : PySem.W.Frag} {mg : Str → Option Value} {base : Heap} {x qual : Str} {st : Stmt} {f : Addr} {fd : FuncData} {N ps : List Str} {k : Nat} {sp : Sp} (F : Fun K x qual st f fd) (S : FnScope N ps (defScope st))
    (len : ∀ vs H Q E, sp vs H Q E → vs.length = ps.length)
    (hbody : ∀ (cdv : Value) (A : Around) (outer : List Env) (s : Shared) (H : Hp) (vs : List V) (Q : VK) (E : XK), Room k (A.deeper (envOfC qual (defScope st) s.heap.objs.size f cdv)) → sp vs H Q E →
      ∃ t, PSs (cxOf (CX1 P w) P w K mg base N qual (defScope st) f cdv A outer s H E) (defBody st) t ∧ t { nx := fun _ H' => Q .non H', rt := Q } (start N vs) H) : FnOk P w K mg base (CX1 P w) (k + 1) f fd ps sp := by
  obtain ⟨oc, od, kV, doc, pm, an, cdv, ct, osl, rfl, lk, hcd⟩ := F.ex
  exact fn_of lk hcd S len fun A outer s H vs Q E hr hsp => hbody cdv A outer s H vs Q E hr hsp
section
variable {X : Cx} {E : XK}
def tRaise (C : Addr) (E : XK) (t : TA) : TS := fun _ σ H => t σ H fun vs H1 => vs.length ≤ sizeLine ∧ E (.ref C) none H1
theorem ps_raise {x : Str} {C : Addr} {bm : List Value} {B newId initId : String} {e : Expr} {es : List Expr} {ta : TA} {np cpos pos : Pos} (th : Thr X E) (hc : X.calm = true) (hg : Gl X x) (O : ∀ h, X.K.In h → h.Ns mainGlobals X.mg → OwnCls x C bm newId X.mg h)
    (FB : ExcBaseFacts B newId initId bm) (ha : PA X (e :: es) ta) (he : starEach (e :: es) X.env = (false, eval e X.env) :: starEach es X.env := by rfl) (hpl : (backTo cpos (starEach es X.env)).any (·.1) = false := by rfl)
    (hd : (x == ("__debug__" : Str)) = false := by decide) : PS X (.Raise (some (.Call (.Name x np) (e :: es) [] cpos)) none pos) (tRaise C E ta) := by
  intro pins s σ H D I h
  have OC := O _ I.mod.kin I.mod.glob
  obtain ⟨tl, N, nm, q, bs, hdct, sn, sub, ab, col, dd, k0, k1, k2, k3, k5, mN, hC, hN, hni, T⟩ := OC.obj
  refine wpAny_Raise_call_subT (C := C) (nm := nm) (q := q) (N := N) (bs := bs) (bm := tl) (hdct := hdct) (sn := sn) (sub := sub) (ab := ab) (col := col) (dd := dd) (k0 := k0) (k1 := k1) (k2 := k2) (k3 := k3) (k5 := k5)
    FB (mN := mN) (T.hasType FB.hasBase) (I.ok.hd hc) (by rw [he]; show (false || (backTo cpos (starEach es X.env)).any (·.1)) = false; rw [hpl]; rfl) hni (ld_glob I hg OC.bound ⟨rfl, ?_⟩ hd)
  have hA := ha cpos pins s σ H _ I h
  rw [he] at hA ⊢
  refine Calls.evalArgs_plain (wpAny_mono hA (fun us s1 ⟨vs, H1, I1, r1, z, q1⟩ => ?_) fun _ _ y => y)
  exact ⟨rfl, by rw [← r1.length]; exact z, I1.bk _ _ hC, hN.keeps I1.bk, T.keeps I1.bk, fun h' ea hm => th pins σ H1 s1 h' ea _ us I1 hm q1⟩
end
end L2

namespace L2
open PySem PySem.Spec PyProof.Rows

def ExcO (ea : Addr) (cls : Value) : HO := .ext fun h => ∃ oe vs, h.get? ea = some oe ∧ oe.cls = cls ∧ oe.data = .fields vs ∧ vs[2]? = some .none
theorem excO_ok {P : Program} {w : World} {H : Hp} {h : Heap} {ea : Addr} {cls : Value} (q : ∃ oe vs, h.get? ea = some oe ∧ oe.cls = cls ∧ oe.data = .fields vs ∧ vs[2]? = some .none) : ObjOk P w H h ea (ExcO ea cls) :=
  ⟨q, let ⟨oe, _, e, _⟩ := q; ⟨oe, e⟩, fun h1 h2 ⟨oe, vs, e, c, d, z⟩ k => ⟨oe, vs, k oe e, c, d, z⟩⟩
section
variable {X : Cx} {pins : List (Addr × Obj)} {σ : St} {H : Hp} {s : Shared}
theorem Inv.track {ea : Addr} {o : HO} (I : Inv X pins σ H s) (hn : H ea = none) (h0 : X.s₀.heap.get? ea = none) (hL : ea ≠ X.env.locals) (hC : ∀ x c, X.env.cells.lookup x = some c → c ≠ ea) (hp : ∀ p ∈ X.pn ++ pins, p.1 ≠ ea)
    (ok : ObjOk X.prog X.w (upd H ea o) s.heap ea o) : Inv X pins σ (upd H ea o) s := by
  have ne : ∀ b u, H b = some u → b ≠ ea := fun b u e z => by rw [z, hn] at e; cases e
  refine ⟨I.ok, I.os, I.bare, ⟨I.base.keep, I.base.slot, fun b ob e n hx => ?_, I.base.there, fun b xs e => ?_, fun b ob u e => ?_, fun b ps e => ?_⟩, I.loc, I.cell, ?_, fun x c e => ?_, fun p hpp => ?_, fun b u e => ?_, I.len⟩
  · rw [upd_ne (fun z => by rw [z, h0] at e; cases e)]
    exact I.base.free b ob e n hx
  · have q := I.base.tups b xs e
    rw [upd_ne (ne b _ q)]
    exact q
  · have q := I.base.frzs b ob u e
    rw [upd_ne (ne b _ q)]
    exact q
  · obtain ⟨more, q⟩ := I.base.tbls b ps e
    exact ⟨more, by rw [upd_ne (ne b _ q)]; exact q⟩
  · rw [upd_ne (Ne.symm hL)]
    exact I.free
  · rw [upd_ne (hC x c e)]
    exact I.freeC x c e
  · obtain ⟨a1, a2, a3⟩ := I.pin p hpp
    exact ⟨a1, by rw [upd_ne (hp p hpp)]; exact a2, a3⟩
  · by_cases hb : b = ea
    · subst hb
      rw [upd_same] at e
      cases e
      exact ok
    · rw [upd_ne hb] at e
      exact (I.hok b u e).stay (fun _ _ _ q => q) (fun c q => by rw [upd_ne (ne c _ q)]; exact q) fun c xs q => by rw [upd_ne (ne c _ q)]; exact q
theorem Inv.recx {A' : Around} {pn' pins' : List (Addr × Obj)} {cm : Bool} {xe' : Value → Shared → Prop} (I : Inv X pins σ H s) (hA : A'.frames = X.A.frames) (hcm : cm = true → A'.handled = none) (hp : ∀ p ∈ pn' ++ pins', p ∈ X.pn ++ pins) :
    Inv { X with A := A', calm := cm, pn := pn', xe := xe' } pins' σ H s :=
  ⟨⟨I.ok.mod, I.ok.kind, I.ok.glob, I.ok.blt, I.ok.above, I.ok.inj, I.ok.has, I.ok.cab, hcm, hA.trans I.ok.frames, I.ok.stk, I.ok.exf, I.ok.bs, I.ok.bsz, I.ok.noex, I.ok.exfs, I.ok.funs, I.ok.frf⟩,
    I.os, I.bare, I.base, I.loc, I.cell, I.free, I.freeC, fun p z => I.pin p (hp p z), I.hok, I.len⟩
theorem unname_ok {M : Model} {A : Around} {E : Value → Shared → Prop} {i : Nat} {x : Str} {pos : Pos} {Q : Unit → Shared → Prop} (I : Inv X pins σ H s) (hN : X.N.Nodup) (hi : X.N[i]? = some x) (hx : X.env.scope.names.lookup x = some .local)
    (h : ∀ s', Inv X pins (σ.set i none) H s' → Q () s') : wpAny M A (do bindName X.env x .none; unbindBehindTheSuite X.env x pos) Q E s := by
  obtain ⟨m, hn, hl⟩ := id I.loc
  have hcls : (X.env.scope.kind == .class || (X.env.scope.kind == .module && X.env.locals != X.env.globals)) = false := by rw [I.ok.kind]; rfl
  refine wpAny_nameGoes_keeps hx hn hcls fun h' v hn' hs => ?_
  have below : ∀ b ob, X.s₀.heap.get? b = some ob → b ≠ X.env.locals := fun b ob e => Nat.ne_of_lt (Nat.lt_of_lt_of_le (Heap.lt_size e) I.ok.above)
  refine h _ ⟨I.ok, I.os, I.bare, ⟨fun b ob e n hb hx => (hs.2 b (below b ob e)).trans (I.base.keep b ob e n hb hx), fun b ob e n hb hx => ?_, I.base.free, fun b ob e hx => ?_, I.base.tups, I.base.frzs, I.base.tbls⟩,
    ⟨_, hn', fun j y v' e1 e2 e3 => ?_⟩, fun y c e => ?_, I.free, I.freeC, fun p hp => ?_, fun b ob e => ?_, by rw [List.length_set]; exact I.len⟩
  · obtain ⟨sl, e1⟩ := I.base.slot b ob e n hb hx
    exact ⟨sl, (hs.2 b (below b ob e)).trans e1⟩
  · obtain ⟨o', e1⟩ := I.base.there b ob e hx
    exact ⟨o', (hs.2 b (below b ob e)).trans e1⟩
  · by_cases hj : j = i
    · subst hj
      have hlt : j < σ.length := by rw [I.len]; exact (List.getElem?_eq_some_iff.mp hi).1
      rw [List.getElem?_set_self hlt] at e2
      cases e2
    · rw [List.getElem?_set_ne (Ne.symm hj)] at e2
      obtain ⟨u', r', q⟩ := hl j y v' e1 e2 e3
      refine ⟨u', r', ?_⟩
      rcases q with ⟨k, e⟩ | ⟨k, c, e, z⟩
      · have hyx : y ≠ x := fun e' => hj (nodup_ix hN e1 (e' ▸ hi))
        exact .inl ⟨k, by simp [hyx, e]⟩
      · exact .inr ⟨k, c, e, z.sameBut hs (I.cne y c e)⟩
  · obtain ⟨w', z⟩ := I.cell y c e
    exact ⟨w', z.sameBut hs (I.cne y c e)⟩
  · obtain ⟨e, n, ne, nf, d⟩ := I.pin p hp
    exact ⟨(hs.2 p.1 ne).trans e, n, ne, nf, d⟩
  · refine (I.hok b ob e).stay (fun c v hc q => (hs.2 c ?_).trans q) (fun _ q => q) fun _ _ q => q
    intro z
    subst z
    have hf : H X.env.locals = none := I.free
    rcases hc with hc | hc
    · rw [← hc, hf] at e
      cases e
    · rw [hf] at hc
      cases hc
end
def tTryG (o : Addr → Value → Option Addr → HO) (K : PySem.W.Frag) (C i k : Nat) (tb : XK → TS) (th : Addr → TS) : TS := fun D σ H => ∃ E : XK, tb E D σ H ∧ ∀ cls od H', E cls od H' → PySem.W.exmOne K cls (.ref C) = some true ∧
  ∀ ea, H' ea = none → th ea { nx := fun σ2 H2 => D.nx (σ2.set i none) H2, rt := fun _ _ => False } ((List.replicate k none).set i (some (.ref ea))) (upd H' ea (o ea cls od))
abbrev tTry := tTryG fun ea cls _ => ExcO ea cls
section
variable {X : Cx}
theorem ps_tryG (oo : Addr → Value → Option Addr → HO) (hoo : ∀ {H : Hp} {h : Heap} {ea : Addr} {cls : Value} {od : Option Addr}, (∃ oe vs, h.get? ea = some oe ∧ oe.cls = cls ∧ oe.data = .fields vs ∧ vs[2]? = some .none ∧ oe.dict = od) → ObjOk X.prog X.w H h ea (oo ea cls od))
    {x n : Str} {i : Nat} {C : Addr} {body rest : List Stmt} {b0 : Stmt} {np hpos pos : Pos} {tb : XK → TS} {th : Addr → TS} (K : PySem.W.Frag) (hst : X.stack = X.env :: X.outer) (hf : X.env.frame = some X.env.locals) (hexs : X.ex = []) (hN : X.N.Nodup) (hi : X.N[i]? = some n)
    (hx : X.env.scope.names.lookup n = some .local) (hg : Gl X x) (hm : X.mg x = some (.ref C))
    (hb : ∀ E pn xe, Passes (CX1 X.prog X.w) { X with pn := pn, xe := xe } E → PSs { X with pn := pn, xe := xe } body (tb E))
    (hh : ∀ ea pn, PSs { X with A := X.A.mark (some (.ref ea)), calm := false, pn := pn, xe := fun _ _ => False } (b0 :: rest) (th ea)) (hK : X.K = K := by rfl) (hdb : (x == ("__debug__" : Str)) = false := by decide) :
    PS X (.Try body [.ExceptHandler (some (.Name x np)) (some n) (b0 :: rest) hpos] [] [] pos) (tTryG oo K C i X.N.length tb th) := by
  subst hK
  intro pins s σ H D I h
  obtain ⟨E, htb, hE⟩ := h
  refine wpAny_Try_except ?_
  have hfr : X.A.frames = some (X.env :: X.outer) := by rw [I.ok.frames, hst]
  -- the body, in a context whose exceptions come here
  have I' : Inv { X with pn := X.pn ++ pins, xe := fun e s1 => ∃ pins' σ' H0 s0, Inv { X with pn := X.pn ++ pins } pins' σ' H0 s0 ∧ CX1 X.prog X.w X.stack H0 s0 E e s1 } [] σ H s :=
    I.recx (A' := X.A) (cm := X.calm) rfl I.ok.hd fun p hp => by simpa using hp
  have hpass : Passes (CX1 X.prog X.w) { X with pn := X.pn ++ pins, xe := fun e s1 => ∃ pins' σ' H0 s0, Inv { X with pn := X.pn ++ pins } pins' σ' H0 s0 ∧ CX1 X.prog X.w X.stack H0 s0 E e s1 } E := by
    intro pins' σ' H0 s0 e s1 J q
    exact ⟨pins', σ', H0, s0, J.recx (A' := X.A) (cm := X.calm) (pn' := X.pn ++ pins) rfl J.ok.hd fun p hp => hp, q⟩
  have toX : ∀ {pins' σ' H' s'}, Inv { X with pn := X.pn ++ pins } pins' σ' H' s' → Inv X pins σ' H' s' := fun {pins' σ' H' s'} J => by
    have z := J.recx (A' := X.A) (cm := X.calm) (pn' := X.pn) (pins' := pins) (xe' := X.xe) rfl J.ok.hd fun p hp => List.mem_append_left _ hp
    exact z
  have toX' : ∀ {pins' σ' H' s'} {xe' : Value → Shared → Prop}, Inv { X with pn := X.pn ++ pins, xe := xe' } pins' σ' H' s' → Inv X pins σ' H' s' := fun {pins' σ' H' s' xe'} J => by
    have z := J.recx (A' := X.A) (cm := X.calm) (pn' := X.pn) (pins' := pins) (xe' := X.xe) rfl J.ok.hd fun p hp => List.mem_append_left _ hp
    exact z
  refine wpAny_mono (hb E _ _ hpass [] s σ H D I' htb) (fun f s1 q => ?_) fun e s1 q => ?_
  · cases f with
    | next =>
      obtain ⟨σ', H', J, q⟩ := q
      exact wpAny_execs_nil ⟨σ', H', toX' J, q⟩
    | brk =>
      obtain ⟨σ', H', J, q⟩ := q
      exact ⟨σ', H', toX' J, q⟩
    | cont =>
      obtain ⟨σ', H', J, q⟩ := q
      exact ⟨σ', H', toX' J, q⟩
    | ret u =>
      obtain ⟨v, σ', H', J, r, q⟩ := q
      exact ⟨v, σ', H', toX' J, r, q⟩
  · obtain ⟨pins', σ', H0, s0, I0, ea, cls, a0, od, H1, B, rfl, os, bare, un, hok, hn, cov, fl, sc, qE⟩ := q
    obtain ⟨hex, hth⟩ := hE cls od H1 qE
    have J1 : Inv { X with pn := X.pn ++ pins } pins' σ' H1 s1 := I0.threw os bare un hok
    have nof : ∀ b ∈ frs X.stack, H1 b = none := J1.stkFree
    have frd : ∀ {h' : Heap}, s1.heap.UpToSlots h' → ∀ b ∈ frs X.stack, ∀ ob, h'.get? b = some ob → ∀ vs, ob.data ≠ .fields vs := fun {h'} up b hb ob e vs z => by
      obtain ⟨_, o, ho, hnf⟩ := J1.stack.mem hb
      obtain ⟨sl, q⟩ := up b o ho hnf
      rw [e] at q
      cases q
      exact hnf vs z
    -- a station: the invariant again
    have at_ : ∀ {h' : Heap}, B.StaysIn h' → s1.heap.UpToSlots h' → Inv X pins σ' H1 { s1 with heap := h' } := fun {h'} hB up => by
      obtain ⟨u2, ok2, _⟩ := stays_un un hok nof (frd (Heap.UpToSlots.refl _)) cov hB up
      exact toX (I0.threw (s' := { s1 with heap := h' }) os bare u2 ok2)
    have eNo : ea ∉ frs X.stack := fun z => by
      obtain ⟨oe, vs, e, _, d, _⟩ := fl.first
      exact frd (Heap.UpToSlots.refl _) ea z oe e vs d
    have new0 : s0.heap.get? ea = none := by
      cases hz : s0.heap.get? ea with
      | none => rfl
      | some o =>
        obtain ⟨oe, vs, e, _⟩ := fl.first
        have q := cov ea oe e (.inr ⟨o, hz⟩) eNo
        rw [fl.2.1] at q
        cases q
    have fl' : Heap.FlyingW B (X.env :: X.outer) ea cls a0 s1.heap := by
      rw [hst] at fl
      exact fl
    refine note2 hfr hf fl' sc fun h4 held4 sc4 up4 => ?_
    obtain ⟨g1, g2, g3, g4⟩ := held4
    refine land2 (s := { s1 with heap := h4 }) g1 g2 g3 g4 sc4 fun h5 fl5 sc5 up5 => ?_
    have up15 := up4.trans up5
    have J5 := at_ fl5.1 up15
    have hfm : (X.A.mark (some (.ref ea))).frames = X.A.frames := rfl
    have J5' : Inv { X with A := X.A.mark (some (.ref ea)), calm := false, pn := X.pn, xe := fun _ _ => False } pins σ' H1 { s1 with heap := h5 } := J5.recx hfm (fun z => nomatch z) fun p hp => hp
    refine wpAny_handleBy_cons (codeAny_handlers_test (ld_glob J5' hg hm ?_ hdb)) (by intro q; cases q)
    obtain ⟨ob, hob, hobc⟩ := fl5.there
    have LT : PySem.W.Looks (model X.prog X.w) h5 (typeOf (.ref ea)) cls := hobc ▸ (PySem.W.Looks.ld hob).andThen .now
    refine PySem.W.Looks.here (s := { s1 with heap := h5 }) (PySem.W.exm_one (K := X.K) J5.kIn LT hex) ?_
    refine codeAny_handlers_suite_as ?_
    obtain ⟨k1, k2, k3, k4⟩ := fl5
    refine land2 (s := { s1 with heap := h5 }) k1 k2 k3 k4.at sc5 fun h6 fl6 sc6 up6 => ?_
    have up16 := up15.trans up6
    have J6 := at_ fl6.1 up16
    obtain ⟨oe, vs, e6, c6, d6, _⟩ := fl6.first
    have z6 : vs[2]? = some .none ∧ oe.dict = od := by
      obtain ⟨o2, v2, g2, d2, z2, y2⟩ := sc6
      rw [e6] at g2
      cases g2
      rw [d6] at d2
      cases d2
      exact ⟨z2, y2⟩
    have ne0 : ea ≠ X.env.locals := fun z => by
      obtain ⟨m, ⟨o, _, _, ho, hd, _⟩, _⟩ := J6.loc
      rw [← z] at ho
      rw [e6] at ho
      cases ho
      rw [d6] at hd
      cases hd
    have J7 : Inv X pins σ' (upd H1 ea (oo ea cls od)) { s1 with heap := h6 } := by
      refine J6.track hn ?_ ne0 (fun y c e z => ?_) (fun p hp z => ?_) (hoo ⟨oe, vs, e6, c6, d6, z6.1, z6.2⟩)
      · cases hz : X.s₀.heap.get? ea with
        | none => rfl
        | some o =>
          obtain ⟨o', q⟩ := I0.base.there ea o hz (show ea ∉ X.ex by rw [hexs]; simp)
          rw [new0] at q
          cases q
      · obtain ⟨v, o, ho, hd⟩ := J6.cell y c e
        rw [z, e6] at ho
        cases ho
        rw [d6] at hd
        cases hd
      · have q := (I0.pin p (List.mem_append_left _ hp)).1
        rw [z, new0] at q
        cases q
    have J8 : Inv { X with A := X.A.mark (some (.ref ea)), calm := false, pn := X.pn, xe := fun _ _ => False } pins (List.replicate X.N.length none) (upd H1 ea (oo ea cls od)) { s1 with heap := h6 } := by
      have z : Inv X pins (List.replicate X.N.length none) (upd H1 ea (oo ea cls od)) { s1 with heap := h6 } := J7.weak (by rw [List.length_replicate, J7.len]) fun j v e => by
        rw [List.getElem?_replicate] at e
        split at e <;> cases e
      exact z.recx hfm (fun z => nomatch z) fun p hp => hp
    refine store_ok (X := { X with A := X.A.mark (some (.ref ea)), calm := false, pn := X.pn, xe := fun _ _ => False }) (v := .ref ea) J8 hN hi (.inl hx) rfl (fun s9 J9 => ?_) (.inr hx)
    refine wpAny_mono (hh _ _ pins s9 _ _ _ J9 (hth ea hn)) (fun f s10 q => ?_) fun _ _ z => z.elim
    cases f with
    | next =>
      obtain ⟨σ2, H2, J10, q⟩ := q
      have J11 : Inv X pins σ2 H2 s10 := by
        have z := J10.recx (A' := X.A) (cm := X.calm) (pn' := X.pn) (pins' := pins) (xe' := X.xe) hfm.symm I.ok.hd fun p hp => hp
        exact z
      exact unname_ok J11 hN hi hx fun s12 J12 => ⟨_, H2, J12, q⟩
    | brk => obtain ⟨_, _, _, q⟩ := q; exact q.elim
    | cont => obtain ⟨_, _, _, q⟩ := q; exact q.elim
    | ret u => obtain ⟨_, _, _, _, _, q⟩ := q; exact q.elim
theorem ps_try {x n : Str} {i : Nat} {C : Addr} {body rest : List Stmt} {b0 : Stmt} {np hpos pos : Pos} {tb : XK → TS} {th : Addr → TS} (K : PySem.W.Frag) (hst : X.stack = X.env :: X.outer) (hf : X.env.frame = some X.env.locals) (hexs : X.ex = []) (hN : X.N.Nodup) (hi : X.N[i]? = some n)
    (hx : X.env.scope.names.lookup n = some .local) (hg : Gl X x) (hm : X.mg x = some (.ref C))
    (hb : ∀ E pn xe, Passes (CX1 X.prog X.w) { X with pn := pn, xe := xe } E → PSs { X with pn := pn, xe := xe } body (tb E))
    (hh : ∀ ea pn, PSs { X with A := X.A.mark (some (.ref ea)), calm := false, pn := pn, xe := fun _ _ => False } (b0 :: rest) (th ea)) (hK : X.K = K := by rfl) (hdb : (x == ("__debug__" : Str)) = false := by decide) :
    PS X (.Try body [.ExceptHandler (some (.Name x np)) (some n) (b0 :: rest) hpos] [] [] pos) (tTry K C i X.N.length tb th) := ps_tryG (fun ea cls _ => ExcO ea cls) (fun ⟨oe, vs, e, c, d, z, _⟩ => excO_ok ⟨oe, vs, e, c, d, z⟩) K hst hf hexs hN hi hx hg hm hb hh hK hdb
end
end L2

namespace L2
open PySem PySem.Spec PySem.Calls PyProof.Rows PySem.W PySem.Builtin PySem.Builtin.ObjectAttr PySem.Builtin.Getset_descriptor

structure ExcCls (K : Frag) (D : Addr) : Prop where
  ga : findIn K (.ref D) "__getattribute__" = some (some (.builtin "BaseException.__getattribute__"))
  gh : findIn K (.ref D) "__getattr__" = some none
  cl : findIn K (.ref D) "__class__" = some (some (.builtin "object.__class__"))
  gt : specialIn K (.builtin "object.__class__") "__get__" = some (some (.builtin "getset_descriptor.__get__"))
  tk : takesIn K (.builtin "object.__class__") = some true
  mr : mroIn K D (.type "object") = some true
  mb : mroIn K D (.type "BaseException") = some true
  is_ : (clsIn K D).isSome = true
def ExcAt (x : Addr) (D : Value) (h : Heap) : Prop := ∃ ox, h.get? x = some ox ∧ ox.cls = D
section
variable {K : Frag} {x D : Addr}
theorem ExcAt.ty {M : Model} {h : Heap} {V : Value} (q : ExcAt x V h) : Looks M h (typeOf (.ref x)) V := by
  obtain ⟨ox, e, c⟩ := q
  exact c ▸ (Looks.ld e).andThen .now
theorem looks_data {M : Model} {h : Heap} {C : Addr} {name : Str} {at_ g : Value} (X : K.In h) (ha : findIn K (.ref C) name = some (some at_)) (hg : specialIn K at_ "__get__" = some (some g)) (hd : takesIn K at_ = some true) :
    Looks M h (find (.ref x) (.ref C) name) (.bind g at_) := by
  refine (looks_findIn X ha).andThen (Looks.andThen (show Looks M h (getOf (some at_)) (some g) from looks_specialIn X hg) ?_)
  have L3 := looks_takesIn (M := M) X hd
  have L4 : Looks M h (dataDescriptor? (some at_) (some g)) (some (g, at_)) := L3.andThen .now
  exact L4.andThen (Looks.tag .now)
section
variable {prog : Program} {w : World} {A : Around} {E : Value → Shared → Prop} {s : Shared}
theorem check_bexc {M : Model} {nameV : Value} {Q : Unit → Shared → Prop} {hh : Heap} {gg : Array GenState} {dd : Drawn} {tt : Nat} {oo : OsState} (S : Looks M hh (isInstance (.ref x) (.type "BaseException")) true) (hq : Q () ⟨hh, gg, dd, tt, oo⟩) :
    wpAny M A (checkBuiltinCall "BaseException.__getattribute__" ⟨[.ref x, nameV], []⟩) Q E ⟨hh, gg, dd, tt, oo⟩ := by
  have hk : builtinKind "BaseException.__getattribute__" = some .slot := by decide +kernel
  have hsplit : splitId "BaseException.__getattribute__" = some ("BaseException", "__getattribute__") := by decide +kernel
  have ha := F.args_bexc_ga (.ref x) nameV
  simp only [checkBuiltinCall, hk, hsplit]
  refine wpAny_bind (S.at ?_)
  repeat (first | wp_step)
  exact hq
theorem exc_class {Q : Option Value → Shared → Prop} (C : ExcCls K D) (X : K.In s.heap) (q : ExcAt x (.ref D) s.heap) (h : Q (some (.ref D)) { s with toks := s.toks + 1 }) : wpAny (model prog w) A (getAttr? (.ref x) "__class__") Q E s := by
  obtain ⟨hh, gg, dd, tt, oo⟩ := s
  have L0 := q.ty (M := model prog w)
  have L1 := looks_findIn (M := model prog w) X C.ga
  have L2 := looks_data (M := model prog w) (x := x) X C.cl C.gt C.tk
  have L3 := looks_findIn (M := model prog w) X C.gh
  have L4 := looks_mroIn (M := model prog w) X C.mr
  have L5 := looks_mroIn (M := model prog w) X C.mb
  have S5 : Looks (model prog w) hh (isInstance (.ref x) (.type "BaseException")) true := L0.andThen L5
  unfold getAttr? getAttrBy? getAttrBy
  refine wpAny_bind (wpAny_mkText (wpAny_bind (wpAny_attempt (wpAny_holding (wpAny_bind (L0.at (wpAny_bind (L1.at ?_))))))))
  show wpAny _ _ (getAttrByItsOwn (.ref x) (.str "__class__" tt) (.ref D) (.builtin "BaseException.__getattribute__") false false) _ _ _
  unfold getAttrByItsOwn
  refine wpAny_bind (Looks.at (show Looks (model prog w) hh (hookBefore (.ref D)) none from L3) ?_)
  refine wpAny_bind (wpAny_attempt (wpAny_holding ?_))
  show wpAny _ _ (boundAndCalled _ _ _) _ _ _
  unfold boundAndCalled
  rw [F.attrBase_ValueError.ga.bind (.ref x)]
  refine wpAny_bind (wpAny_pure ?_)
  show wpAny _ _ (call (.builtin "BaseException.__getattribute__") [.ref x, .str "__class__" tt]) _ _ _
  refine wpAny_call (codeAny_call_builtin F.attrBase_ValueError.ga.plain F.entry_bexc_ga ?_)
  refine check_bexc S5 ?_
  refine wpAny_bind (wpAny_pure (wpAny_bind (wpAny_pure (wpAny_bind (L0.at (wpAny_bind (L2.at ?_)))))))
  show wpAny _ _ (holding [_] (call (.builtin "getset_descriptor.__get__") [.builtin "object.__class__", .ref x, .ref D]) >>= ret) _ _ _
  refine wpAny_bind (wpAny_holding (wpAny_call ?_))
  refine codeAny_call_builtin KF.slot_gs.plain KF.entry_gs (KF.slot_gs.check _ _ _ _ _ _ _ _ KF.type_class (KF.args_gs _ _ _) ?_)
  (unfold Builtin.«getset_descriptor.__get__» descrGet; rw [dga_obj])
  refine wpAny_bind (wpAny_pure ?_)
  (unfold descrGetter descrCheckInstance descrNameAndClass isInstance; simp only [KF.owner_class])
  repeat lk
  refine ⟨Code.quiet_builtin _ (by decide +kernel), codeAny_builtin KF.entry_class ?_⟩
  (unfold Builtin.«object.__class__» shownTypeOf)
  repeat lk
  exact h
end
theorem kitx_exc (C : ExcCls K D) : KitX K (.ref x) (.ref D) (ExcAt x (.ref D)) where
  ty := fun _ _ _ q => q.ty
  it := fun M h X _ => by
    have z := C.is_
    unfold clsIn at z
    split at z
    · rename_i ho
      intro A1 Q1 E1 s1 k q
      (unfold isType; unfold loadHead)
      exact wpAny_bind (wpAny_loadPart (k _ _ (X _ _ ho)) (wpAny_pure q))
    · cases z
  ne := fun h tp dd its n sl X htp => by
    have z := C.is_
    refine Bool.eq_false_iff.mpr fun q => ?_
    cases Value.ref.inj (beq_iff_eq.mp q)
    unfold clsIn at z
    split at z
    · rename_i ho
      cases (X _ _ ho).symm.trans htp
    · cases z
  ca := fun X q k => exc_class C X q k
end
def rIsiX (K : Frag) : List V → Hp → VK → Prop := fun xs H Q => ∃ x c D u b, xs = [.ref x, c] ∧ clsV c = some u ∧ H x = some (ExcO x (.ref D)) ∧ ExcCls K D ∧ kitOne K (.ref D) u = some b ∧ Q (.bl b) H
theorem isiX {X : Cx} (K : Frag) (hK : X.K = K := by rfl) : CallR X (.builtin "isinstance") (rIsiX K) := by
  subst hK
  intro pins s σ H xs us Q I r h
  obtain ⟨x, c, D, u, b, rfl, rc, ty, C, e, q⟩ := h
  cases r with
  | cons r1 r2 =>
    cases r2 with
    | cons r2 r3 =>
      cases r3
      cases clsV_of rc r2
      cases (show _ = Value.ref x from r1)
      obtain ⟨⟨oe, vs, e1, e2, _⟩, _⟩ := (show ObjOk X.prog X.w H s.heap x (ExcO x (.ref D)) from I.hok x _ ty)
      exact kia_one (kitx_exc C) I.kIn ⟨oe, e1, e2⟩ e (fun z => nomatch z) fun tk => ⟨.bl b, H, I.tok tk, rfl, q⟩
end L2

namespace L2
open PySem PySem.Spec PyProof.Rows
section
variable {X : Cx}
def rCatL (K : PySem.W.Frag) : R2 := fun x y H Q => ∃ l b xs zs, x = .ref l ∧ y = .ref b ∧ SqL K H l xs ∧ SqL K H b zs ∧ xs.length + zs.length ≤ sizeLine ∧ ∀ p, H p = none → Q (.ref p) (upd H p (.lst (xs ++ zs)))
theorem catL (K : PySem.W.Frag) (hK : X.K = K := by rfl) : OpR X (binaryOp .Add) (rCatL K) := by
  subst hK
  intro pins s σ H x y v u Q I rx ry h
  obtain ⟨l, b, xs, zs, rfl, rfl, hH, hB, hz, q⟩ := h
  cases rx
  cases ry
  obtain ⟨its, r, pl, _⟩ := I.list hH
  obtain ⟨its2, r2, pl2, _⟩ := I.list hB
  obtain ⟨⟨cls, dd, data, sl⟩, n, e, hc, _, hd⟩ := pl
  obtain ⟨⟨cls2, dd2, data2, sl2⟩, n2, e2, hc2, _, hd2⟩ := pl2
  simp only at hc hd hc2 hd2
  subst hc hd hc2 hd2
  have l1 := r.length
  have l2 := r2.length
  have ea : its.toArray ++ its2.toArray = (its ++ its2).toArray := by simp
  refine concat_meets ⟨_, e, rfl⟩ ⟨_, e2, rfl⟩ noFill_list_add seq_list_add PySem.F.slot_list_add PySem.F.entry_list_add (PySem.F.args_list_add_2 _ _)
    (list_addW l b its.toArray its2.toArray n n2 dd dd2 sl sl2 (by rw [List.size_toArray, List.size_toArray]; (first | lia | omega))) ⟨e, e2, ?_⟩
  rw [ea]
  exact ⟨.ref _, _, I.lnew (t' := s.toks) (r.append r2) (by rw [List.length_append]; (first | lia | omega)), rfl, q _ I.fresh⟩
end
section
variable {X : Cx} {tg : Expr}
theorem passN {P : Program} {w : World} {X : Cx} : Passes (CX1 P w) X (fun _ _ _ => False) := by
  intro pins σ H s e s' I q
  obtain ⟨_, _, _, _, _, _, _, _, _, _, _, _, _, _, _, z⟩ := q
  exact z.elim
end
theorem pe_cls {X : Cx} {x : Str} {C : Addr} {pos : Pos} (hg : Gl X x) (hm : X.mg x = some (.ref C)) (hd : (x == ("__debug__" : Str)) = false := by decide) : PE X (.Name x pos) (tC (.ref C)) := pe_glob hg hm rfl hd
theorem own_of {K : PySem.W.Frag} {h : Heap} {mg : Str → Option Value} {x : Str} {C : Addr} {bmB : List Value} {newId : String} (X : K.In h) (G : h.Ns mainGlobals mg) (e : PySem.W.nsIn K mainGlobals x = some (some (.ref C))) (q : PySem.W.excIn K C bmB newId = true) :
    OwnCls x C bmB newId mg h := by
  refine ⟨PySem.W.mg_of X G e, ?_⟩
  unfold PySem.W.excIn at q
  split at q
  · rename_i od cd sl look
    split at q
    · rename_i Cx bm j0 j1 j2 j3 nw j5 hmro hsl
      simp only [Bool.and_eq_true, beq_iff_eq, Bool.not_eq_true'] at q
      obtain ⟨⟨⟨⟨⟨rfl, rfl⟩, hdel⟩, ht⟩, hok⟩, hni⟩ := q
      obtain ⟨nm, bs, mro, ns, qn, hd, sn, sub, ab, col, del⟩ := cd
      (dsimp only at hmro hdel hok hni; subst hmro hdel)
      have hs2 : sl = #[j0, j1, j2, j3, some (.builtin nw), j5] := by
        obtain ⟨l⟩ := sl
        simp only at hsl
        rw [hsl]
      subst hs2
      exact ⟨bm, ns, nm, qn, bs, hd, sn, sub, ab, col, od, j0, j1, j2, j3, j5, _, X _ _ look, .of_isNs (PySem.W.isNs_of_in X hok), PySem.W.nsMap_none_of_in X hok hni, PySem.W.tail_of_in X ht⟩
    · cases q
  · cases q
end L2
namespace L2
theorem exc_is {K : PySem.W.Frag} {C : PySem.Addr} (h : PySem.W.hasDictIn K C = true) : (PySem.W.clsIn K C).isSome = true := by
  obtain ⟨cd, e, _⟩ := PySem.W.any_some h
  rw [e]
  rfl
end L2
namespace L2
theorem len1 {α : Type} : ∀ us : List α, us.length = 1 → ∃ a, us = [a]
  | [_], _ => ⟨_, rfl⟩
theorem len2 {α : Type} : ∀ us : List α, us.length = 2 → ∃ a b, us = [a, b]
  | [_, _], _ => ⟨_, _, rfl⟩
theorem len3 {α : Type} : ∀ us : List α, us.length = 3 → ∃ a b c, us = [a, b, c]
  | [_, _, _], _ => ⟨_, _, _, rfl⟩
end L2

namespace L2
open PySem PySem.Spec PyProof.Rows

structure RoomH (ea : Addr) (k : Nat) (A : Around) : Prop where
  hd : A.handled = some (.ref ea)
  dp : A.depth + 3 * k + 5 < recursionLimit
  un : A.units + 16 * k + 200 < cLine
theorem Room.mark {k : Nat} {A : Around} (r : Room k A) (ea : Addr) : RoomH ea k (A.mark (some (.ref ea))) := ⟨rfl, r.dp, r.un⟩
theorem RoomH.deeper {ea : Addr} {k : Nat} {A : Around} (r : RoomH ea (k + 1) A) (env : Env) : RoomH ea k (A.deeper env) :=
  ⟨r.hd, by have := r.dp; show A.depth + 1 + 3 * k + 5 < _; (first | lia | omega), by have := r.un; show A.units + 3 + 16 * k + 200 < _; (first | lia | omega)⟩
structure FnH (ea : Addr) (P : Program) (w : World) (K : PySem.W.Frag) (mg : Str → Option Value) (base : Heap) (k : Nat) (f : Addr) (fd : FuncData) (ps : List Str) (sp : Sp) : Prop where
  len : ∀ vs H Q E, sp vs H Q E → vs.length = ps.length
  run : ∀ (A : Around) (outer : List Env) (s : Shared) (H : Hp) (args : Args) (us : List Value) (vs : List V) (Q : VK) (E : XK), RoomH ea k A → Env0 P w K mg base A outer s H → BindsTo s fd args (ps.zip us) → Vals vs us → sp vs H Q E →
    codeAny (model P w) A (.call (.ref f) args) (CR CX0 outer P w H s Q E) s
def cxH (P : Program) (w : World) (K : PySem.W.Frag) (mg : Str → Option Value) (base : Heap) (N : List Str) (qual : Str) (scope : Scope) (f : Addr) (cd : Value) (A : Around) (outer : List Env) (s : Shared) (H : Hp) (E : XK) : Cx :=
  { cxOf CX0 P w K mg base N qual scope f cd { A with handled := none } outer s H E with A := A.deeper (envOfC qual scope s.heap.objs.size f cd), calm := false, xe := fun _ _ => False }
theorem fnH_of {ea : Addr} {P : Program} {w : World} {K : PySem.W.Frag} {mg : Str → Option Value} {base : Heap} {k : Nat} {f : Addr} {name qual : Str} {params : Arguments} {body : List Stmt} {scope : Scope} {dV kV doc pm cdv ct oc : Value} {an od : Option Addr}
    {osl : Array (Option Value)} {N ps : List Str} {sp : Sp} (lk : K.lookup f = some ⟨oc, od, .func (PySem.W.fnOf name qual params body scope dV kV doc pm an cdv ct), osl⟩) (hcd : PySem.W.codeIn K cdv qual = true) (S : FnScope N ps scope)
    (len : ∀ vs H Q E, sp vs H Q E → vs.length = ps.length)
    (hbody : ∀ (A : Around) (outer : List Env) (s : Shared) (H : Hp) (vs : List V) (Q : VK) (E : XK), RoomH ea k (A.deeper (envOfC qual scope s.heap.objs.size f cdv)) → sp vs H Q E →
      ∃ t, PSs (cxH P w K mg base N qual scope f cdv A outer s H E) body t ∧ t { nx := fun _ H' => Q .non H', rt := Q } (start N vs) H) :
    FnH ea P w K mg base (k + 1) f (PySem.W.fnOf name qual params body scope dV kV doc pm an cdv ct) ps sp := by
  refine ⟨len, fun A outer s H args us vs Q E hr e0 hb r hsp => ?_⟩
  have hl := len _ _ _ _ hsp
  have KX : K.In s.heap := e0.mod.kin.keeps fun b o e => (e0.bs b o e).1
  have lim : s.heap.NoLimit := e0.mod.nolimit.keeps fun b o e => (e0.bs b o e).1
  have hkind : ∀ y ∈ ps.zip us, scope.names.lookup y.1 = some .local ∨ (scope.names.lookup y.1 = some .cell ∧ ((cellsFrom (s.heap.objs.size + 1) scope.names []).lookup y.1).isSome = true) := fun ⟨n, v⟩ hy => by
    rcases S.par n (List.of_mem_zip hy).1 with q | q
    · exact .inl q
    · exact .inr ⟨q, PySem.W.cellsFrom_some _ _ _ (.inl q)⟩
  refine codeAny_call_function (by have := hr.dp; (first | lia | omega)) (KX _ _ lk) rfl S.co S.gen rfl (PySem.W.codeRec_of KX hcd) (hb _ _ _ _ ?_)
  refine wpAny_newFunctionEnv_cells S.kind hkind fun env he s1 x => ?_
  subst he
  refine ⟨lim.keeps x.toInCall.keep, codeAny_func ?_⟩
  obtain ⟨t, ht, hq⟩ := hbody A outer s H vs Q E (hr.deeper _) hsp
  have e1 : Env0 P w K mg base { A with handled := none } outer s H := ⟨e0.frames, e0.mod, e0.bs, e0.bsz, e0.funs, e0.frf, e0.hok, e0.bare⟩
  have I0 : Inv (cxOf CX0 P w K mg base N qual scope f cdv { A with handled := none } outer s H E) [] (start N vs) H s1 := inv_start S rfl e1 hl r x
  have I : Inv (cxH P w K mg base N qual scope f cdv A outer s H E) [] (start N vs) H s1 := by
    have z := I0.recx (A' := A.deeper (envOfC qual scope s.heap.objs.size f cdv)) (cm := false) (pn' := []) (pins' := []) (xe' := fun _ _ => False) rfl (fun z => nomatch z) fun p hp => hp
    exact z
  refine wpAny_mono (ht [] s1 (start N vs) H _ I hq) (fun fl s' hs => ?_) fun e s' hs => hs.elim
  have fin : ∀ {σ' : St} {H' : Hp} {v : V} {u : Value}, Inv (cxH P w K mg base N qual scope f cdv A outer s H E) [] σ' H' s' → RelV v u → Q v H' → CE outer P w H s Q u s' :=
    fun {σ' H' v u} J rv q => ⟨v, H', J.os, J.bare, J.base, J.hok, rv, q⟩
  cases fl with
  | ret u =>
    obtain ⟨v, σ', H', J, rv, q⟩ := hs
    exact fin J rv q
  | next =>
    obtain ⟨σ', H', J, q⟩ := hs
    exact fin (v := V.non) (u := Value.none) J rfl q
  | brk =>
    obtain ⟨_, _, _, q⟩ := hs
    exact False.elim q
  | cont =>
    obtain ⟨_, _, _, q⟩ := hs
    exact False.elim q
theorem Fun.okH {ea : Addr} {P : Program} {w : World} {K : PySem.W.Frag} {mg : Str → Option Value} {base : Heap} {x qual : Str} {st : Stmt} {f : Addr} {fd : FuncData} {N ps : List Str} {k : Nat} {sp : Sp} (F : Fun K x qual st f fd) (S : FnScope N ps (defScope st))
    (len : ∀ vs H Q E, sp vs H Q E → vs.length = ps.length)
    (hbody : ∀ (cdv : Value) (A : Around) (outer : List Env) (s : Shared) (H : Hp) (vs : List V) (Q : VK) (E : XK), RoomH ea k (A.deeper (envOfC qual (defScope st) s.heap.objs.size f cdv)) → sp vs H Q E →
      ∃ t, PSs (cxH P w K mg base N qual (defScope st) f cdv A outer s H E) (defBody st) t ∧ t { nx := fun _ H' => Q .non H', rt := Q } (start N vs) H) : FnH ea P w K mg base (k + 1) f fd ps sp := by
  obtain ⟨oc, od, kV, doc, pm, an, cdv, ct, osl, rfl, lk, hcd⟩ := F.ex
  exact fnH_of lk hcd S len fun A outer s H vs Q E hr hsp => hbody cdv A outer s H vs Q E hr hsp
section
variable {X : Cx} {ea : Addr} {k : Nat} {f : Addr} {fd : FuncData} {ps : List Str} {sp : Sp} {dvs : List V} {ds : List Value} {x : Str} {p pos : Pos} {e : Expr} {es : List Expr} {t : TA}
theorem pe_callH (F : FnH ea X.prog X.w X.K X.mg X.base k f fd ps sp) (hr : RoomH ea k X.A) (hg : Gl X x) (hm : X.mg x = some (.ref f)) (hk : PySem.W.keepIn X.K (.ref f) = true) (hb : Binds X.K fd ps ds) (hd : Vals dvs ds)
    (ha : PA X (e :: es) t) (hdb : (x == ("__debug__" : Str)) = false := by decide) (he : starEach (e :: es) X.env = (false, eval e X.env) :: starEach es X.env := by rfl) (hpl : (backTo pos (starEach es X.env)).any (·.1) = false := by rfl) :
    PE X (.Call (.Name x p) (e :: es) [] pos) (tCall sp dvs (fun _ _ _ => False) t) := by
  intro pins s σ H Q I h
  refine wpAny_Call_Name_kw (ld_glob I hg hm ?_ hdb)
  refine PySem.W.callWith_K (h₀ := X.base) I.ok.mod.kin hk (thn (ha pos pins s σ H _ I h) fun us s1 ⟨vs, H1, I1, r, q⟩ => ⟨I1.kIn, ?_⟩) he hpl
  have r2 : Vals (vs ++ dvs) (us ++ ds) := r.append hd
  have hl : (us ++ ds).length = ps.length := by rw [← r2.length]; exact F.len _ _ _ _ q
  refine wpAny_call (codeAny_mono (F.run X.A X.stack s1 H1 ⟨us, []⟩ (us ++ ds) (vs ++ dvs) Q _ hr I1.env0 (hb s1 us I1.kIn hl) r2 q) fun r s' hq => ?_)
  cases r with
  | error e => exact False.elim hq
  | ok fl =>
    cases fl with
    | ret u => exact I1.after hq
    | next => exact False.elim hq
    | brk => exact False.elim hq
    | cont => exact False.elim hq
end
section
variable {prog : Program} {w : World} {A : Around} {E : Value → Shared → Prop} {s : Shared}
theorem entry_unchain : entryFor table "proto.unchain" = some Builtin.«proto.unchain» := entryFor_of_fast (by kernel_rfl)
theorem raise_over {α : Type} {e ea : Addr} {oe : Obj} {vs : Array Value} {Q : α → Shared → Prop} (hh : A.handled = some (.ref ea)) (ne : ea ≠ e) (ge : s.heap.get? e = some oe) (de : oe.data = .fields vs) (hz : 2 < vs.size) (h2 : Sec ea s.heap)
    (q : E (.ref e) { s with heap := s.heap.update e (Obj.mapFields (·.setIfInBounds 2 (.ref ea))) }) : wpAny (model prog w) A (raiseNew (.ref e) : Sem α) Q E s := by
  obtain ⟨oh, hs, gh, dh, zh⟩ := h2
  rw [raiseNew]
  refine wpAny_bind (wpAny_handled ?_)
  rw [hh]
  dsimp only
  rw [if_pos (by simp [ne])]
  refine wpAny_bind (wpAny_holding (wpAny_runValue (codeAny_builtin entry_unchain ?_)))
  show wpAny _ _ (field (.ref ea) 2 >>= _) _ _ s
  refine wpAny_bind (wpAny_field gh dh zh ?_)
  refine wpAny_bind (wpAny_pure ?_)
  refine wpAny_pure ?_
  show wpAny _ _ (setField (.ref e) 2 (.ref ea) >>= fun _ => throw (.ref e)) _ _ s
  exact wpAny_bind (wpAny_setField (s := s) (x := .ref ea) ge de hz (wpAny_throw q))
theorem range_end_over {it ea : Addr} {x left step : Int} {Q : Option Value → Shared → Prop} (hh : A.handled = some (.ref ea)) (h2 : Sec ea s.heap) (hit : IsRangeIter s.heap it x left step) (hleft : left ≤ 0)
    (hQ : ∀ h', Heap.ExtBut it s.heap h' → Q none { s with heap := h' }) : wpAny (model prog w) A (pyNext (.ref it)) Q E s := by
  have hT : s.TypeIs (.ref it) "range_iterator" := ⟨_, hit, rfl⟩
  rw [pyNext]
  refine wpAny_bind (wpAny_attempt (wpAny_callSpecial?_slot (name := Str.ofString "__next__") hT F.slot_range_iterator_next (wpAny_call_entry F.slot_range_iterator_next hT F.entry_range_iterator_next ?_ (F.args_range_iterator_next_1 _))))
  show wpAny _ _ (field (.ref it) 0 >>= fun _ => _) _ _ s
  refine wpAny_bind (wpAny_field hit rfl (x := rawInt x) rfl ?_)
  show wpAny _ _ (field (.ref it) 1 >>= fun _ => _) _ _ s
  refine wpAny_bind (wpAny_field hit rfl (x := rawInt left) rfl ?_)
  show wpAny _ _ (field (.ref it) 2 >>= fun _ => _) _ _ s
  refine wpAny_bind (wpAny_field hit rfl (x := rawInt step) rfl ?_)
  show wpAny _ _ (if left ≤ 0 then _ else _) _ _ s
  rw [if_pos hleft]
  refine wpAny_bind (wpAny_rule (wpAny_bind ?_))
  show wpAny _ _ (newExc (.type "StopIteration") [] >>= fun _ => _) _ _ _
  refine wpAny_bind ?_
  simp only [newExc, newTuple]
  refine wpAny_bind (wpAny_newObj_type ?_ (by size_fits))
  refine wpAny_bind (m := firstArgMember _ _) (wpAny_of_eq (a := Value.none) (by first | rfl | (simp only [firstArgMember]; rfl)) (wpAny_newObj_type ?_ (by size_fits)))
  obtain ⟨oh, hs, gh, dh, zh⟩ := h2
  have lt := Heap.lt_size gh
  refine raise_over hh ?_ (Heap.get?_push_size _ rfl) rfl (by simp; (first | lia | omega)) ⟨oh, hs, Heap.get?_push_of_some _ (Heap.get?_push_of_some _ gh), dh, zh⟩ ?_
  · rw [Heap.size_push]
    exact Nat.ne_of_lt (Nat.lt_succ_of_lt lt)
  · have g0 := Heap.get?_push_size (s.heap.push { cls := .type "tuple", data := .seq #[] }) (o := { cls := .type "StopIteration", data := .fields (#[.ref s.heap.objs.size, .none, .none, .none, .bool false, .none] ++ ownMembersOf (.type "StopIteration") []) }) rfl
    have g1 := Heap.get?_update_self (Obj.mapFields (·.setIfInBounds 2 (.ref ea))) g0 (Obj.isFreed_of_fields (Obj.data_mapFields rfl _))
    refine wpAny_bind (wpAny_isInstance (T := "StopIteration") (b := true) ⟨_, g1, Obj.cls_mapFields _ _⟩ isSubtype_stop ?_)
    refine wpAny_pure (hQ _ fun b o hb g => ?_)
    have nb : (s.heap.push { cls := .type "tuple", data := .seq #[] }).objs.size ≠ b := by
      rw [Heap.size_push]
      exact Nat.ne_of_gt (Nat.lt_succ_of_lt (Heap.lt_size g))
    exact (Heap.get?_update_other _ _ nb).trans (Heap.get?_push_of_some _ (Heap.get?_push_of_some _ g))
end
def ItrH (ea : Addr) (C : Value) (lo : Int) (n : Nat) : It := ⟨(Itr lo n).go, (Itr lo n).yld, fun i H => (Itr lo n).stop i H ∧ H ea = some (ExcO ea C)⟩
theorem turn_rangeH {A : Around} {P : Program} {w : World} {K : PySem.W.Frag} {tg : Expr} {ea : Addr} {C : Value} (hh : A.handled = some (.ref ea)) (it : Addr) (lo : Int) (n : Nat) :
    TurnX A false P w K tg (ItrH ea C lo n) [it] it (fun i h => IsRangeIter h it (lo + (i : Int) * 1) ((n : Int) - (i : Int)) 1) := by
  have T0 := turn_range (P := P) (w := w) (K := K) (tg := tg) it lo n
  refine ⟨T0.mem, T0.obj, T0.keep, ?_, ?_, T0.self⟩
  · intro X hP hw hK hA hc i pins s σ H E I hf st hg
    subst hP hw hK
    obtain ⟨f0, f1, f2, f3, f4, f5⟩ := hf it (by simp)
    have hg' : i < n := hg
    refine wpAny_pyNext_range_item st (by (first | lia | omega)) fun h' st' sb => ?_
    have I1 : Inv X pins σ H { s with heap := h', toks := s.toks + 1 } := I.turned (fun b o hb e => (sb.2 b hb).trans e) f0 f1 f3 f4 f5
    have st2 : IsRangeIter h' it (lo + ((i + 1 : Nat) : Int) * 1) ((n : Int) - ((i + 1 : Nat) : Int)) 1 := by
      rw [show lo + ((i + 1 : Nat) : Int) * 1 = lo + (i : Int) * 1 + 1 by (first | lia | omega), show (n : Int) - ((i + 1 : Nat) : Int) = (n : Int) - (i : Int) - 1 by (first | lia | omega)]
      exact st'
    refine ⟨_, rfl, go_of (s := { s with heap := h', toks := s.toks + 1 }) (n := "range_iterator") st2 rfl rfl (by decide) ⟨.int (lo + i), H, I1, ⟨s.toks, ?_⟩, ⟨rfl, rfl⟩, st2, fun b hb => (hf b hb).1⟩⟩
    rw [Int.mul_one]
  · intro X hP hw hK hA hc i pins s σ H E I hf st hg
    subst hP hw hK hA
    obtain ⟨f0, f1, f2, f3, f4, f5⟩ := hf it (by simp)
    obtain ⟨hg, he⟩ := hg
    obtain ⟨⟨oe, vs, e1, _, e3, e4⟩, _⟩ := (show ObjOk X.prog X.w H s.heap ea (ExcO ea C) from I.hok ea _ he)
    exact range_end_over hh ⟨oe, vs, e1, e3, e4⟩ st (by have : n ≤ i := hg; (first | lia | omega)) fun h' eb => ⟨rfl, I.turned (t' := s.toks) (fun b o hb e => eb b o hb e) f0 f1 f3 f4 f5⟩
def iRngH (ea : Addr) (C : Value) (ta : TA) : TI := fun σ H R => ta σ H fun vs H1 => ∃ j : Int, vs = [.int j] ∧ -(2 ^ 62) ≤ j ∧ j < 2 ^ 62 ∧ R (ItrH ea C 0 j.toNat) H1
theorem pi_rangeH {X : Cx} {tg : Expr} {ea : Addr} {C : Value} {a : Expr} {ta : TA} {p pos : Pos} (hh : X.A.handled = some (.ref ea)) (hc : X.calm = false) (hg : Gl X "range") (hm : X.mg "range" = none) (ha : PA X [a] ta) (hs : starEach [a] X.env = [(false, eval a X.env)] := by rfl) :
    PIX X tg (.Call (.Name "range" p) [a] [] pos) (iRngH ea C ta) := by
  intro pins s σ H R I h
  refine Call_ (ld_blt I hg hm boot_range (PyProof.Rows.callWith_type1 (thn (ha pos pins s σ H _ I h) fun us s1 ⟨vs, H1, I1, r1, q1⟩ => ?_) hs rfl))
  obtain ⟨j, e, q1, q2, q⟩ := q1
  subst e
  cases r1 with
  | cons r rr =>
    cases rr
    obtain ⟨t, rfl⟩ := r
    refine call_range_1 ?_
    refine wpAny_pyIter_range (IsRange.new ..) (small_one (by (first | lia | omega)) (by (first | lia | omega)) q1 q2) ?_
    generalize hr : ({ cls := .type "range", data := .fields #[.int 0 _, .int j t, .int 1 _] } : Obj) = ro
    have I2 : Inv X pins σ H1 { s1 with heap := s1.heap.push ro, toks := s1.toks + 1 + 1 } := I1.kept fun b o e => Heap.get?_push_of_some _ e
    refine ⟨(s1.heap.push ro).objs.size, [(s1.heap.push ro).objs.size], _, _, H1, rfl, I2.kept (t' := s1.toks + 1 + 1) fun b o e => Heap.get?_push_of_some _ e, hc.symm ▸ turn_rangeH (C := C) hh _ 0 j.toNat, ?_, fun b hb => ?_, q⟩
    · have e1 : (0 : Int) + ((0 : Nat) : Int) * 1 = 0 := by simp
      have e2 : ((j.toNat : Nat) : Int) - ((0 : Nat) : Int) = Builtin.Range.rangeSize 0 j 1 := by rw [rangeSize_one]; split <;> (first | lia | omega)
      show IsRangeIter _ _ (0 + ((0 : Nat) : Int) * 1) (((j.toNat : Nat) : Int) - ((0 : Nat) : Int)) 1
      rw [e1, e2]
      exact Heap.get?_push_size _ rfl
    · have e : b = (s1.heap.push ro).objs.size := by simpa using hb
      subst e
      exact I2.fpOk (Nat.le_refl _) (I2.hok.fresh (Nat.le_refl _))
theorem comp_rangeH {ea : Addr} {C : Value} {m n : Nat} {g : TG} {tt : TT} {te : TE} {fr : St} {D : Addr} {Q : Hp → Prop} {H1 : Hp} {lo : Int} (Pv : Nat → List V → Hp → Prop) (h0 : Pv 0 [] H1) (hl : ∀ i acc H, i ≤ m → Pv i acc H → H D = some (.lst acc) ∧ acc.length ≤ i) (hz : m ≤ sizeLine)
    (hs : ∀ i acc H, i < m → Pv i acc H → g (.int (lo + i)) (List.replicate n none ++ fr) H fun σ2 H2 => σ2.drop n = fr ∧ tt σ2 H2 fun b H3 =>
      if b = true then te σ2 H3 fun v H4 => H4 D = some (.lst acc) ∧ Pv (i + 1) (acc ++ [v]) (upd H4 D (.lst (acc ++ [v]))) else Pv (i + 1) acc H3)
    (hd : ∀ acc H, Pv m acc H → H ea = some (ExcO ea C) ∧ Q H) : CompLoop (ItrH ea C lo m) g tt te n fr D Q H1 := by
  refine ⟨fun i k acc H => k = m - i ∧ i ≤ m ∧ Pv i acc H, ⟨m, by simp, Nat.zero_le _, h0⟩, ?_⟩
  rintro i k acc H ⟨rfl, hi, p⟩
  obtain ⟨hD, ha⟩ := hl i acc H hi p
  refine ⟨hD, ?_⟩
  by_cases hlt : i < m
  · refine .inr ⟨hlt, by (first | lia | omega), Pv (i + 1), fun acc' H' p' => ⟨m - (i + 1), by (first | lia | omega), rfl, hlt, p'⟩, fun x H' y => ?_⟩
    obtain ⟨e, y⟩ := y
    subst e y
    exact hs i acc _ hlt p
  · have e : i = m := by (first | lia | omega)
    subst e
    obtain ⟨h1, h2⟩ := hd acc H p
    exact .inl ⟨⟨Nat.le_refl _, h1⟩, h2⟩
end L2

namespace L2
open PySem PySem.Spec PyProof.Rows
section
variable {X : Cx} {pins : List (Addr × Obj)} {σ : St} {H : Hp} {s : Shared} {h' : Heap}
theorem Inv.yields {t' : Nat} {wr : List Addr} {T : Addr} {o : HO} (I : Inv X pins σ H s) (k : ∀ b u, b ∉ wr → s.heap.get? b = some u → h'.get? b = some u) (hf : ∀ b ∈ wr, FpOk X pins H b) (hT : s.heap.objs.size ≤ T)
    (new : ObjOk X.prog X.w (upd H T o) h' T o) : Inv X pins σ (upd H T o) { s with heap := h', toks := t' } := by
  have hTn : H T = none := I.hok.fresh hT
  have nT : ∀ b u, H b = some u → b ≠ T := fun b u e => ne_of_none e hTn
  have nw : ∀ b u, H b = some u → b ∉ wr := fun b u e hb => by rw [(hf b hb).1] at e; cases e
  refine I.step (g' := s.gens) (d' := s.drawn) (ch := wr) (fun b hb => ?_) (fun b o _ _ hc e _ => k b o hc e) (fun b o _ _ hc e _ => ⟨o.slots, k b o hc e⟩) (fun b u hc e n => ?_)
    (fun b o hc e => ⟨o, k b o hc e⟩) (fun b xs e => ?_) (fun b ob xs e => ?_) (fun b ps e => ⟨#[], ?_⟩) (fun m hm => ?_) (fun b u e => ?_) I.bare
  · obtain ⟨_, f1, _, f3, f4, f5⟩ := hf b hb
    exact ⟨f3, f1, f4, f5⟩
  · rw [upd_ne (Nat.ne_of_lt (Nat.lt_of_lt_of_le (Heap.lt_size e) hT))]; exact n
  · rw [upd_ne (nT b _ e)]; exact e
  · rw [upd_ne (nT b _ e)]; exact e
  · rw [upd_ne (nT b _ e), e]; simp
  · obtain ⟨o, es, ep, ho, r⟩ := hm
    exact ⟨o, es, ep, k _ o (fun hb => (hf _ hb).2.1 rfl) ho, r⟩
  · by_cases hb : b = T
    · subst hb; rw [upd_same] at e; cases e; exact new
    · rw [upd_ne hb] at e
      refine (I.hok b u e).stay (fun c v hc q => k c v ?_ q) (fun c q => by rw [upd_ne (nT c _ q)]; exact q) fun c xs q => by rw [upd_ne (nT c _ q)]; exact q
      rcases hc with z | z
      · rw [z]; exact nw b u e
      · exact nw c _ z
theorem Inv.turnedL {t' : Nat} {wr : List Addr} (I : Inv X pins σ H s) (k : ∀ b u, b ∉ wr → s.heap.get? b = some u → h'.get? b = some u) (hf : ∀ b ∈ wr, FpOk X pins H b) : Inv X pins σ H { s with heap := h', toks := t' } := by
  have nw : ∀ b u, H b = some u → b ∉ wr := fun b u e hb => by rw [(hf b hb).1] at e; cases e
  refine I.step (g' := s.gens) (d' := s.drawn) (ch := wr) (fun b hb => ?_) (fun b o _ _ hc e _ => k b o hc e) (fun b o _ _ hc e _ => ⟨o.slots, k b o hc e⟩) (fun _ _ _ _ n => n)
    (fun b o hc e => ⟨o, k b o hc e⟩) (fun _ _ e => e) (fun _ _ _ e => e) (fun b ps e => ⟨#[], by rw [e]; simp⟩) (fun m hm => ?_) (fun b u e => ?_) I.bare
  · obtain ⟨_, f1, _, f3, f4, f5⟩ := hf b hb
    exact ⟨f3, f1, f4, f5⟩
  · obtain ⟨o, es, ep, ho, r⟩ := hm
    exact ⟨o, es, ep, k _ o (fun hb => (hf _ hb).2.1 rfl) ho, r⟩
  · refine (I.hok b u e).stay (fun c v hc q => k c v ?_ q) (fun _ q => q) fun _ _ q => q
    rcases hc with z | z
    · rw [z]; exact nw b u e
    · exact nw c _ z
end
def Itz (K : PySem.W.Frag) (a b : Addr) : It :=
  ⟨fun i H => ∃ xs ys x y, SqL K H a xs ∧ SqL K H b ys ∧ xs[i]? = some x ∧ ys[i]? = some y,
   fun i H v H' => ∃ T x y, v = .ref T ∧ H T = none ∧ H' = upd H T (.tup [x, y]) ∧ (∀ xs, SqL K H a xs → xs[i]? = some x) ∧ ∀ ys, SqL K H b ys → ys[i]? = some y,
   fun i H => ∃ xs ys, SqL K H a xs ∧ SqL K H b ys ∧ (xs.length ≤ i ∨ ys.length ≤ i)⟩
theorem turn_zip {P : Program} {w : World} {K : PySem.W.Frag} {elts : List Expr} {k : Nat} {pos : Pos} (a b z TI TO i1 i2 : Addr) (D : ZipApart z TI TO i1 i2 a b) :
    Turn P w K (.Tuple elts k pos) (Itz K a b) [z, TI, TO, i1, i2] z (fun i h => IsZip h z TI TO .none ∧ IsPair h TI (.ref i1) (.ref i2) ∧ (∃ u v, IsPair h TO u v) ∧ h.IsListIter i1 a i ∧ h.IsListIter i2 b i) where
  mem := by simp
  obj := fun i h st c hc => by
    obtain ⟨hz, hI, ⟨u, v, hO⟩, ⟨o1, ho1, _, d1⟩, o2, ho2, _, d2⟩ := st
    have hc' : c = z ∨ c = TI ∨ c = TO ∨ c = i1 ∨ c = i2 := by simpa using hc
    rcases hc' with rfl | rfl | rfl | rfl | rfl
    · exact ⟨_, hz, fun v z => by cases z⟩
    · exact ⟨_, hI, fun v z => by cases z⟩
    · exact ⟨_, hO, fun v z => by cases z⟩
    · exact ⟨o1, ho1, fun v z => by rw [d1] at z; cases z⟩
    · exact ⟨o2, ho2, fun v z => by rw [d2] at z; cases z⟩
  keep := fun i h h' st k => by
    obtain ⟨hz, hI, ⟨u, v, hO⟩, h1, h2⟩ := st
    exact ⟨k z (by simp) _ hz, k TI (by simp) _ hI, ⟨u, v, k TO (by simp) _ hO⟩, h1.at fun o e => k i1 (by simp) o e, h2.at fun o e => k i2 (by simp) o e⟩
  item := by
    intro X hP hw hK hc i pins s σ H E I hf st hg
    subst hP hw hK
    obtain ⟨xs, ys, x, y, hq, hq2, hx, hy⟩ := hg
    obtain ⟨its, rv, p, hzl⟩ := I.list hq
    obtain ⟨its2, rv2, p2, hzl2⟩ := I.list hq2
    obtain ⟨u, hu, ru⟩ := rv.get hx
    obtain ⟨u2, hu2, ru2⟩ := rv2.get hy
    obtain ⟨hz, hI, ⟨v1, v2, hO⟩, h1, h2⟩ := st
    refine wpAny_pyNext_zip_item D hz hI hO h1 h2 p.isList p2.isList (x := u) (y := u2) (by simpa using hu) (by simpa using hu2) fun h3 hz3 hO3 h13 h23 hT hsz hk => ?_
    refine ⟨_, rfl, wpAny_letOwnedTupleGo_zip hz3 fun h4 hz4 hs4 => ?_⟩
    have lt : ∀ {c o}, s.heap.get? c = some o → s.heap.objs.size ≠ c := fun e => Nat.ne_of_gt (Heap.lt_size e)
    have hT4 : h4.get? s.heap.objs.size = some { cls := .type "tuple", data := .seq #[u, u2] } := (hs4.2 _ (lt hz)).trans hT
    have kk : ∀ c o, c ∉ [z, TO, i1, i2] → s.heap.get? c = some o → h4.get? c = some o := fun c o hc q => by
      have c1 : c ≠ z := fun e => hc (by simp [e])
      exact (hs4.2 c c1).trans (hk c o c1 (fun e => hc (by simp [e])) (fun e => hc (by simp [e])) (fun e => hc (by simp [e])) q)
    have hsub : ∀ c ∈ [z, TO, i1, i2], c ∈ [z, TI, TO, i1, i2] := fun c hc => by
      have hc' : c = z ∨ c = TO ∨ c = i1 ∨ c = i2 := by simpa using hc
      rcases hc' with rfl | rfl | rfl | rfl <;> simp
    refine ⟨.ref s.heap.objs.size, upd H s.heap.objs.size (.tup [x, y]), I.yields (wr := [z, TO, i1, i2]) (t' := s.toks) kk (fun c hc => hf c (hsub c hc)) (Nat.le_refl _) ?_, rfl,
      ⟨_, x, y, rfl, I.fresh, rfl, fun zs hy => by rw [I.list_inj hy hq]; exact hx, fun zs hz => by rw [I.list_inj hz hq2]; exact hy⟩, ⟨hz4, (hs4.2 _ D.TIz).trans (hk _ _ D.TIz D.TITO D.TIi1 D.TIi2 hI), ⟨u, u2, (hs4.2 _ D.TOz).trans hO3⟩, ?_, ?_⟩, fun c hc => ?_⟩
    · exact ⟨dl rfl, [u, u2], .cons ru (.cons ru2 .nil), ⟨_, hT4, rfl, _, rfl⟩⟩
    · exact h13.at fun o q => (hs4.2 _ D.i1z).trans q
    · exact h23.at fun o q => (hs4.2 _ D.i2z).trans q
    · rw [upd_ne]
      · exact (hf c hc).1
      · have hc' : c = z ∨ c = TI ∨ c = TO ∨ c = i1 ∨ c = i2 := by simpa using hc
        rcases hc' with rfl | rfl | rfl | rfl | rfl
        · exact Ne.symm (lt hz)
        · exact Ne.symm (lt hI)
        · exact Ne.symm (lt hO)
        · obtain ⟨o, q, _⟩ := h1
          exact Ne.symm (lt q)
        · obtain ⟨o, q, _⟩ := h2
          exact Ne.symm (lt q)
  done := by
    intro X hP hw hK hc i pins s σ H E I hf st hg
    subst hP hw hK
    obtain ⟨xs, ys, hq, hq2, hx⟩ := hg
    obtain ⟨its, rv, p, hzl⟩ := I.list hq
    obtain ⟨its2, rv2, p2, hzl2⟩ := I.list hq2
    obtain ⟨hz, hI, ⟨v1, v2, hO⟩, h1, h2⟩ := st
    have hl := rv.length
    have hl2 := rv2.length
    have hsub : ∀ c ∈ [z, TO, i1, i2], c ∈ [z, TI, TO, i1, i2] := fun c hc => by
      have hc' : c = z ∨ c = TO ∨ c = i1 ∨ c = i2 := by simpa using hc
      rcases hc' with rfl | rfl | rfl | rfl <;> simp
    refine wpAny_pyNext_zip_end (I.ok.hd hc) D hz hI hO h1 h2 p.isList p2.isList (hx.imp (fun q => by simp; (first | lia | omega)) fun q => by simp; (first | lia | omega)) fun h' kk => ⟨rfl, I.turnedL (wr := [z, TO, i1, i2]) (t' := s.toks) (fun c o hc q => ?_) fun c hc => hf c (hsub c hc)⟩
    exact kk c o (fun e => hc (by simp [e])) (fun e => hc (by simp [e])) (fun e => hc (by simp [e])) (fun e => hc (by simp [e])) q
  self := fun _ _ _ _ _ st h => wpAny_pyIter_zip st.1 h
theorem zip_apart {n a b : Nat} (la : a < n) (lb : b < n) : ZipApart (n + 4) (n + 2) (n + 3) n (n + 1) a b := by
  have k : ∀ {x y : Nat}, x < y ∨ y < x → x ≠ y := fun h => by (first | lia | omega)
  constructor <;> exact k (by (first | lia | omega))
section
variable {X : Cx} {elts : List Expr} {n : Nat} {tp : Pos}
def iZip (K : PySem.W.Frag) (ta : TA) : TI := fun σ H R => ta σ H fun vs H1 => ∃ a b, vs = [.ref a, .ref b] ∧ (∃ xs, SqL K H1 a xs) ∧ (∃ ys, SqL K H1 b ys) ∧ R (Itz K a b) H1
theorem pi_zip (K : PySem.W.Frag) {a b : Expr} {ta : TA} {p pos : Pos} (hg : Gl X "zip") (hm : X.mg "zip" = none) (ha : PA X [a, b] ta) (hs : starEach [a, b] X.env = [(false, eval a X.env), (false, eval b X.env)] := by rfl) (hs2 : starEach [b] X.env = [(false, eval b X.env)] := by rfl) (hK : X.K = K := by rfl) :
    PI X (.Tuple elts n tp) (.Call (.Name "zip" p) [a, b] [] pos) (iZip K ta) := by
  subst hK
  intro pins s σ H R I h
  refine Call_ (ld_blt I hg hm boot_zip (PyProof.Rows.callWith_type1 (thn (ha pos pins s σ H _ I h) fun us s1 ⟨vs, H1, I1, r1, q1⟩ => ?_) (by rw [hs, hs2]) (by rw [hs2]; rfl)))
  obtain ⟨a, b, e, ⟨xs, hq⟩, ⟨ys, hq2⟩, q⟩ := q1
  subst e
  cases r1 with
  | cons r rr =>
    cases rr with
    | cons r' rr =>
      cases rr
      cases r
      cases r'
      obtain ⟨its, rv, pl, hz⟩ := I1.list hq
      obtain ⟨its2, rv2, pl2, hz2⟩ := I1.list hq2
      refine call_zip_2 pl.isList pl2.isList fun h' hzz hI hO h1 h2 hsz hk => ?_
      have I2 : Inv X pins σ H1 { s1 with heap := h' } := I1.kept (t' := s1.toks) hk
      have la : a < s1.heap.objs.size := by obtain ⟨_, q, _⟩ := pl.isList; exact Heap.lt_size q
      have lb : b < s1.heap.objs.size := by obtain ⟨_, q, _⟩ := pl2.isList; exact Heap.lt_size q
      refine wpAny_pyIter_zip hzz ⟨_, [s1.heap.objs.size + 4, s1.heap.objs.size + 2, s1.heap.objs.size + 3, s1.heap.objs.size, s1.heap.objs.size + 1], _, _, H1, rfl, I2,
        turn_zip a b _ _ _ _ _ (zip_apart la lb), ⟨hzz, hI, ⟨_, _, hO⟩, h1, h2⟩, fun c hc => ?_, q⟩
      have hc' : c = s1.heap.objs.size + 4 ∨ c = s1.heap.objs.size + 2 ∨ c = s1.heap.objs.size + 3 ∨ c = s1.heap.objs.size ∨ c = s1.heap.objs.size + 1 := by simpa using hc
      have hcs : s1.heap.objs.size ≤ c := by
        rcases hc' with rfl | rfl | rfl | rfl | rfl
        · exact Nat.le_add_right _ _
        · exact Nat.le_add_right _ _
        · exact Nat.le_add_right _ _
        · exact Nat.le_refl _
        · exact Nat.le_add_right _ _
      exact I1.fpOk hcs (I1.hok.fresh hcs)
end
section
variable {K : PySem.W.Frag} {a b : Addr} {xs ys : List V} {g : TG} {tt : TT} {te : TE} {n : Nat} {fr : St} {D : Addr} {Q : Hp → Prop} {H1 : Hp}
theorem comp_zip (hxy : xs.length = ys.length) (Pv : Nat → List V → Hp → Prop) (h0 : Pv 0 [] H1) (hl : ∀ i acc H, i ≤ xs.length → Pv i acc H → SqL K H a xs ∧ SqL K H b ys ∧ H D = some (.lst acc) ∧ acc.length ≤ i) (hz : xs.length ≤ sizeLine)
    (hs : ∀ i x y T acc H, xs[i]? = some x → ys[i]? = some y → Pv i acc H → H T = none → g (.ref T) (List.replicate n none ++ fr) (upd H T (.tup [x, y])) fun σ2 H2 => σ2.drop n = fr ∧ tt σ2 H2 fun b H3 =>
      if b = true then te σ2 H3 fun v H4 => H4 D = some (.lst acc) ∧ Pv (i + 1) (acc ++ [v]) (upd H4 D (.lst (acc ++ [v]))) else Pv (i + 1) acc H3)
    (hd : ∀ acc H, Pv xs.length acc H → Q H) : CompLoop (Itz K a b) g tt te n fr D Q H1 := by
  refine ⟨fun i m acc H => m = xs.length - i ∧ i ≤ xs.length ∧ Pv i acc H, ⟨xs.length, by simp, Nat.zero_le _, h0⟩, ?_⟩
  rintro i m acc H ⟨rfl, hi, p⟩
  obtain ⟨q, q2, hD, ha⟩ := hl i acc H hi p
  refine ⟨hD, ?_⟩
  by_cases hlt : i < xs.length
  · have hlt2 : i < ys.length := by (first | lia | omega)
    refine .inr ⟨⟨xs, ys, xs[i], ys[i], q, q2, by simp [hlt], by simp [hlt2]⟩, by (first | lia | omega), Pv (i + 1), fun acc' H' p' => ⟨xs.length - (i + 1), by (first | lia | omega), rfl, hlt, p'⟩, fun v H' y => ?_⟩
    obtain ⟨T, x, z, rfl, hT, rfl, y1, y2⟩ := y
    exact hs i x z T acc _ (y1 xs q) (y2 ys q2) p hT
  · have e : i = xs.length := by (first | lia | omega)
    subst e
    exact .inl ⟨⟨xs, ys, q, q2, .inl (Nat.le_refl _)⟩, hd acc H p⟩
end
end L2

namespace L2
open PySem PySem.Spec PyProof.Rows
section
variable {X : Cx}
theorem call_rng : CallR X (.type "range") (fun xs H Q => ∃ j : Int, xs = [.int j] ∧ ∀ p, H p = none → Q (.ref p) (upd H p (.rng 0 j))) := by
  intro pins s σ H xs us Q I r h
  obtain ⟨j, rfl, q⟩ := h
  obtain ⟨u, rfl, t, rfl⟩ := vals1 r
  refine call_range_1 ⟨.ref s.heap.objs.size, _, I.laid (t' := s.toks + 1 + 1) (fun b o e => Heap.get?_push_of_some _ e) (Nat.le_refl _) ?_, rfl, q _ I.fresh⟩
  exact ⟨_, _, _, Heap.get?_push_size _ rfl⟩
def rngV (n : Nat) : List V := (List.range n).map fun i => V.int ((i : Nat) : Int)
theorem listR (hc : X.calm = true) : CallR X (.type "list") (fun xs H Q => ∃ p, ∃ n : Nat, xs = [.ref p] ∧ H p = some (.rng 0 (n : Int)) ∧ n ≤ 900 ∧ ∀ l, H l = none → Q (.ref l) (upd H l (.lst (rngV n)))) := by
  intro pins s σ H xs us Q I r h
  obtain ⟨p, n, rfl, hp, hn, q⟩ := h
  obtain ⟨u, rfl, rx⟩ := vals1 r
  cases rx
  obtain ⟨t, u, v, e⟩ := (show ObjOk X.prog X.w H s.heap p (.rng 0 (n : Int)) from I.hok p _ hp)
  have hsz : Builtin.Range.rangeSize 0 (n : Int) 1 = (n : Int) := by rw [rangeSize_one]; split <;> (first | lia | omega)
  refine call_list_range (I.ok.hd hc) e (small_one (by (first | lia | omega)) (by (first | lia | omega)) (by (first | lia | omega)) (by (first | lia | omega))) hsz (Nat.le_trans hn (by decide)) fun h' tk acc c kp e' hacc => ?_
  refine ⟨.ref s.heap.objs.size, _, I.laid (t' := tk) kp (Nat.le_refl _) ?_, rfl, q _ I.fresh⟩
  have hl : acc.toList.length = n := by rw [Array.length_toList]; exact hacc.1
  have hz : (rngV n).length ≤ sizeLine := by
    unfold rngV
    rw [List.length_map, List.length_range]
    exact Nat.le_of_lt (small1000 (by (first | lia | omega)))
  refine ⟨hz, acc.toList, c, ?_, by simpa using e'⟩
  have key : ∀ (ys : List Value) (k : Nat), (∀ j v, ys[j]? = some v → ∃ t, v = Value.int (((k + j : Nat)) : Int) t) → Vals ((List.range' k ys.length).map fun i => V.int ((i : Nat) : Int)) ys := by
    intro ys
    induction ys with
    | nil => intro k _; exact .nil
    | cons y r ih =>
      intro k hy
      obtain ⟨t, ht⟩ := hy 0 y rfl
      refine .cons ⟨t, by simpa using ht⟩ (ih (k + 1) fun j v hv => ?_)
      obtain ⟨t', ht'⟩ := hy (j + 1) v (by simpa using hv)
      exact ⟨t', by rw [ht']; congr 2; (first | lia | omega)⟩
  have z := key acc.toList 0 fun j v hv => by
    obtain ⟨t, ht⟩ := hacc.2 j v (by simpa using hv)
    exact ⟨t, by rw [ht]; congr 1; (first | lia | omega)⟩
  rw [hl] at z
  unfold rngV
  rw [List.range_eq_range']
  exact z
end
end L2

namespace L2
open PySem PySem.Spec PyProof.Rows
theorem valsInts : ∀ {us : List Value} {ns : List Int}, IntsAre us ns → Vals (ns.map V.int) us
  | _, _, .nil => .nil
  | _, _, .cons n t r => .cons ⟨t, rfl⟩ (valsInts r)
section
variable {X : Cx}
theorem sortedK (K : PySem.W.Frag) (hK : X.K = K := by rfl) : CallR X (.builtin "sorted") (fun xs H Q => ∃ (p : Addr) (ns : List Int), xs = [.ref p] ∧ SqL K H p (ns.map V.int) ∧ ns.length < 64 ∧
    ∀ (l : Addr) (ns' : List Int), H l = none → ns'.Perm ns → ns'.Pairwise (· ≤ ·) → Q (.ref l) (upd H l (.lst (ns'.map V.int)))) := by
  subst hK
  intro pins s σ H xs us Q I r h
  obtain ⟨p, ns, rfl, hq, hn, q⟩ := h
  obtain ⟨u, rfl, rx⟩ := vals1 r
  cases rx
  obtain ⟨its, rv, pl, hz⟩ := I.list hq
  have hl := rv.length
  rw [List.length_map] at hl
  refine PyProof.Rows.sorted_ints pl.isList (intsAre_of rv) (by (first | lia | omega)) fun out ns' a1 a2 a3 => ?_
  obtain ⟨e, he⟩ := sortedAll_at s.heap its out
  have hfr : H (s.heap.objs.size + 1) = none := I.hok.fresh (Nat.le_succ _)
  refine ⟨.ref (s.heap.objs.size + 1), _, I.laid (t' := s.toks) (fun _ _ => sortedAll_old) (Nat.le_succ _) ?_, rfl, q _ ns' hfr a2 a3⟩
  refine ⟨?_, out.toList, e, valsInts a1, ?_⟩
  · rw [List.length_map, a2.length_eq]
    exact Nat.le_of_lt (small1000 (by (first | lia | omega)))
  · have : out.toList.toArray = out := by simp
    rw [this]
    exact he
end
end L2

namespace L2
open PySem PySem.Spec PyProof.Rows
section
variable {X : Cx}
end
end L2
namespace HT
open PySem PyProof.Rows
section
variable {prog : Program} {w : World} {A : Around} {E : Value → Shared → Prop} {s : Shared}
end
end HT
namespace L2
open PySem PySem.Spec PyProof.Rows
section
variable {X : Cx}
end
end L2

namespace Ring
open PySem
abbrev Tie := Int × Int × Int
def bit (S : Int) (k : Nat) : Bool := decide (S / 2 ^ k % 2 = 1)
def tiesOf (S : Int) : List Nat := (List.range (Builtin.Int.intBits S)).filter (bit S)
structure InWeb (p : Nat) (ts : List Tie) : Prop where
  ends : ∀ t ∈ ts, 0 ≤ t.1 ∧ t.1 < (p : Int) ∧ 0 ≤ t.2.1 ∧ t.2.1 < (p : Int)
theorem bit_nat (m k : Nat) : bit (m : Int) k = m.testBit k := by
  unfold bit
  rw [Nat.testBit_eq_decide_div_mod_eq]
  have e : ((m : Int) / 2 ^ k % 2 = 1) ↔ (m / 2 ^ k % 2 = 1) := by
    have h2 : ((2 : Int) ^ k) = ((2 ^ k : Nat) : Int) := by simp
    rw [h2, ← Int.natCast_ediv]
    (first | lia | omega)
  simp only [e]
theorem bits_nat (m : Nat) : Builtin.Int.intBits (m : Int) = if m = 0 then 0 else m.log2 + 1 := by
  unfold Builtin.Int.intBits
  by_cases h : m = 0
  · simp [h]
  · simp [h]
theorem bits_le {m n : Nat} (h : m < 2 ^ n) : Builtin.Int.intBits (m : Int) ≤ n := by
  rw [bits_nat]
  split
  · exact Nat.zero_le _
  · rename_i h0
    exact (Nat.log2_lt h0).mpr h
theorem bit_high {m k : Nat} (h : Builtin.Int.intBits (m : Int) ≤ k) : bit (m : Int) k = false := by
  rw [bit_nat]
  rw [bits_nat] at h
  by_cases h0 : m = 0
  · simp [h0]
  · rw [if_neg h0] at h
    exact Nat.testBit_lt_two_pow (Nat.lt_of_lt_of_le Nat.lt_log2_self (Nat.pow_le_pow_right (by decide) h))
theorem range_filter (f : Nat → Bool) (a : Nat) : ∀ d, (∀ k, a ≤ k → f k = false) → (List.range (a + d)).filter f = (List.range a).filter f
  | 0, _ => rfl
  | d + 1, h => by
    rw [← Nat.add_assoc, List.range_succ, List.filter_append, range_filter f a d h]
    have e : [a + d].filter f = [] := by rw [List.filter_cons, if_neg (by rw [h _ (by (first | lia | omega))]; simp)]; rfl
    rw [e, List.append_nil]
theorem ties_nat {m n : Nat} (h : m < 2 ^ n) : tiesOf (m : Int) = (List.range n).filter fun k => m.testBit k := by
  unfold tiesOf
  have hb := bits_le h
  obtain ⟨d, hd⟩ := Nat.exists_eq_add_of_le hb
  have e : (fun k => m.testBit k) = bit (m : Int) := funext fun k => (bit_nat m k).symm
  rw [e]
  conv => rhs; rw [hd]
  exact (range_filter _ _ d fun k hk => bit_high hk).symm
theorem ties_lt {m n : Nat} (h : m < 2 ^ n) {k : Nat} (hk : k ∈ tiesOf (m : Int)) : k < n := by
  rw [ties_nat h] at hk
  exact List.mem_range.mp (List.mem_filter.mp hk).1
theorem bits_sum {a b x y : Nat} (q : x / 2 + 2 * (y / 2) = a / 2 + b / 2) (h : x % 2 + 2 * (y % 2) = a % 2 + b % 2) : x + 2 * y = a + b := by (first | lia | omega)
theorem mod_one {u v : Nat} (hu : u = 0 ∨ u = 1) (hv : v = 0 ∨ v = 1) : (u ^^^ v) + 2 * (u &&& v) = u + v := by
  rcases hu with rfl | rfl <;> rcases hv with rfl | rfl <;> rfl
theorem xor_and : ∀ a b : Nat, (a ^^^ b) + 2 * (a &&& b) = a + b := by
  intro a
  induction a using Nat.strongRecOn with
  | ind a ih =>
    intro b
    by_cases h : a = 0
    · subst h
      simp
    · have q := ih (a / 2) (by (first | lia | omega)) (b / 2)
      rw [← Nat.xor_div_two, ← Nat.and_div_two] at q
      refine bits_sum q ?_
      have e1 : (a ^^^ b) % 2 = a % 2 ^^^ b % 2 := Nat.xor_mod_two_pow (n := 1)
      have e2 : (a &&& b) % 2 = a % 2 &&& b % 2 := Nat.and_mod_two_pow (n := 1)
      rw [e1, e2]
      exact mod_one (Nat.mod_two_eq_zero_or_one a) (Nat.mod_two_eq_zero_or_one b)
theorem xor_int (a b : Nat) : Builtin.bitXor (a : Int) (b : Int) = ((a ^^^ b : Nat) : Int) := by
  have h : (a : Int) + b - 2 * ((a &&& b : Nat) : Int) = ((a ^^^ b : Nat) : Int) := by
    have q := xor_and a b
    (first | lia | omega)
  have e := PyProof.Rows.bitXor_and (a : Int) (b : Int)
  rw [e, PyProof.Rows.bitAnd_pp (by (first | lia | omega)) (by (first | lia | omega))]
  simpa using h
end Ring

namespace Ring
open PySem L2
def tieV (t : Tie) : List V := [.int t.1, .int t.2.1, .int t.2.2]
def TupAt (H : Hp) (x : V) (t : Tie) : Prop := ∃ b, x = .ref b ∧ H b = some (.tup (tieV t))
structure WebAt (H : Hp) (w : Addr) (p : Nat) (ts : List Tie) : Prop where
  ex : ∃ b xs, H w = some (.tup [.int (p : Int), .ref b]) ∧ H b = some (.tup xs) ∧ Paired (TupAt H) xs ts
structure Web (p : Nat) (ts : List Tie) : Prop where
  inw : InWeb p ts
  len : ts.length ≤ 24
  pts : p ≤ 10
theorem TupAt.tups {H H' : Hp} (s : Tups H H') {x : V} {t : Tie} (h : TupAt H x t) : TupAt H' x t := by
  obtain ⟨b, e, h⟩ := h
  exact ⟨b, e, s _ _ h⟩
theorem WebAt.tups {H H' : Hp} {w : Addr} {p : Nat} {ts : List Tie} (s : Tups H H') (h : WebAt H w p ts) : WebAt H' w p ts := by
  obtain ⟨b, xs, h1, h2, h3⟩ := h.ex
  exact ⟨b, xs, s _ _ h1, s _ _ h2, Paired.imp' (fun _ _ z => z.tups s) h3⟩
theorem WebAt.same {H H' : Hp} {w : Addr} {p : Nat} {ts : List Tie} (s : Same H H') (h : WebAt H w p ts) : WebAt H' w p ts := h.tups s.tups
def natsV (l : List Nat) : List V := l.map fun k => V.int ((k : Nat) : Int)
theorem natsV_snoc (l : List Nat) (k : Nat) : natsV (l ++ [k]) = natsV l ++ [.int (k : Int)] := by unfold natsV; rw [List.map_append]; rfl
theorem natsV_len (l : List Nat) : (natsV l).length = l.length := by unfold natsV; rw [List.length_map]
theorem natsV_get {l : List Nat} {i : Nat} {x : V} (h : (natsV l)[i]? = some x) : ∃ k, l[i]? = some k ∧ x = .int (k : Int) := by
  unfold natsV at h
  rw [List.getElem?_map] at h
  obtain ⟨k, e, q⟩ := Option.map_eq_some_iff.mp h
  exact ⟨k, e, q.symm⟩
theorem filter_range_succ (f : Nat → Bool) (i : Nat) : (List.range (i + 1)).filter f = (List.range i).filter f ++ (if f i = true then [i] else []) := by
  rw [List.range_succ, List.filter_append]
  congr 1
  cases h : f i with
  | true => rw [List.filter_cons, if_pos h, if_pos rfl]; rfl
  | false => rw [List.filter_cons, if_neg (by rw [h]; simp), if_neg (by simp)]; rfl
def Pick (f : Nat → Bool) (H : Hp) (D : Addr) (i : Nat) (acc : List V) (H2 : Hp) : Prop := Same H H2 ∧ H2 D = some (.lst acc) ∧ acc = natsV ((List.range i).filter f)
section
variable {f : Nat → Bool} {H H2 H3 : Hp} {D : Addr} {i : Nat} {acc : List V}
theorem Pick.start (hD : H D = none) : Pick f H D 0 [] (upd H D (.lst [])) := ⟨Same.new hD, upd_same, rfl⟩
theorem Pick.len (p : Pick f H D i acc H2) : H2 D = some (.lst acc) ∧ acc.length ≤ i := by
  refine ⟨p.2.1, ?_⟩
  rw [p.2.2, natsV_len]
  exact Nat.le_trans (List.length_filter_le _ _) (by rw [List.length_range]; exact Nat.le_refl _)
theorem Pick.yes (p : Pick f H D i acc H2) (hD : H D = none) (s : Same H2 H3) (hf : f i = true) : H3 D = some (.lst acc) ∧ Pick f H D (i + 1) (acc ++ [.int (i : Int)]) (upd H3 D (.lst (acc ++ [.int (i : Int)]))) := by
  refine ⟨s _ _ p.2.1, (p.1.trans s).put hD, upd_same, ?_⟩
  rw [filter_range_succ, if_pos hf, natsV_snoc, ← p.2.2]
theorem Pick.no (p : Pick f H D i acc H2) (s : Same H2 H3) (hf : f i = false) : Pick f H D (i + 1) acc H3 := by
  refine ⟨p.1.trans s, s _ _ p.2.1, ?_⟩
  rw [filter_range_succ, if_neg (by rw [hf]; simp), List.append_nil]
  exact p.2.2
end
def tieAt (ts : List Tie) (k : Nat) : Tie := ts.getD k (0, 0, 0)
def natD (k : Nat) : PyData := .int (k : Int)
theorem nats_dat {K : PySem.W.Frag} {H : Hp} : ∀ l : List Nat, DatVs K H (natsV l) (l.map natD)
  | [] => .nil
  | _ :: r => .cons (.int _) (nats_dat r)
theorem lay_nats : ∀ l : List Nat, PyData.canLayAll0 (l.map natD) = true
  | [] => rfl
  | _ :: r => by
    have ih := lay_nats r
    simp only [List.map_cons, PyData.canLayAll0, ih, Bool.and_true]
    rfl
theorem deep_nats : ∀ l : List Nat, PyData.depthAll (l.map natD) = 0
  | [] => rfl
  | _ :: r => by
    have ih := deep_nats r
    show max (PyData.depth (PyData.int _)) (PyData.depthAll (r.map _)) = 0
    rw [ih]
    rfl
theorem shaped_nats (l : List Nat) : SeqAt.shaped (.list (l.map natD)) = true := by
  unfold SeqAt.shaped
  have e : (PyData.list (l.map natD)).canLay0 = PyData.canLayAll0 (l.map natD) := by simp [PyData.canLay0]
  rw [e, lay_nats, Bool.true_and]
  refine decide_eq_true ?_
  have e2 : PyData.depth (PyData.list (l.map natD)) = PyData.depthAll (l.map natD) + 1 := by simp [PyData.depth]
  rw [e2, deep_nats]
  decide
theorem has_eq (S : Int) (k : Nat) : decide (V.int (Builtin.bitAnd (S / 2 ^ k) 1) = V.int 1) = bit S k := by
  unfold bit
  rw [PyProof.Rows.bitAnd_m1]
  rw [Bool.eq_iff_iff]
  simp
theorem bit_eq (S : Int) (k : Nat) : decide (V.int (S / 2 ^ k % 2) = V.int 1) = bit S k := by
  unfold bit
  rw [Bool.eq_iff_iff]
  simp
end Ring

namespace Ring
open PySem L2
structure GoodTie (p : Int) (t : Tie) : Prop where
  a0 : 0 ≤ t.1
  a1 : t.1 < p
  b0 : 0 ≤ t.2.1
  b1 : t.2.1 < p
  ne : t.1 ≠ t.2.1
  l0 : 1 ≤ t.2.2
  l1 : t.2.2 ≤ 1000000000000000000000000000000
structure GoodWeb (p : Nat) (ts : List Tie) : Prop where
  p1 : 1 ≤ p
  p2 : p ≤ 10
  len : ts.length ≤ 24
  ties : ∀ t ∈ ts, GoodTie (p : Int) t
theorem GoodWeb.web {p : Nat} {ts : List Tie} (g : GoodWeb p ts) : Web p ts := ⟨⟨fun t ht => let z := g.ties t ht; ⟨z.a0, z.a1, z.b0, z.b1⟩⟩, g.len, g.p2⟩
def Ties (p : Int) (H : Hp) (D : Addr) (n : Nat) (H2 : Hp) : Prop := Same H H2 ∧ ∃ acc ts, H2 D = some (.lst acc) ∧ Paired (TupAt H2) acc ts ∧ acc.length = n ∧ ∀ t ∈ ts, GoodTie p t
section
variable {p : Int} {H H2 H3 : Hp} {D b : Addr} {n : Nat} {t : Tie}
theorem Ties.start (hD : H D = none) : Ties p H D 0 (upd H D (.lst [])) := ⟨Same.new hD, [], [], upd_same, .nil, rfl, fun t ht => nomatch ht⟩
theorem Ties.push (h : Ties p H D n H2) (hD : H D = none) (s : Same H2 H3) (g : GoodTie p t) (hb : H3 b = some (.tup (tieV t))) :
    ∃ acc, H3 D = some (.lst acc) ∧ acc.length = n ∧ Ties p H D (n + 1) (upd H3 D (.lst (acc ++ [.ref b]))) := by
  obtain ⟨s2, acc, ts, hd, pr, hn, gt⟩ := h
  have hd3 : H3 D = some (.lst acc) := s _ _ hd
  refine ⟨acc, hd3, hn, (s2.trans s).put hD, acc ++ [.ref b], ts ++ [t], upd_same, ?_, by rw [List.length_append, List.length_singleton, hn], fun u hu => ?_⟩
  · exact Paired.snoc (Paired.imp' (fun _ _ z => z.tups (s.tups.trans (Tups.put hd3))) pr) ⟨b, rfl, Tups.put hd3 _ _ hb⟩
  · rcases List.mem_append.mp hu with hu | hu
    · exact gt u hu
    · cases List.mem_singleton.mp hu
      exact g
theorem Ties.fin {q : Nat} (h : Ties (q : Int) H D n H2) : ∃ acc ts, H2 D = some (.lst acc) ∧ ts.length = n ∧ (∀ t ∈ ts, GoodTie (q : Int) t) ∧ ∀ l, H2 l = none → ∀ w, upd H2 l (.tup acc) w = none →
    Same H (upd (upd H2 l (.tup acc)) w (.tup [.int (q : Int), .ref l])) ∧ WebAt (upd (upd H2 l (.tup acc)) w (.tup [.int (q : Int), .ref l])) w q ts := by
  obtain ⟨s2, acc, ts, hd, pr, hn, gt⟩ := h
  refine ⟨acc, ts, hd, by rw [← pr.length, hn], gt, fun l hl w hw => ?_⟩
  have n1 : Same H2 (upd H2 l (.tup acc)) := Same.new hl
  have n2 := n1.trans (Same.new (o := .tup [.int (q : Int), .ref l]) hw)
  refine ⟨s2.trans n2, l, acc, upd_same, ?_, Paired.imp' (fun _ _ z => z.tups n2.tups) pr⟩
  rw [upd_ne (ne_of_none upd_same hw), upd_same]
end
theorem other_ne {p o r : Int} (h : 0 ≤ o) (h1 : o < p) (r0 : 0 ≤ r) (r1 : r < p - 1) : 0 ≤ (o + 1 + r) % p ∧ (o + 1 + r) % p < p ∧ o ≠ (o + 1 + r) % p := by
  have hp : 0 < p := by (first | lia | omega)
  refine ⟨Int.emod_nonneg _ (by (first | lia | omega)), Int.emod_lt_of_pos _ hp, ?_⟩
  by_cases hlt : o + 1 + r < p
  · rw [Int.emod_eq_of_lt (by (first | lia | omega)) hlt]
    (first | lia | omega)
  · have e : (o + 1 + r) % p = o + 1 + r - p := by
      rw [← Int.sub_emod_right, Int.emod_eq_of_lt (by (first | lia | omega)) (by (first | lia | omega))]
    rw [e]
    (first | lia | omega)
theorem small24 {n : Nat} (h : n ≤ 24) : n ≤ sizeLine := Nat.le_of_lt (small1000 (by (first | lia | omega)))
theorem smallL {n : Nat} (h : n ≤ 900) : n < sizeLine := small1000 (by (first | lia | omega))
theorem ints_at {ns : List Int} {k : Nat} (h : k < ns.length) : (ns.map V.int)[k]? = some (.int (ns.getD k 0)) := by
  rw [List.getElem?_map, List.getD_eq_getElem?_getD]
  simp [h]
theorem ints_get {ns : List Int} {k : Nat} {x : V} (h : (ns.map V.int)[k]? = some x) : ∃ z, x = .int z := by
  rw [List.getElem?_map] at h
  obtain ⟨y, _, rfl⟩ := Option.map_eq_some_iff.mp h
  exact ⟨y, rfl⟩
theorem emod2 (x m : Int) (h : 0 < m) : 0 ≤ x % m ∧ x % m < m := ⟨Int.emod_nonneg _ (by (first | lia | omega)), Int.emod_lt_of_pos _ h⟩
end Ring

namespace RM
def xsum (f : Nat → Bool) : Nat → Bool
  | 0 => false
  | n + 1 => xsum f n ^^ f n
theorem xsum_congr {f g : Nat → Bool} : ∀ {n : Nat}, (∀ k, k < n → f k = g k) → xsum f n = xsum g n
  | 0, _ => rfl
  | n + 1, h => by
    unfold xsum
    rw [xsum_congr fun k hk => h k (by (first | lia | omega)), h n (by (first | lia | omega))]
theorem xsum_xor (f g : Nat → Bool) : ∀ n, xsum (fun k => f k ^^ g k) n = (xsum f n ^^ xsum g n)
  | 0 => rfl
  | n + 1 => by
    unfold xsum
    rw [xsum_xor f g n]
    cases xsum f n <;> cases xsum g n <;> cases f n <;> cases g n <;> rfl
theorem xsum_false : ∀ n, xsum (fun _ => false) n = false
  | 0 => rfl
  | n + 1 => by unfold xsum; rw [xsum_false n]; rfl
theorem xsum_and (c : Bool) (f : Nat → Bool) : ∀ n, xsum (fun k => c && f k) n = (c && xsum f n)
  | 0 => by cases c <;> rfl
  | n + 1 => by
    unfold xsum
    rw [xsum_and c f n]
    cases c <;> simp
theorem xsum_comm (f : Nat → Nat → Bool) (n : Nat) : ∀ m, xsum (fun x => xsum (fun k => f x k) n) m = xsum (fun k => xsum (fun x => f x k) m) n
  | 0 => by
    show false = _
    rw [← xsum_false n]
    rfl
  | m + 1 => by
    show (xsum (fun x => xsum (fun k => f x k) n) m ^^ xsum (fun k => f m k) n) = _
    rw [xsum_comm f n m, ← xsum_xor]
    rfl
theorem xsum_none {f : Nat → Bool} {n : Nat} (h : ∀ k, k < n → f k = false) : xsum f n = false := by
  rw [xsum_congr (g := fun _ => false) h, xsum_false]
theorem xsum_one {f : Nat → Bool} {a : Nat} : ∀ {n : Nat}, a < n → (∀ k, k < n → k ≠ a → f k = false) → xsum f n = f a
  | 0, h, _ => absurd h (Nat.not_lt_zero _)
  | n + 1, h, z => by
    unfold xsum
    by_cases e : a = n
    · subst e
      rw [xsum_none fun k hk => z k (by (first | lia | omega)) (by (first | lia | omega))]
      simp
    · rw [xsum_one (a := a) (by (first | lia | omega)) fun k hk hn => z k (by (first | lia | omega)) hn, z n (by (first | lia | omega)) (fun q => e q.symm)]
      simp
theorem xsum_point (C : Nat → Bool) {a m : Nat} (h : a < m) : xsum (fun x => C x && decide (a = x)) m = C a := by
  rw [xsum_one h fun k _ hk => by simp [Ne.symm hk]]
  simp
structure Net where
  p : Nat
  n : Nat
  a : Nat → Nat
  b : Nat → Nat
  al : ∀ k, k < n → a k < p
  bl : ∀ k, k < n → b k < p
  ne : ∀ k, k < n → a k ≠ b k
variable (N : Net)
def Net.inc (k x : Nat) : Bool := decide (N.a k = x) ^^ decide (N.b k = x)
def Net.bd (m x : Nat) : Bool := xsum (fun k => m.testBit k && N.inc k x) N.n
def Net.Even (m : Nat) : Prop := ∀ x, x < N.p → N.bd m x = false
variable {N}
theorem bd_xor (m q x : Nat) : N.bd (m ^^^ q) x = (N.bd m x ^^ N.bd q x) := by
  unfold Net.bd
  rw [← xsum_xor]
  refine xsum_congr fun k _ => ?_
  rw [Nat.testBit_xor]
  cases m.testBit k <;> cases q.testBit k <;> cases N.inc k x <;> rfl
theorem bd_zero (x : Nat) : N.bd 0 x = false := by
  unfold Net.bd
  exact xsum_none fun k _ => by simp
theorem bd_pow {k : Nat} (h : k < N.n) (x : Nat) : N.bd (2 ^ k) x = N.inc k x := by
  unfold Net.bd
  rw [xsum_one h fun j _ hj => by simp [Nat.testBit_two_pow, Ne.symm hj]]
  simp [Nat.testBit_two_pow]
theorem Even.xor {m q : Nat} (h : N.Even m) (h' : N.Even q) : N.Even (m ^^^ q) := fun x hx => by rw [bd_xor, h x hx, h' x hx]; rfl
theorem bd_class {m : Nat} (C : Nat → Bool) (h : ∀ k, k < N.n → m.testBit k = true → C (N.a k) = C (N.b k)) : xsum (fun x => C x && N.bd m x) N.p = false := by
  have e : xsum (fun x => C x && N.bd m x) N.p = xsum (fun x => xsum (fun k => C x && (m.testBit k && N.inc k x)) N.n) N.p :=
    xsum_congr fun x _ => (xsum_and (C x) _ N.n).symm
  rw [e, xsum_comm]
  refine xsum_none fun k hk => ?_
  have e2 : xsum (fun x => C x && (m.testBit k && N.inc k x)) N.p = (m.testBit k && (C (N.a k) ^^ C (N.b k))) := by
    rw [← xsum_point C (N.al k hk), ← xsum_point C (N.bl k hk), ← xsum_xor, ← xsum_and]
    refine xsum_congr fun x _ => ?_
    unfold Net.inc
    cases C x <;> cases m.testBit k <;> cases decide (N.a k = x) <;> cases decide (N.b k = x) <;> rfl
  rw [e2]
  cases hb : m.testBit k with
  | false => rfl
  | true => rw [h k hk hb]; simp
def join (L : Nat → Nat) (u v : Nat) : Nat → Nat := fun x => if L x = max (L u) (L v) then min (L u) (L v) else L x
theorem join_eq {L : Nat → Nat} {u v x y : Nat} (h : L x = L y) : join L u v x = join L u v y := by unfold join; rw [h]
theorem join_ends (L : Nat → Nat) (u v : Nat) : join L u v u = join L u v v := by
  unfold join
  split <;> split <;> (first | lia | omega)
theorem join_same {L : Nat → Nat} {u v : Nat} (h : L u = L v) : join L u v = L := by
  funext x
  unfold join
  rw [h]
  split <;> (first | lia | omega)
theorem join_apart {L : Nat → Nat} {u v x y : Nat} (h : join L u v x = join L u v y) : L x = L y ∨ (L x = L u ∧ L y = L v) ∨ (L x = L v ∧ L y = L u) := by
  unfold join at h
  have mm : (max (L u) (L v) = L u ∧ min (L u) (L v) = L v) ∨ (max (L u) (L v) = L v ∧ min (L u) (L v) = L u) := by
    rcases Nat.le_total (L u) (L v) with q | q
    · exact .inr ⟨Nat.max_eq_right q, Nat.min_eq_left q⟩
    · exact .inl ⟨Nat.max_eq_left q, Nat.min_eq_right q⟩
  rcases mm with ⟨e1, e2⟩ | ⟨e1, e2⟩
  · rw [e1, e2] at h
    split at h
    · rename_i hx
      split at h
      · rename_i hy
        exact .inl (hx.trans hy.symm)
      · exact .inr (.inl ⟨hx, h.symm⟩)
    · split at h
      · rename_i hy
        exact .inr (.inr ⟨h, hy⟩)
      · exact .inl h
  · rw [e1, e2] at h
    split at h
    · rename_i hx
      split at h
      · rename_i hy
        exact .inl (hx.trans hy.symm)
      · exact .inr (.inr ⟨hx, h.symm⟩)
    · split at h
      · rename_i hy
        exact .inr (.inl ⟨h, hy⟩)
      · exact .inl h
theorem join_le {L : Nat → Nat} {u v x : Nat} (h : L x ≤ x) : join L u v x ≤ x := by
  unfold join
  split <;> (first | lia | omega)
theorem join_root {L : Nat → Nat} {u v : Nat} (h : ∀ x, L (L x) = L x) (x : Nat) : join L u v (join L u v x) = join L u v x := by
  have hu := h u
  have hv := h v
  have hx := h x
  have hlo : L (min (L u) (L v)) = min (L u) (L v) := by
    rcases Nat.le_total (L u) (L v) with q | q
    · rw [Nat.min_eq_left q]; exact hu
    · rw [Nat.min_eq_right q]; exact hv
  unfold join
  split
  · rw [hlo]
    split <;> (first | lia | omega)
  · rw [hx]
    split <;> (first | lia | omega)
def Net.labs (N : Net) (S : Nat → Bool) : Nat → Nat → Nat
  | 0 => fun x => x
  | k + 1 => if S k = true then join (Net.labs N S k) (N.a k) (N.b k) else Net.labs N S k
variable {S : Nat → Bool}
theorem labs_le : ∀ (k x : Nat), N.labs S k x ≤ x
  | 0, _ => Nat.le_refl _
  | k + 1, x => by
    unfold Net.labs
    split
    · exact join_le (labs_le k x)
    · exact labs_le k x
theorem labs_root : ∀ (k x : Nat), N.labs S k (N.labs S k x) = N.labs S k x
  | 0, _ => rfl
  | k + 1, x => by
    by_cases hs : S k = true
    · have e : N.labs S (k + 1) = join (N.labs S k) (N.a k) (N.b k) := by
        conv => lhs; unfold Net.labs
        rw [if_pos hs]
      rw [e]
      exact join_root (labs_root k) x
    · have e : N.labs S (k + 1) = N.labs S k := by
        conv => lhs; unfold Net.labs
        rw [if_neg hs]
      rw [e]
      exact labs_root k x
theorem labs_mono {x y k : Nat} (h : N.labs S k x = N.labs S k y) : ∀ d, N.labs S (k + d) x = N.labs S (k + d) y
  | 0 => h
  | d + 1 => by
    have ih := labs_mono h d
    show N.labs S (k + d + 1) x = N.labs S (k + d + 1) y
    unfold Net.labs
    split
    · exact join_eq ih
    · exact ih
theorem labs_tie {j k : Nat} (h : j < k) (hs : S j = true) : N.labs S k (N.a j) = N.labs S k (N.b j) := by
  obtain ⟨d, rfl⟩ := Nat.exists_eq_add_of_le (Nat.succ_le_of_lt h)
  refine labs_mono ?_ d
  show N.labs S (j + 1) (N.a j) = N.labs S (j + 1) (N.b j)
  unfold Net.labs
  rw [if_pos hs]
  exact join_ends _ _ _
inductive Net.Conn (N : Net) (S : Nat → Bool) (k u : Nat) : Nat → Prop
  | refl : Net.Conn N S k u u
  | fwd {j : Nat} (h : Net.Conn N S k u (N.a j)) (hj : j < k) (hs : S j = true) : Net.Conn N S k u (N.b j)
  | bwd {j : Nat} (h : Net.Conn N S k u (N.b j)) (hj : j < k) (hs : S j = true) : Net.Conn N S k u (N.a j)
theorem Net.Conn.trans {k u v w : Nat} (h : N.Conn S k u v) (h' : N.Conn S k v w) : N.Conn S k u w := by
  induction h' with
  | refl => exact h
  | fwd _ hj hs ih => exact .fwd ih hj hs
  | bwd _ hj hs ih => exact .bwd ih hj hs
theorem Net.Conn.mono {k l u v : Nat} (h : N.Conn S k u v) (hkl : k ≤ l) : N.Conn S l u v := by
  induction h with
  | refl => exact .refl
  | fwd _ hj hs ih => exact .fwd ih (by (first | lia | omega)) hs
  | bwd _ hj hs ih => exact .bwd ih (by (first | lia | omega)) hs
theorem labs_conn : ∀ (k u v : Nat), N.labs S k u = N.labs S k v → N.Conn S k u v
  | 0, u, v, h => by
    have e : u = v := h
    subst e
    exact .refl
  | k + 1, u, v, h => by
    unfold Net.labs at h
    split at h
    · rename_i hs
      rcases join_apart h with q | ⟨q1, q2⟩ | ⟨q1, q2⟩
      · exact (labs_conn k u v q).mono (by (first | lia | omega))
      · have c1 := (labs_conn k u _ q1).mono (Nat.le_succ k)
        have c2 := (labs_conn k _ v q2.symm).mono (Nat.le_succ k)
        exact Net.Conn.trans (.fwd c1 (by (first | lia | omega)) hs) c2
      · have c1 := (labs_conn k u _ q1).mono (Nat.le_succ k)
        have c2 := (labs_conn k _ v q2.symm).mono (Nat.le_succ k)
        exact Net.Conn.trans (.bwd c1 (by (first | lia | omega)) hs) c2
    · exact (labs_conn k u v h).mono (by (first | lia | omega))
theorem conn_labs {k u v : Nat} (h : N.Conn S k u v) : N.labs S k u = N.labs S k v := by
  induction h with
  | refl => rfl
  | fwd _ hj hs ih => exact ih.trans (labs_tie hj hs)
  | bwd _ hj hs ih => exact ih.trans (labs_tie hj hs).symm
def Net.lab (N : Net) (k : Nat) : Nat → Nat := N.labs (fun _ => true) k
def Net.inF (N : Net) (k : Nat) : Bool := !decide (N.lab k (N.a k) = N.lab k (N.b k))
theorem lab_succ (k : Nat) : N.lab (k + 1) = if N.inF k = true then join (N.lab k) (N.a k) (N.b k) else N.lab k := by
  show N.labs (fun _ => true) (k + 1) = _
  unfold Net.labs
  rw [if_pos rfl]
  unfold Net.inF
  by_cases h : N.lab k (N.a k) = N.lab k (N.b k)
  · rw [if_neg (by simp [h])]
    exact join_same h
  · rw [if_pos (by simp [h])]
    rfl
theorem forest_empty {m : Nat} (hf : ∀ k, m.testBit k = true → k < N.n ∧ N.inF k = true) (he : N.Even m) : m = 0 := by
  by_cases h0 : m = 0
  · exact h0
  exfalso
  have hK : m.testBit m.log2 = true := Nat.testBit_log2 h0
  obtain ⟨hKn, hKf⟩ := hf _ hK
  generalize hKe : m.log2 = K at hK hKn hKf
  have hlt : m < 2 ^ (K + 1) := by rw [← hKe]; exact Nat.lt_log2_self
  have hcl := bd_class (N := N) (m := m ^^^ 2 ^ K) (fun x => decide (N.lab K x = N.lab K (N.a K))) fun k hk hb => by
    have hkK : k < K := by
      rw [Nat.testBit_xor, Nat.testBit_two_pow] at hb
      by_cases e : K = k
      · subst e
        simp [hK] at hb
      · have hb' : m.testBit k = true := by simpa [e] using hb
        have : k < K + 1 := by
          by_cases q : k < K + 1
          · exact q
          · have z := Nat.testBit_lt_two_pow (Nat.lt_of_lt_of_le hlt (Nat.pow_le_pow_right (by decide) (show K + 1 ≤ k by (first | lia | omega))))
            rw [hb'] at z
            cases z
        (first | lia | omega)
    have e : N.lab K (N.a k) = N.lab K (N.b k) := labs_tie (S := fun _ => true) hkK rfl
    show decide (N.lab K (N.a k) = _) = decide (N.lab K (N.b k) = _)
    rw [e]
  have e : xsum (fun x => decide (N.lab K x = N.lab K (N.a K)) && N.bd (m ^^^ 2 ^ K) x) N.p = xsum (fun x => decide (N.lab K x = N.lab K (N.a K)) && N.inc K x) N.p :=
    xsum_congr fun x hx => by rw [bd_xor, he x hx, bd_pow hKn]; simp
  rw [e] at hcl
  have e2 : xsum (fun x => decide (N.lab K x = N.lab K (N.a K)) && N.inc K x) N.p = (decide (N.lab K (N.a K) = N.lab K (N.a K)) ^^ decide (N.lab K (N.b K) = N.lab K (N.a K))) := by
    rw [← xsum_point (fun x => decide (N.lab K x = N.lab K (N.a K))) (N.al K hKn), ← xsum_point (fun x => decide (N.lab K x = N.lab K (N.a K))) (N.bl K hKn), ← xsum_xor]
    refine xsum_congr fun x _ => ?_
    unfold Net.inc
    cases decide (N.lab K x = N.lab K (N.a K)) <;> cases decide (N.a K = x) <;> cases decide (N.b K = x) <;> rfl
  rw [e2] at hcl
  unfold Net.inF at hKf
  have hne : ¬ N.lab K (N.b K) = N.lab K (N.a K) := fun q => by rw [q] at hKf; simp at hKf
  simp [hne] at hcl
def Net.trail (N : Net) : Nat → Nat → Nat
  | 0 => fun _ => 0
  | k + 1 => if N.inF k = true then fun v => if N.lab k v = max (N.lab k (N.a k)) (N.lab k (N.b k)) then Net.trail N k v ^^^ (Net.trail N k (N.a k) ^^^ Net.trail N k (N.b k) ^^^ 2 ^ k) else Net.trail N k v
    else Net.trail N k
theorem trail_in : ∀ (k v j : Nat), (N.trail k v).testBit j = true → j < k ∧ N.inF j = true
  | 0, v, j, h => by simp [Net.trail] at h
  | k + 1, v, j, h => by
    have ih := trail_in k
    unfold Net.trail at h
    split at h
    · rename_i hf
      dsimp only at h
      split at h
      · rw [Nat.testBit_xor, Nat.testBit_xor, Nat.testBit_xor, Nat.testBit_two_pow] at h
        by_cases e : k = j
        · subst e
          exact ⟨by (first | lia | omega), hf⟩
        · have z : ¬ ((N.trail k v).testBit j = false ∧ (N.trail k (N.a k)).testBit j = false ∧ (N.trail k (N.b k)).testBit j = false) := by
            rintro ⟨z1, z2, z3⟩
            simp [z1, z2, z3, e] at h
          cases h1 : (N.trail k v).testBit j with
          | true => obtain ⟨q, r⟩ := ih v j h1; exact ⟨by (first | lia | omega), r⟩
          | false => cases h2 : (N.trail k (N.a k)).testBit j with
            | true => obtain ⟨q, r⟩ := ih _ j h2; exact ⟨by (first | lia | omega), r⟩
            | false => cases h3 : (N.trail k (N.b k)).testBit j with
              | true => obtain ⟨q, r⟩ := ih _ j h3; exact ⟨by (first | lia | omega), r⟩
              | false => exact absurd ⟨h1, h2, h3⟩ z
      · obtain ⟨q, r⟩ := ih v j h; exact ⟨by (first | lia | omega), r⟩
    · obtain ⟨q, r⟩ := ih v j h; exact ⟨by (first | lia | omega), r⟩
theorem bool_six (a b c d e f g h : Bool) (hlh : (d ^^ f) = (g ^^ h)) : ((a ^^ g) ^^ (((c ^^ d) ^^ (e ^^ f)) ^^ (c ^^ e))) = (a ^^ h) := by
  have e1 : (((c ^^ d) ^^ (e ^^ f)) ^^ (c ^^ e)) = (d ^^ f) := by cases c <;> cases d <;> cases e <;> cases f <;> rfl
  rw [e1, hlh]
  cases a <;> cases g <;> cases h <;> rfl
theorem trail_bd : ∀ (k : Nat), k ≤ N.n → ∀ v x, N.bd (N.trail k v) x = (decide (v = x) ^^ decide (N.lab k v = x))
  | 0, _, v, x => by
    show N.bd 0 x = (decide (v = x) ^^ decide (v = x))
    rw [bd_zero]
    simp
  | k + 1, hk, v, x => by
    have ih := trail_bd k (by (first | lia | omega))
    rw [lab_succ]
    unfold Net.trail
    by_cases hf : N.inF k = true
    · rw [if_pos hf, if_pos hf]
      by_cases hm : N.lab k v = max (N.lab k (N.a k)) (N.lab k (N.b k))
      · have e : join (N.lab k) (N.a k) (N.b k) v = min (N.lab k (N.a k)) (N.lab k (N.b k)) := by unfold join; rw [if_pos hm]
        show N.bd (if N.lab k v = _ then _ else _) x = _
        rw [if_pos hm, e, bd_xor, bd_xor, bd_xor, bd_pow (by (first | lia | omega)), ih, ih, ih]
        unfold Net.inc
        refine bool_six _ false _ _ _ _ _ _ ?_
        rw [hm]
        rcases Nat.le_total (N.lab k (N.a k)) (N.lab k (N.b k)) with q | q
        · rw [Nat.max_eq_right q, Nat.min_eq_left q, Bool.xor_comm]
        · rw [Nat.max_eq_left q, Nat.min_eq_right q]
      · have e : join (N.lab k) (N.a k) (N.b k) v = N.lab k v := by unfold join; rw [if_neg hm]
        show N.bd (if N.lab k v = _ then _ else _) x = _
        rw [if_neg hm, e, ih]
    · rw [if_neg hf, if_neg hf]
      exact ih v x
def Net.ring (N : Net) (c : Nat) : Nat := N.trail N.n (N.a c) ^^^ N.trail N.n (N.b c) ^^^ 2 ^ c
theorem lab_ends {c : Nat} (h : c < N.n) : N.lab N.n (N.a c) = N.lab N.n (N.b c) := labs_tie (S := fun _ => true) h rfl
theorem ring_even {c : Nat} (h : c < N.n) : N.Even (N.ring c) := fun x _ => by
  unfold Net.ring
  rw [bd_xor, bd_xor, bd_pow h, trail_bd _ (Nat.le_refl _), trail_bd _ (Nat.le_refl _), lab_ends h]
  unfold Net.inc
  cases decide (N.a c = x) <;> cases decide (N.b c = x) <;> cases decide (N.lab N.n (N.b c) = x) <;> rfl
theorem ring_bit {c j : Nat} (h : (N.ring c).testBit j = true) : j = c ∨ (j < N.n ∧ N.inF j = true) := by
  unfold Net.ring at h
  rw [Nat.testBit_xor, Nat.testBit_xor, Nat.testBit_two_pow] at h
  by_cases e : c = j
  · exact .inl e.symm
  · right
    cases h1 : (N.trail N.n (N.a c)).testBit j with
    | true => exact trail_in _ _ _ h1
    | false => cases h2 : (N.trail N.n (N.b c)).testBit j with
      | true => exact trail_in _ _ _ h2
      | false => simp [h1, h2, e] at h
theorem ring_own {c : Nat} (hf : N.inF c = false) : (N.ring c).testBit c = true := by
  unfold Net.ring
  rw [Nat.testBit_xor, Nat.testBit_xor, Nat.testBit_two_pow]
  cases h1 : (N.trail N.n (N.a c)).testBit c with
  | true => obtain ⟨_, q⟩ := trail_in _ _ _ h1; rw [hf] at q; cases q
  | false => cases h2 : (N.trail N.n (N.b c)).testBit c with
    | true => obtain ⟨_, q⟩ := trail_in _ _ _ h2; rw [hf] at q; cases q
    | false => simp
theorem forest_on {j : Nat} (h : j < N.n) (hf : N.inF j = true) : (N.trail N.n (N.a j)).testBit j = true ∨ (N.trail N.n (N.b j)).testBit j = true := by
  have z : N.ring j = 0 := forest_empty (fun k hk => by
    rcases ring_bit hk with rfl | q
    · exact ⟨h, hf⟩
    · exact q) (ring_even h)
  have b : (N.ring j).testBit j = false := by rw [z]; simp
  unfold Net.ring at b
  rw [Nat.testBit_xor, Nat.testBit_xor, Nat.testBit_two_pow] at b
  cases h1 : (N.trail N.n (N.a j)).testBit j with
  | true => exact .inl rfl
  | false => cases h2 : (N.trail N.n (N.b j)).testBit j with
    | true => exact .inr rfl
    | false => simp [h1, h2] at b
end RM

namespace RM
def cnt (f : Nat → Bool) : Nat → Nat
  | 0 => 0
  | n + 1 => cnt f n + (if f n = true then 1 else 0)
theorem cnt_congr {f g : Nat → Bool} : ∀ {n : Nat}, (∀ k, k < n → f k = g k) → cnt f n = cnt g n
  | 0, _ => rfl
  | n + 1, h => by
    unfold cnt
    rw [cnt_congr fun k hk => h k (by (first | lia | omega)), h n (by (first | lia | omega))]
theorem cnt_drop {f g : Nat → Bool} {h : Nat} (hg : g h = true) : ∀ {p : Nat}, h < p → (∀ x, x < p → f x = (g x && !decide (x = h))) → cnt g p = cnt f p + 1
  | 0, hh, _ => absurd hh (Nat.not_lt_zero _)
  | p + 1, hh, e => by
    unfold cnt
    by_cases q : h = p
    · subst q
      have z : cnt g h = cnt f h := cnt_congr fun k hk => by rw [e k (by (first | lia | omega))]; simp [show k ≠ h by (first | lia | omega)]
      rw [z, if_pos hg, e h (by (first | lia | omega))]
      simp
    · rw [cnt_drop hg (by (first | lia | omega)) fun x hx => e x (by (first | lia | omega)), e p (by (first | lia | omega))]
      simp [Ne.symm q]
      (first | lia | omega)
theorem cnt_range (f : Nat → Bool) : ∀ n, ((List.range n).filter f).length = cnt f n
  | 0 => rfl
  | n + 1 => by
    rw [List.range_succ, List.filter_append, List.length_append, cnt_range f n]
    show _ = cnt f n + (if f n = true then 1 else 0)
    cases h : f n with
    | true => rw [List.filter_cons, if_pos h]; rfl
    | false => rw [List.filter_cons, if_neg (by rw [h]; simp)]; rfl
theorem cnt_not (f : Nat → Bool) : ∀ n, cnt f n + cnt (fun k => !f k) n = n
  | 0 => rfl
  | n + 1 => by
    have ih := cnt_not f n
    unfold cnt
    cases h : f n <;> simp <;> (first | lia | omega)
theorem cnt_all {f : Nat → Bool} : ∀ {n : Nat}, (∀ k, k < n → f k = true) → cnt f n = n
  | 0, _ => rfl
  | n + 1, h => by
    unfold cnt
    rw [cnt_all fun k hk => h k (by (first | lia | omega)), if_pos (h n (by (first | lia | omega)))]
variable {N : Net} {S : Nat → Bool}
def Net.root (N : Net) (S : Nat → Bool) (k x : Nat) : Bool := decide (N.labs S k x = x)
theorem labs_succ (k : Nat) : N.labs S (k + 1) = if S k = true then join (N.labs S k) (N.a k) (N.b k) else N.labs S k := by
  conv => lhs; unfold Net.labs
theorem labs_lt {k x : Nat} (h : x < N.p) : N.labs S k x < N.p := Nat.lt_of_le_of_lt (labs_le k x) h
theorem root_join {L : Nat → Nat} {u v : Nat} (hr : ∀ x, L (L x) = L x) (hne : L u ≠ L v) (x : Nat) : decide (join L u v x = x) = (decide (L x = x) && !decide (x = max (L u) (L v))) := by
  have hhi : L (max (L u) (L v)) = max (L u) (L v) := by
    rcases Nat.le_total (L u) (L v) with q | q
    · rw [Nat.max_eq_right q]; exact hr v
    · rw [Nat.max_eq_left q]; exact hr u
  have hlo : L (min (L u) (L v)) = min (L u) (L v) := by
    rcases Nat.le_total (L u) (L v) with q | q
    · rw [Nat.min_eq_left q]; exact hr u
    · rw [Nat.min_eq_right q]; exact hr v
  unfold join
  by_cases h : L x = max (L u) (L v)
  · rw [if_pos h]
    have h1 : ¬ min (L u) (L v) = x := fun z => by
      rw [← z, hlo] at h
      (first | lia | omega)
    by_cases h2 : x = max (L u) (L v)
    · simp [h1, h2]
      (first | lia | omega)
    · have h3 : ¬ L x = x := fun z => h2 (z.symm.trans h)
      simp [h1, h3]
  · rw [if_neg h]
    have h2 : ¬ x = max (L u) (L v) := fun z => h (by rw [z]; exact hhi)
    simp [h2]
theorem roots_step {k : Nat} (hk : k < N.n) : cnt (N.root S k) N.p = cnt (N.root S (k + 1)) N.p + (if (S k && !decide (N.labs S k (N.a k) = N.labs S k (N.b k))) = true then 1 else 0) := by
  cases hs : S k with
  | false =>
    have e : N.root S (k + 1) = N.root S k := by unfold Net.root; rw [labs_succ, if_neg (by rw [hs]; simp)]
    rw [e]; simp
  | true =>
    by_cases h : N.labs S k (N.a k) = N.labs S k (N.b k)
    · have e : N.root S (k + 1) = N.root S k := by unfold Net.root; rw [labs_succ, if_pos hs, join_same h]
      rw [e]; simp [h]
    · have hhi : N.labs S k (max (N.labs S k (N.a k)) (N.labs S k (N.b k))) = max (N.labs S k (N.a k)) (N.labs S k (N.b k)) := by
        rcases Nat.le_total (N.labs S k (N.a k)) (N.labs S k (N.b k)) with q | q
        · rw [Nat.max_eq_right q]; exact labs_root _ _
        · rw [Nat.max_eq_left q]; exact labs_root _ _
      have h1 := labs_lt (S := S) (k := k) (N.al k hk)
      have h2 := labs_lt (S := S) (k := k) (N.bl k hk)
      rw [cnt_drop (f := N.root S (k + 1)) (g := N.root S k) (h := max (N.labs S k (N.a k)) (N.labs S k (N.b k))) (decide_eq_true hhi) (by (first | lia | omega)) fun x _ => by
        unfold Net.root
        rw [labs_succ, if_pos hs]
        exact root_join (labs_root k) h x]
      simp [h]
def Net.chords (N : Net) : List Nat := (List.range N.n).filter fun k => !N.inF k
theorem chords_mem {c : Nat} : c ∈ N.chords ↔ c < N.n ∧ N.inF c = false := by
  unfold Net.chords
  rw [List.mem_filter, List.mem_range]
  simp
theorem lt_of_bits {m n : Nat} (h : ∀ k, m.testBit k = true → k < n) : m < 2 ^ n := Nat.lt_pow_two_of_testBit m fun k hk => by
  cases q : m.testBit k with
  | false => rfl
  | true => exact absurd (h k q) (by (first | lia | omega))
theorem bits_lt {m n k : Nat} (h : m < 2 ^ n) (hb : m.testBit k = true) : k < n := by
  by_cases q : k < n
  · exact q
  · have z := Nat.testBit_lt_two_pow (Nat.lt_of_lt_of_le h (Nat.pow_le_pow_right (by decide) (show n ≤ k by (first | lia | omega))))
    rw [hb] at z
    cases z
theorem ring_lt {c : Nat} (h : c < N.n) : N.ring c < 2 ^ N.n := lt_of_bits fun k hk => by
  rcases ring_bit hk with rfl | ⟨q, _⟩
  · exact h
  · exact q
end RM

namespace Ring
open PySem L2
def maskOf (f : Nat → Bool) : Nat → Nat
  | 0 => 0
  | n + 1 => (if f n = true then 2 ^ n else 0) + maskOf f n
theorem mask_lt (f : Nat → Bool) : ∀ n, maskOf f n < 2 ^ n
  | 0 => by show 0 < 1; decide
  | n + 1 => by
    have ih := mask_lt f n
    have e : 2 ^ (n + 1) = 2 ^ n + 2 ^ n := by rw [Nat.pow_succ]; (first | lia | omega)
    unfold maskOf
    split <;> (first | lia | omega)
theorem mask_bit (f : Nat → Bool) (j : Nat) : ∀ n, (maskOf f n).testBit j = (decide (j < n) && f j)
  | 0 => by simp [maskOf]
  | n + 1 => by
    have ih := mask_bit f j n
    have hl := mask_lt f n
    unfold maskOf
    by_cases h : f n = true
    · rw [if_pos h]
      rcases Nat.lt_trichotomy j n with q | q | q
      · rw [Nat.testBit_two_pow_add_gt q, ih]
        simp [q, show j < n + 1 by (first | lia | omega)]
      · subst q
        rw [Nat.testBit_two_pow_add_eq, ih]
        simp [h]
      · have z : 2 ^ n + maskOf f n < 2 ^ j := Nat.lt_of_lt_of_le (show 2 ^ n + maskOf f n < 2 ^ (n + 1) by rw [Nat.pow_succ]; (first | lia | omega)) (Nat.pow_le_pow_right (by decide) q)
        rw [Nat.testBit_lt_two_pow z]
        simp [show ¬ j < n + 1 by (first | lia | omega)]
    · rw [if_neg h, Nat.zero_add, ih]
      by_cases q : j = n
      · subst q
        have h' : f j = false := by simpa using h
        simp [h']
      · by_cases r : j < n
        · simp [r, show j < n + 1 by (first | lia | omega)]
        · simp [r, show ¬ j < n + 1 by (first | lia | omega)]
theorem mask_all (n : Nat) : maskOf (fun _ => true) n = 2 ^ n - 1 := by
  induction n with
  | zero => rfl
  | succ n ih =>
    unfold maskOf
    rw [ih, if_pos rfl, Nat.pow_succ]
    have := Nat.two_pow_pos n
    (first | lia | omega)
theorem all_bit (n j : Nat) : (2 ^ n - 1).testBit j = decide (j < n) := by
  rw [← mask_all, mask_bit]
  simp
theorem or_sum {a b x y : Nat} (q : x / 2 + y / 2 = a / 2 + b / 2) (h : x % 2 + y % 2 = a % 2 + b % 2) : x + y = a + b := by (first | lia | omega)
theorem or_one {u v : Nat} (hu : u = 0 ∨ u = 1) (hv : v = 0 ∨ v = 1) : (u ||| v) + (u &&& v) = u + v := by
  rcases hu with rfl | rfl <;> rcases hv with rfl | rfl <;> rfl
theorem or_and : ∀ a b : Nat, (a ||| b) + (a &&& b) = a + b := by
  intro a
  induction a using Nat.strongRecOn with
  | ind a ih =>
    intro b
    by_cases h : a = 0
    · subst h
      simp
    · have q := ih (a / 2) (by (first | lia | omega)) (b / 2)
      rw [← Nat.or_div_two, ← Nat.and_div_two] at q
      refine or_sum q ?_
      have e1 : (a ||| b) % 2 = a % 2 ||| b % 2 := Nat.or_mod_two_pow (n := 1)
      have e2 : (a &&& b) % 2 = a % 2 &&& b % 2 := Nat.and_mod_two_pow (n := 1)
      rw [e1, e2]
      exact or_one (Nat.mod_two_eq_zero_or_one a) (Nat.mod_two_eq_zero_or_one b)
theorem or_int (a b : Nat) : Builtin.bitOr (a : Int) (b : Int) = ((a ||| b : Nat) : Int) := by
  have q := or_and a b
  rw [PyProof.Rows.bitOr_and, PyProof.Rows.bitAnd_pp (by (first | lia | omega)) (by (first | lia | omega))]
  have h : (a : Int) + b - ((a &&& b : Nat) : Int) = ((a ||| b : Nat) : Int) := by (first | lia | omega)
  simpa using h
theorem shl_int (k : Nat) : (1 : Int) * 2 ^ (k : Int).toNat = ((2 ^ k : Nat) : Int) := by
  rw [Int.toNat_natCast, Int.one_mul]
  simp
theorem tieAt_mem {ts : List Tie} {k : Nat} (h : k < ts.length) : tieAt ts k ∈ ts := by
  unfold tieAt
  rw [List.getD_eq_getElem?_getD]
  simp [h]
theorem tieAt_get {ts : List Tie} {k : Nat} (h : k < ts.length) : ts[k]? = some (tieAt ts k) := by
  unfold tieAt
  rw [List.getD_eq_getElem?_getD]
  simp [h]
def netOf (p : Nat) (ts : List Tie) (g : GoodWeb p ts) : RM.Net where
  p := p
  n := ts.length
  a := fun k => (tieAt ts k).1.toNat
  b := fun k => (tieAt ts k).2.1.toNat
  al := fun k hk => by
    have z := g.ties _ (tieAt_mem hk)
    have z0 := z.a0
    have z1 := z.a1
    (first | lia | omega)
  bl := fun k hk => by
    have z := g.ties _ (tieAt_mem hk)
    have z0 := z.b0
    have z1 := z.b1
    (first | lia | omega)
  ne := fun k hk e => by
    have z := g.ties _ (tieAt_mem hk)
    have z0 := z.a0
    have z1 := z.b0
    exact z.ne (by (first | lia | omega))
theorem net_a {p : Nat} {ts : List Tie} {g : GoodWeb p ts} {k : Nat} (h : k < ts.length) : (tieAt ts k).1 = (((netOf p ts g).a k : Nat) : Int) := by
  have z := (g.ties _ (tieAt_mem h)).a0
  show _ = (((tieAt ts k).1.toNat : Nat) : Int)
  (first | lia | omega)
theorem net_b {p : Nat} {ts : List Tie} {g : GoodWeb p ts} {k : Nat} (h : k < ts.length) : (tieAt ts k).2.1 = (((netOf p ts g).b k : Nat) : Int) := by
  have z := (g.ties _ (tieAt_mem h)).b0
  show _ = (((tieAt ts k).2.1.toNat : Nat) : Int)
  (first | lia | omega)
def mapV (f : Nat → Nat) (n : Nat) : List V := (List.range n).map fun x => V.int ((f x : Nat) : Int)
theorem mapV_len (f : Nat → Nat) (n : Nat) : (mapV f n).length = n := by unfold mapV; rw [List.length_map, List.length_range]
theorem mapV_get {f : Nat → Nat} {n x : Nat} (h : x < n) : (mapV f n)[x]? = some (.int ((f x : Nat) : Int)) := by
  unfold mapV
  rw [List.getElem?_map, List.getElem?_range h]
  rfl
theorem mapV_of {f : Nat → Nat} {n x : Nat} {v : V} (h : (mapV f n)[x]? = some v) : x < n ∧ v = .int ((f x : Nat) : Int) := by
  have hx : x < n := by
    have := (List.getElem?_eq_some_iff.mp h).1
    rwa [mapV_len] at this
  rw [mapV_get hx] at h
  exact ⟨hx, (Option.some.inj h).symm⟩
theorem mapV_succ (f : Nat → Nat) (n : Nat) : mapV f (n + 1) = mapV f n ++ [.int ((f n : Nat) : Int)] := by
  unfold mapV
  rw [List.range_succ, List.map_append]
  rfl
theorem rep_mapV (p : Nat) : (List.replicate p [V.int 0]).flatten = mapV (fun _ => 0) p := by
  induction p with
  | zero => rfl
  | succ p ih =>
    rw [mapV_succ, ← ih, List.replicate_succ', List.flatten_append]
    rfl
def Mapd (f : Nat → Nat) (H : Hp) (D : Addr) (i : Nat) (acc : List V) (H2 : Hp) : Prop := Same H H2 ∧ H2 D = some (.lst acc) ∧ acc = mapV f i
section
variable {f : Nat → Nat} {H H2 H3 : Hp} {D : Addr} {i : Nat} {acc : List V} {v : V}
theorem Mapd.start (hD : H D = none) : Mapd f H D 0 [] (upd H D (.lst [])) := ⟨Same.new hD, upd_same, rfl⟩
theorem Mapd.len (p : Mapd f H D i acc H2) : H2 D = some (.lst acc) ∧ acc.length ≤ i := ⟨p.2.1, by rw [p.2.2, mapV_len]; exact Nat.le_refl _⟩
theorem Mapd.next (p : Mapd f H D i acc H2) (hD : H D = none) (s : Same H2 H3) (hv : v = .int ((f i : Nat) : Int)) : H3 D = some (.lst acc) ∧ Mapd f H D (i + 1) (acc ++ [v]) (upd H3 D (.lst (acc ++ [v]))) := by
  refine ⟨s _ _ p.2.1, (p.1.trans s).put hD, upd_same, ?_⟩
  rw [mapV_succ, ← p.2.2, hv]
end
end Ring

namespace RM
theorem labs_congr {N : Net} {S S' : Nat → Bool} : ∀ {n : Nat}, (∀ k, k < n → S k = S' k) → N.labs S n = N.labs S' n
  | 0, _ => rfl
  | n + 1, h => by rw [labs_succ, labs_succ, labs_congr fun k hk => h k (by (first | lia | omega)), h n (by (first | lia | omega))]
end RM
namespace Ring
open PySem L2
def pieceOf (L : Nat → Nat) (p s : Nat) : List Nat := (List.range p).filter fun x => decide (L x = s)
section
variable {L : Nat → Nat} {p i : Nat} {H H2 H3 : Hp} {D b : Addr}
end
def labOf (p : Nat) (ts : List Tie) (g : GoodWeb p ts) (m : Nat) : Nat → Nat := (netOf p ts g).labs (fun k => m.testBit k) ts.length
theorem lab_all {p : Nat} {ts : List Tie} {g : GoodWeb p ts} : labOf p ts g (2 ^ ts.length - 1) = (netOf p ts g).lab ts.length := by
  unfold labOf RM.Net.lab
  exact RM.labs_congr fun k hk => by rw [all_bit]; simp [hk]
theorem min_int (a b : Nat) : (if (b : Int) < (a : Int) then (b : Int) else (a : Int)) = ((min a b : Nat) : Int) := by
  split <;> (first | lia | omega)
theorem max_int (a b : Nat) : (if (b : Int) > (a : Int) then (b : Int) else (a : Int)) = ((max a b : Nat) : Int) := by
  split <;> (first | lia | omega)
theorem dec_nat (a b : Nat) : decide (V.int (a : Int) = V.int (b : Int)) = decide (a = b) := by
  rw [Bool.eq_iff_iff]
  simp
  (first | lia | omega)
end Ring

namespace RM
variable {N : Net} {S : Nat → Bool}
structure Ins (N : Net) (S : Nat → Bool) (pt : Nat) (l : List Nat) : Prop where
  nd : l.Nodup
  mem : pt ∈ l
  lt : ∀ x ∈ l, x < N.p
  cn : ∀ x ∈ l, N.Conn S N.n pt x
def Clo (N : Net) (S : Nat → Bool) (j : Nat) (l : List Nat) : Prop := ∀ k, k < j → S k = true → (N.a k ∈ l ↔ N.b k ∈ l)
def Rnd (N : Net) (S : Nat → Bool) (pt r : Nat) (l : List Nat) : Prop := Ins N S pt l ∧ (Clo N S N.n l ∨ r + 1 ≤ l.length)
def Inr (N : Net) (S : Nat → Bool) (pt r j : Nat) (l : List Nat) : Prop := Ins N S pt l ∧ (r + 2 ≤ l.length ∨ (Clo N S j l ∧ (Clo N S N.n l ∨ r + 1 ≤ l.length)))
variable {pt r j : Nat} {l : List Nat}
theorem Rnd.start (h : pt < N.p) : Rnd N S pt 0 [pt] := ⟨⟨by simp, by simp, fun x hx => by simp at hx; (first | lia | omega), fun x hx => by simp at hx; subst hx; exact .refl⟩, .inr (by simp)⟩
theorem Rnd.enter (h : Rnd N S pt r l) : Inr N S pt r 0 l := ⟨h.1, .inr ⟨fun k hk => absurd hk (Nat.not_lt_zero _), h.2⟩⟩
theorem Inr.leave (h : Inr N S pt r N.n l) : Rnd N S pt (r + 1) l := ⟨h.1, h.2.elim (fun q => .inr q) fun q => .inl q.1⟩
theorem Inr.skip (h : Inr N S pt r j l) (hk : S j = true → (N.a j ∈ l ↔ N.b j ∈ l)) : Inr N S pt r (j + 1) l := by
  refine ⟨h.1, h.2.imp id fun ⟨c, q⟩ => ⟨fun k hlt hs => ?_, q⟩⟩
  by_cases e : k = j
  · subst e; exact hk hs
  · exact c k (by (first | lia | omega)) hs
theorem Inr.put (h : Inr N S pt r j l) (hj : j < N.n) (hs : S j = true) {u v : Nat} (huv : (u = N.a j ∧ v = N.b j) ∨ (u = N.b j ∧ v = N.a j)) (hu : u ∈ l) (hv : v ∉ l) : Inr N S pt r (j + 1) (l ++ [v]) := by
  have hvp : v < N.p := by
    rcases huv with ⟨_, e⟩ | ⟨_, e⟩
    · rw [e]; exact N.bl j hj
    · rw [e]; exact N.al j hj
  have hcv : N.Conn S N.n pt v := by
    have hc := h.1.cn u hu
    rcases huv with ⟨e1, e2⟩ | ⟨e1, e2⟩
    · rw [e2]; rw [e1] at hc; exact .fwd hc hj hs
    · rw [e2]; rw [e1] at hc; exact .bwd hc hj hs
  refine ⟨⟨?_, by simp [h.1.mem], fun x hx => ?_, fun x hx => ?_⟩, .inl ?_⟩
  · rw [List.nodup_append]
    refine ⟨h.1.nd, by simp, fun x hx y hy => ?_⟩
    have e : y = v := by simpa using hy
    subst e
    exact fun z => hv (z ▸ hx)
  · rcases List.mem_append.mp hx with q | q
    · exact h.1.lt x q
    · have e : x = v := by simpa using q
      rw [e]; exact hvp
  · rcases List.mem_append.mp hx with q | q
    · exact h.1.cn x q
    · have e : x = v := by simpa using q
      rw [e]; exact hcv
  · rw [List.length_append, List.length_singleton]
    have nc : ¬ Clo N S N.n l := fun c => by
      have z := c j hj hs
      rcases huv with ⟨e1, e2⟩ | ⟨e1, e2⟩
      · rw [← e1, ← e2] at z; exact hv (z.mp hu)
      · rw [← e1, ← e2] at z; exact hv (z.mpr hu)
    rcases h.2 with q | ⟨_, q | q⟩
    · (first | lia | omega)
    · exact absurd q nc
    · (first | lia | omega)
theorem nodup_le {l : List Nat} : ∀ {p : Nat}, l.Nodup → (∀ x ∈ l, x < p) → l.length ≤ p := by
  intro p hn hl
  have hp : l.Perm ((List.range p).filter fun x => decide (x ∈ l)) := by
    refine (List.perm_ext_iff_of_nodup hn (List.Pairwise.filter _ List.nodup_range)).mpr fun a => ?_
    rw [List.mem_filter, List.mem_range]
    simp
    exact fun h => hl a h
  rw [hp.length_eq]
  have := List.length_filter_le (fun x => decide (x ∈ l)) (List.range p)
  rwa [List.length_range] at this
theorem Rnd.mem (h : Rnd N S pt N.p l) (hp : pt < N.p) (x : Nat) : x ∈ l ↔ x < N.p ∧ N.labs S N.n x = N.labs S N.n pt := by
  have hle := nodup_le h.1.nd h.1.lt
  have hc : Clo N S N.n l := h.2.elim id fun q => by (first | lia | omega)
  constructor
  · intro hx
    exact ⟨h.1.lt x hx, (conn_labs (h.1.cn x hx)).symm⟩
  · rintro ⟨hx, he⟩
    have cn : N.Conn S N.n pt x := labs_conn _ _ _ he.symm
    clear he hx
    induction cn with
    | refl => exact h.1.mem
    | fwd _ hj hs ih => exact (hc _ hj hs).mp ih
    | bwd _ hj hs ih => exact (hc _ hj hs).mpr ih
end RM
namespace Ring
open PySem L2
theorem pair_range {p : Nat} {f : Nat → Bool} : ((List.range p).filter f).Pairwise (· < ·) := List.Pairwise.filter _ List.pairwise_lt_range
theorem reached_sorted {l : List Nat} {ns : List Int} {p : Nat} {f : Nat → Bool} (hn : l.Nodup) (hl : ∀ x, x ∈ l ↔ x < p ∧ f x = true) (hp : ns.Perm (l.map fun x => ((x : Nat) : Int))) (hs : ns.Pairwise (· ≤ ·)) : ns = ((List.range p).filter f).map fun x => ((x : Nat) : Int) := by
  have h1 : l.Perm ((List.range p).filter f) := by
    refine (List.perm_ext_iff_of_nodup hn (List.Pairwise.filter _ List.nodup_range)).mpr fun a => ?_
    rw [hl, List.mem_filter, List.mem_range]
  refine List.Perm.eq_of_pairwise (fun x y _ _ h1 h2 => Int.le_antisymm h1 h2) hs ?_ (hp.trans (h1.map _))
  rw [List.pairwise_map]
  exact List.Pairwise.imp (fun {a b} h => by (first | lia | omega)) (pair_range (p := p) (f := f))
theorem piece_head {L : Nat → Nat} {p s : Nat} (hle : ∀ x, L x ≤ x) (hs : L s = s) (hp : s < p) : (pieceOf L p s)[0]? = some s := by
  unfold pieceOf
  obtain ⟨d, rfl⟩ := Nat.exists_eq_add_of_lt hp
  rw [show s + d + 1 = s + (d + 1) by (first | lia | omega), List.range_add, List.filter_append]
  have e : (List.range s).filter (fun x => decide (L x = s)) = [] := by
    rw [List.filter_eq_nil_iff]
    intro x hx
    have h1 := List.mem_range.mp hx
    have h2 := hle x
    simp
    (first | lia | omega)
  rw [e, List.nil_append, List.range_succ_eq_map, List.map_cons, List.filter_cons, if_pos (by simp [hs])]
  rfl
theorem natsV_ints (l : List Nat) : natsV l = (l.map fun x => ((x : Nat) : Int)).map V.int := by unfold natsV; rw [List.map_map]; rfl
theorem inV_nats (u : Nat) (l : List Nat) : inV (.int (u : Int)) (natsV l) = decide (u ∈ l) := by
  unfold inV natsV
  rw [List.any_map, Bool.eq_iff_iff, List.any_eq_true]
  simp only [Function.comp, decide_eq_true_eq]
  constructor
  · rintro ⟨x, hx, h⟩
    have e : ((x : Nat) : Int) = (u : Int) := eq_of_beq h
    have : x = u := by (first | lia | omega)
    exact this ▸ hx
  · intro h
    exact ⟨u, h, by simp [eqV]⟩
theorem flat_nats (l : List Nat) : (natsV l).all flatV = true := by
  unfold natsV
  rw [List.all_map, List.all_eq_true]
  intro x _
  rfl
theorem and_int (a b : Nat) : Builtin.bitAnd (a : Int) (b : Int) = ((a &&& b : Nat) : Int) := by
  rw [PyProof.Rows.bitAnd_pp (by (first | lia | omega)) (by (first | lia | omega))]
  simp
end Ring

namespace RM
variable {N : Net}
end RM
namespace Ring
open PySem L2
def orT (T : Nat → Nat) : Nat → Nat
  | 0 => 0
  | n + 1 => orT T n ||| T n
theorem orT_bit (T : Nat → Nat) (j : Nat) : ∀ n, (orT T n).testBit j = true ↔ ∃ x, x < n ∧ (T x).testBit j = true
  | 0 => by simp [orT]
  | n + 1 => by
    unfold orT
    rw [Nat.testBit_or, Bool.or_eq_true, orT_bit T j n]
    constructor
    · rintro (⟨x, hx, h⟩ | h)
      · exact ⟨x, by (first | lia | omega), h⟩
      · exact ⟨n, by (first | lia | omega), h⟩
    · rintro ⟨x, hx, h⟩
      by_cases e : x = n
      · subst e; exact .inr h
      · exact .inl ⟨x, by (first | lia | omega), h⟩
section
variable {p : Nat} {ts : List Tie} {g : GoodWeb p ts}
def forestN (p : Nat) (ts : List Tie) (g : GoodWeb p ts) : Nat := maskOf (netOf p ts g).inF ts.length
theorem orT_forest : orT ((netOf p ts g).trail ts.length) p = forestN p ts g := by
  refine Nat.eq_of_testBit_eq fun j => ?_
  unfold forestN
  rw [mask_bit, Bool.eq_iff_iff, orT_bit]
  simp only [Bool.and_eq_true, decide_eq_true_eq]
  constructor
  · rintro ⟨x, _, h⟩
    exact RM.trail_in _ _ _ h
  · rintro ⟨h1, h2⟩
    rcases RM.forest_on (N := netOf p ts g) h1 h2 with h | h
    · exact ⟨_, (netOf p ts g).al j h1, h⟩
    · exact ⟨_, (netOf p ts g).bl j h1, h⟩
theorem chordM_bit (j : Nat) : ((2 ^ ts.length - 1) ^^^ forestN p ts g).testBit j = (decide (j < ts.length) && !(netOf p ts g).inF j) := by
  unfold forestN
  rw [Nat.testBit_xor, all_bit, mask_bit]
  cases decide (j < ts.length) <;> cases (netOf p ts g).inF j <;> rfl
theorem chordM_lt : (2 ^ ts.length - 1) ^^^ forestN p ts g < 2 ^ ts.length := Nat.xor_lt_two_pow (by have := Nat.two_pow_pos ts.length; (first | lia | omega)) (mask_lt _ _)
theorem chordM_ties : tiesOf (((2 ^ ts.length - 1) ^^^ forestN p ts g : Nat) : Int) = (netOf p ts g).chords := by
  rw [ties_nat chordM_lt]
  unfold RM.Net.chords
  refine List.filter_congr fun k hk => ?_
  have := List.mem_range.mp hk
  rw [chordM_bit]
  simp [this]
end
theorem pow_sub (n : Nat) : ((2 : Int) ^ n - 1) = ((2 ^ n - 1 : Nat) : Int) := by
  have h : ((2 : Int) ^ n) = ((2 ^ n : Nat) : Int) := by simp
  have := Nat.two_pow_pos n
  (first | lia | omega)
theorem inV_no {S : Int} {l : List Nat} (h : ∀ c ∈ l, S ≠ ((c : Nat) : Int)) : inV (.int S) (natsV l) = false := by
  unfold inV natsV
  rw [List.any_map, List.any_eq_false]
  intro x hx z
  exact h x hx (eq_of_beq z).symm
theorem nats_at {l : List Nat} {i : Nat} {k : Nat} (h : l[i]? = some k) : (natsV l)[i]? = some (.int (k : Int)) := by
  unfold natsV
  rw [List.getElem?_map, h]
  rfl
theorem eqv_nats (l : List Nat) : PyData.eqv (.list (l.map natD)) (.list (l.map natD)) = true := SeqAt.eqv_refl _ (by
  have e : (PyData.list (l.map natD)).canLay0 = PyData.canLayAll0 (l.map natD) := by simp [PyData.canLay0]
  rw [e, lay_nats])
end Ring

namespace Ring
open PySem L2
def Filt (f : Nat → Bool) (l : List Nat) (H : Hp) (D : Addr) (i : Nat) (acc : List V) (H2 : Hp) : Prop := Same H H2 ∧ H2 D = some (.lst acc) ∧ acc = natsV ((l.take i).filter f)
section
variable {f : Nat → Bool} {l : List Nat} {H H2 H3 : Hp} {D : Addr} {i k : Nat} {acc : List V}
theorem Filt.start (hD : H D = none) : Filt f l H D 0 [] (upd H D (.lst [])) := ⟨Same.new hD, upd_same, rfl⟩
theorem Filt.len (p : Filt f l H D i acc H2) : H2 D = some (.lst acc) ∧ acc.length ≤ i := by
  refine ⟨p.2.1, ?_⟩
  rw [p.2.2, natsV_len]
  exact Nat.le_trans (List.length_filter_le _ _) (by rw [List.length_take]; (first | lia | omega))
theorem Filt.yes (p : Filt f l H D i acc H2) (hD : H D = none) (s : Same H2 H3) (hk : l[i]? = some k) (hf : f k = true) : H3 D = some (.lst acc) ∧ Filt f l H D (i + 1) (acc ++ [.int (k : Int)]) (upd H3 D (.lst (acc ++ [.int (k : Int)]))) := by
  refine ⟨s _ _ p.2.1, (p.1.trans s).put hD, upd_same, ?_⟩
  rw [List.take_add_one, hk, List.filter_append]
  show _ = natsV (_ ++ [k].filter f)
  rw [List.filter_cons, if_pos hf, List.filter_nil, natsV_snoc, ← p.2.2]
theorem Filt.no (p : Filt f l H D i acc H2) (s : Same H2 H3) (hk : l[i]? = some k) (hf : f k = false) : Filt f l H D (i + 1) acc H3 := by
  refine ⟨p.1.trans s, s _ _ p.2.1, ?_⟩
  rw [List.take_add_one, hk, List.filter_append]
  show _ = natsV (_ ++ [k].filter f)
  rw [List.filter_cons, if_neg (by rw [hf]; simp), List.filter_nil, List.append_nil]
  exact p.2.2
theorem Filt.fin (p : Filt f l H D l.length acc H2) : H2 D = some (.lst (natsV (l.filter f))) := by rw [p.2.1, p.2.2, List.take_length]
end
section
variable {f : Nat → Int} {l : List Nat} {H H2 H3 : Hp} {D : Addr} {i k : Nat} {acc : List V} {v : V}
end
end Ring

namespace RM
theorem xsum_cnt (f : Nat → Bool) : ∀ n, xsum f n = decide (cnt f n % 2 = 1)
  | 0 => rfl
  | n + 1 => by
    unfold xsum cnt
    rw [xsum_cnt f n]
    by_cases h : f n = true
    · rw [h, if_pos rfl]
      by_cases q : cnt f n % 2 = 1
      · have q' : ¬ (cnt f n + 1) % 2 = 1 := by (first | lia | omega)
        simp [q, q']
      · have q' : (cnt f n + 1) % 2 = 1 := by (first | lia | omega)
        simp [q, q']
    · have h' : f n = false := by simpa using h
      rw [h', if_neg (by decide)]
      simp
end RM
namespace Ring
open PySem L2
section
variable {p : Nat} {ts : List Tie} (g : GoodWeb p ts)
include g
end
section
variable {p : Nat} {ts : List Tie}
end
end Ring

namespace L2
open PySem PySem.Spec PyProof.Rows
end L2

namespace Ring
open PySem L2
end Ring

namespace RM
def sm (f : Nat → Nat) : Nat → Nat
  | 0 => 0
  | n + 1 => sm f n + f n
theorem sm_congr {f g : Nat → Nat} : ∀ {n : Nat}, (∀ k, k < n → f k = g k) → sm f n = sm g n
  | 0, _ => rfl
  | n + 1, h => by
    show sm f n + f n = sm g n + g n
    rw [sm_congr fun k hk => h k (by (first | lia | omega)), h n (by (first | lia | omega))]
theorem sm_add (f g : Nat → Nat) : ∀ n, sm (fun k => f k + g k) n = sm f n + sm g n
  | 0 => rfl
  | n + 1 => by
    show sm (fun k => f k + g k) n + (f n + g n) = sm f n + f n + (sm g n + g n)
    rw [sm_add f g n]
    (first | lia | omega)
theorem sm_zero : ∀ n, sm (fun _ => 0) n = 0
  | 0 => rfl
  | n + 1 => by
    show sm (fun _ => 0) n + 0 = 0
    rw [sm_zero n]
theorem sm_comm (f : Nat → Nat → Nat) (n : Nat) : ∀ p, sm (fun x => sm (fun k => f x k) n) p = sm (fun k => sm (fun x => f x k) p) n
  | 0 => (sm_zero n).symm
  | p + 1 => by
    show sm (fun x => sm (fun k => f x k) n) p + sm (fun k => f p k) n = sm (fun k => sm (fun x => f x k) p + f p k) n
    rw [sm_comm f n p, sm_add]
theorem cnt_sm (f : Nat → Bool) : ∀ n, cnt f n = sm (fun k => if f k = true then 1 else 0) n
  | 0 => rfl
  | n + 1 => by
    show cnt f n + (if f n = true then 1 else 0) = sm (fun k => if f k = true then 1 else 0) n + (if f n = true then 1 else 0)
    rw [cnt_sm f n]
theorem sm_le {f g : Nat → Nat} : ∀ {n : Nat}, (∀ k, k < n → f k ≤ g k) → sm f n ≤ sm g n
  | 0, _ => Nat.le_refl _
  | n + 1, h => by
    have h1 := sm_le (f := f) (g := g) (n := n) fun k hk => h k (by (first | lia | omega))
    have h2 := h n (by (first | lia | omega))
    show sm f n + f n ≤ sm g n + g n
    (first | lia | omega)
theorem sm_eq {f g : Nat → Nat} {n : Nat} (h : ∀ k, k < n → f k ≤ g k) (e : sm f n = sm g n) : ∀ k, k < n → f k = g k := by
  induction n with
  | zero => exact fun k hk => absurd hk (Nat.not_lt_zero _)
  | succ n ih =>
    intro k hk
    have h1 := sm_le (f := f) (g := g) (n := n) fun k hk => h k (by (first | lia | omega))
    have h2 := h n (by (first | lia | omega))
    have e : sm f n + f n = sm g n + g n := e
    by_cases hkn : k = n
    · subst hkn
      (first | lia | omega)
    · exact ih (fun j hj => h j (by (first | lia | omega))) (by (first | lia | omega)) k (by (first | lia | omega))
theorem cnt_le {f g : Nat → Bool} {n : Nat} (h : ∀ k, k < n → f k = true → g k = true) : cnt f n ≤ cnt g n := by
  rw [cnt_sm, cnt_sm]
  refine sm_le fun k hk => ?_
  by_cases hf : f k = true
  · rw [if_pos hf, if_pos (h k hk hf)]
    exact Nat.le_refl _
  · rw [if_neg hf]
    exact Nat.zero_le _
theorem cnt_same {f g : Nat → Bool} {n : Nat} (h : ∀ k, k < n → f k = true → g k = true) (e : cnt f n = cnt g n) : ∀ k, k < n → g k = true → f k = true := fun k hk hg => by
  rw [cnt_sm, cnt_sm] at e
  have q := sm_eq (n := n) (fun k hk => by
    by_cases hf : f k = true
    · rw [if_pos hf, if_pos (h k hk hf)]
      exact Nat.le_refl _
    · rw [if_neg hf]
      exact Nat.zero_le _) e k hk
  rw [if_pos hg] at q
  by_cases hf : f k = true
  · exact hf
  · rw [if_neg hf] at q
    (first | lia | omega)
theorem cnt_some {f : Nat → Bool} : ∀ {n : Nat}, 0 < cnt f n → ∃ k, k < n ∧ f k = true
  | 0, h => absurd h (Nat.lt_irrefl _)
  | n + 1, h => by
    by_cases hf : f n = true
    · exact ⟨n, by (first | lia | omega), hf⟩
    · have h : 0 < cnt f n + (if f n = true then 1 else 0) := h
      rw [if_neg hf] at h
      obtain ⟨k, hk, q⟩ := cnt_some (f := f) (n := n) (by (first | lia | omega))
      exact ⟨k, by (first | lia | omega), q⟩
theorem cnt_pos {f : Nat → Bool} {k : Nat} (hf : f k = true) : ∀ {n : Nat}, k < n → 0 < cnt f n
  | 0, h => absurd h (Nat.not_lt_zero _)
  | n + 1, h => by
    show 0 < cnt f n + (if f n = true then 1 else 0)
    by_cases hk : k = n
    · subst hk
      rw [if_pos hf]
      (first | lia | omega)
    · have := cnt_pos hf (n := n) (by (first | lia | omega))
      (first | lia | omega)
theorem cnt_two {f : Nat → Bool} : ∀ {n : Nat}, 2 ≤ cnt f n → ∃ c d, c < d ∧ d < n ∧ f c = true ∧ f d = true
  | 0, h => absurd h (by show ¬ 2 ≤ 0; (first | lia | omega))
  | n + 1, h => by
    have h : 2 ≤ cnt f n + (if f n = true then 1 else 0) := h
    by_cases hf : f n = true
    · rw [if_pos hf] at h
      obtain ⟨k, hk, q⟩ := cnt_some (f := f) (n := n) (by (first | lia | omega))
      exact ⟨k, n, hk, by (first | lia | omega), q, hf⟩
    · rw [if_neg hf] at h
      obtain ⟨c, d, h1, h2, h3, h4⟩ := cnt_two (f := f) (n := n) (by (first | lia | omega))
      exact ⟨c, d, h1, by (first | lia | omega), h3, h4⟩
theorem two_cnt {f : Nat → Bool} {u v : Nat} (hu : f u = true) (hv : f v = true) (ne : u ≠ v) : ∀ {n : Nat}, u < n → v < n → 2 ≤ cnt f n
  | 0, h, _ => absurd h (Nat.not_lt_zero _)
  | n + 1, h1, h2 => by
    show 2 ≤ cnt f n + (if f n = true then 1 else 0)
    by_cases e1 : u = n
    · subst e1
      have := cnt_pos hv (n := u) (by (first | lia | omega))
      rw [if_pos hu]
      (first | lia | omega)
    · by_cases e2 : v = n
      · subst e2
        have := cnt_pos hu (n := v) (by (first | lia | omega))
        rw [if_pos hv]
        (first | lia | omega)
      · have := two_cnt hu hv ne (n := n) (by (first | lia | omega)) (by (first | lia | omega))
        (first | lia | omega)
theorem cnt_eq (a : Nat) : ∀ n, cnt (fun x => decide (a = x)) n = if a < n then 1 else 0
  | 0 => rfl
  | n + 1 => by
    show cnt (fun x => decide (a = x)) n + (if decide (a = n) = true then 1 else 0) = _
    rw [cnt_eq a n]
    by_cases e : a = n
    · subst e
      simp
    · have d : (if decide (a = n) = true then 1 else 0) = 0 := if_neg (by simpa using e)
      rw [d]
      by_cases h : a < n
      · rw [if_pos h, if_pos (by (first | lia | omega))]
      · rw [if_neg h, if_neg (by (first | lia | omega))]
theorem cnt_or {f g : Nat → Bool} : ∀ {n : Nat}, (∀ x, x < n → ¬ (f x = true ∧ g x = true)) → cnt (fun x => f x ^^ g x) n = cnt f n + cnt g n
  | 0, _ => rfl
  | n + 1, h => by
    show cnt (fun x => f x ^^ g x) n + (if (f n ^^ g n) = true then 1 else 0) = cnt f n + (if f n = true then 1 else 0) + (cnt g n + (if g n = true then 1 else 0))
    rw [cnt_or fun x hx => h x (by (first | lia | omega))]
    have q := h n (by (first | lia | omega))
    cases hf : f n <;> cases hg : g n
    · simp
    · simp
      (first | lia | omega)
    · simp
      (first | lia | omega)
    · exact absurd ⟨hf, hg⟩ q
variable {N : Net}
def Net.dg (N : Net) (m x : Nat) : Nat := cnt (fun k => m.testBit k && N.inc k x) N.n
theorem bd_dg (m x : Nat) : N.bd m x = decide (N.dg m x % 2 = 1) := xsum_cnt _ _
theorem even_dg {m x : Nat} (e : N.Even m) (hx : x < N.p) : N.dg m x % 2 = 0 := by
  have h := e x hx
  rw [bd_dg] at h
  have := of_decide_eq_false h
  (first | lia | omega)
theorem inc_iff {k x : Nat} (hk : k < N.n) : N.inc k x = true ↔ (N.a k = x ∨ N.b k = x) := by
  have ne := N.ne k hk
  unfold Net.inc
  by_cases h1 : N.a k = x
  · have h2 : ¬ N.b k = x := fun z => ne (h1.trans z.symm)
    simp [h1, h2]
  · by_cases h2 : N.b k = x
    · simp [h1, h2]
    · simp [h1, h2]
theorem inc_two {k : Nat} (hk : k < N.n) : cnt (N.inc k) N.p = 2 := by
  have ne := N.ne k hk
  have e : cnt (N.inc k) N.p = cnt (fun x => decide (N.a k = x) ^^ decide (N.b k = x)) N.p := rfl
  rw [e, cnt_or fun x _ ⟨h1, h2⟩ => ne ((of_decide_eq_true h1).trans (of_decide_eq_true h2).symm), cnt_eq, cnt_eq, if_pos (N.al k hk), if_pos (N.bl k hk)]
theorem dg_sum (m : Nat) : sm (fun x => N.dg m x) N.p = 2 * cnt (fun k => m.testBit k) N.n := by
  have e : sm (fun x => N.dg m x) N.p = sm (fun x => sm (fun k => if (m.testBit k && N.inc k x) = true then 1 else 0) N.n) N.p := sm_congr fun x _ => cnt_sm _ _
  rw [e, sm_comm, cnt_sm]
  have d : ∀ n, 2 * sm (fun k => if m.testBit k = true then 1 else 0) n = sm (fun k => (if m.testBit k = true then 1 else 0) + (if m.testBit k = true then 1 else 0)) n := fun n => by
    rw [sm_add]
    (first | lia | omega)
  rw [d]
  refine sm_congr fun k hk => ?_
  by_cases h : m.testBit k = true
  · rw [if_pos h]
    have q := inc_two hk
    rw [cnt_sm] at q
    show _ = 2
    exact (sm_congr fun x _ => by rw [h, Bool.true_and]).trans q
  · rw [if_neg h]
    have h' : m.testBit k = false := by simpa using h
    have : sm (fun x => if (m.testBit k && N.inc k x) = true then 1 else 0) N.p = sm (fun _ => 0) N.p := sm_congr fun x _ => by rw [h']; rfl
    rw [this, sm_zero]
theorem dg_le {q m : Nat} (h : ∀ k, q.testBit k = true → m.testBit k = true) (x : Nat) : N.dg q x ≤ N.dg m x := cnt_le fun k _ hq => by
  rw [Bool.and_eq_true] at hq ⊢
  exact ⟨h k hq.1, hq.2⟩
theorem dg_at {m k x : Nat} (hk : k < N.n) (hb : m.testBit k = true) (hx : N.a k = x ∨ N.b k = x) : 0 < N.dg m x := cnt_pos (k := k) (by rw [hb, Bool.true_and]; exact (inc_iff hk).mpr hx) hk
theorem dg_some {m x : Nat} (h : 0 < N.dg m x) : ∃ k, k < N.n ∧ m.testBit k = true ∧ (N.a k = x ∨ N.b k = x) := by
  obtain ⟨k, hk, q⟩ := cnt_some h
  rw [Bool.and_eq_true] at q
  exact ⟨k, hk, q.1, (inc_iff hk).mp q.2⟩
theorem alone {m x y : Nat} (h : N.dg m x = 0) (c : N.Conn (fun k => m.testBit k) N.n x y) : y = x := by
  induction c with
  | refl => rfl
  | fwd _ hj hs ih => exact absurd (dg_at hj hs (.inl ih)) (by (first | lia | omega))
  | bwd _ hj hs ih => exact absurd (dg_at hj hs (.inr ih)) (by (first | lia | omega))
theorem conn_path {S : Nat → Bool} {k u v : Nat} (hk : k ≤ N.n) (c : N.Conn S k u v) : ∃ t, (∀ j, t.testBit j = true → j < k ∧ S j = true) ∧ ∀ x, N.bd t x = (decide (u = x) ^^ decide (v = x)) := by
  induction c with
  | refl => exact ⟨0, fun j hj => by simp at hj, fun x => by rw [bd_zero]; simp⟩
  | fwd _ hj hs ih =>
    rename_i j _
    obtain ⟨t, h1, h2⟩ := ih
    refine ⟨t ^^^ 2 ^ j, fun i hi => ?_, fun x => ?_⟩
    · rw [Nat.testBit_xor, Nat.testBit_two_pow] at hi
      by_cases e : j = i
      · subst e
        exact ⟨hj, hs⟩
      · rw [decide_eq_false e, Bool.xor_false] at hi
        exact h1 i hi
    · rw [bd_xor, h2, bd_pow (by (first | lia | omega))]
      unfold Net.inc
      cases decide (u = x) <;> cases decide (N.a j = x) <;> cases decide (N.b j = x) <;> rfl
  | bwd _ hj hs ih =>
    rename_i j _
    obtain ⟨t, h1, h2⟩ := ih
    refine ⟨t ^^^ 2 ^ j, fun i hi => ?_, fun x => ?_⟩
    · rw [Nat.testBit_xor, Nat.testBit_two_pow] at hi
      by_cases e : j = i
      · subst e
        exact ⟨hj, hs⟩
      · rw [decide_eq_false e, Bool.xor_false] at hi
        exact h1 i hi
    · rw [bd_xor, h2, bd_pow (by (first | lia | omega))]
      unfold Net.inc
      cases decide (u = x) <;> cases decide (N.a j = x) <;> cases decide (N.b j = x) <;> rfl
def Net.Ring (N : Net) (m : Nat) : Prop := m ≠ 0 ∧ N.Even m ∧ ∀ q, (∀ k, q.testBit k = true → m.testBit k = true) → N.Even q → q = 0 ∨ q = m
section
variable {m s : Nat}
theorem ring_of (hm : m < 2 ^ N.n) (ev : N.Even m) (C : Nat → Bool) (hC : ∀ x, x < N.p → C x = decide (N.labs (fun k => m.testBit k) N.n x = s)) (h2 : 2 ≤ cnt C N.p)
    (tie : ∀ k, k < N.n → m.testBit k = true → C (N.a k) = true) (hl : cnt C N.p = cnt (fun k => m.testBit k) N.n) : N.Ring m := by
  have inC : ∀ k, k < N.n → m.testBit k = true → C (N.a k) = true ∧ C (N.b k) = true := fun k hk hb => by
    have h := tie k hk hb
    refine ⟨h, ?_⟩
    rw [hC _ (N.al k hk)] at h
    rw [hC _ (N.bl k hk)]
    rw [labs_tie (S := fun k => m.testBit k) hk hb] at h
    exact h
  have pos : ∀ x, x < N.p → C x = true → 0 < N.dg m x := fun x hx hc => by
    cases hz : N.dg m x with
    | succ d => (first | lia | omega)
    | zero =>
      exfalso
      obtain ⟨y, hy, hcy, hne⟩ : ∃ y, y < N.p ∧ C y = true ∧ y ≠ x := by
        obtain ⟨c, d, h1, h3, h4, h5⟩ := cnt_two h2
        by_cases e : c = x
        · exact ⟨d, h3, h5, by (first | lia | omega)⟩
        · exact ⟨c, by (first | lia | omega), h4, e⟩
      rw [hC x hx] at hc
      rw [hC y hy] at hcy
      exact hne (alone hz (labs_conn _ _ _ ((of_decide_eq_true hc).trans (of_decide_eq_true hcy).symm)))
  have two : ∀ x, x < N.p → (if C x = true then 2 else 0) = N.dg m x := by
    refine sm_eq (fun x hx => ?_) ?_
    · by_cases hc : C x = true
      · rw [if_pos hc]
        have h1 := pos x hx hc
        have h3 := even_dg ev hx
        (first | lia | omega)
      · rw [if_neg hc]
        exact Nat.zero_le _
    · rw [dg_sum, ← hl, cnt_sm]
      have d : ∀ n, 2 * sm (fun k => if C k = true then 1 else 0) n = sm (fun k => (if C k = true then 1 else 0) + (if C k = true then 1 else 0)) n := fun n => by
        rw [sm_add]
        (first | lia | omega)
      rw [d]
      exact sm_congr fun x _ => by split <;> rfl
  obtain ⟨c0, hc0, hcc⟩ := cnt_some (f := C) (n := N.p) (by (first | lia | omega))
  refine ⟨fun z => ?_, ev, fun q hq eq => ?_⟩
  · have h := pos c0 hc0 hcc
    obtain ⟨k, _, hb, _⟩ := dg_some h
    rw [z] at hb
    simp at hb
  · by_cases hq0 : q = 0
    · exact .inl hq0
    · right
      have full : ∀ x, x < N.p → 0 < N.dg q x → ∀ k, k < N.n → m.testBit k = true → (N.a k = x ∨ N.b k = x) → q.testBit k = true := fun x hx h k hk hb hx2 => by
        have h1 := dg_le (N := N) hq x
        have h3 := even_dg eq hx
        have h4 := two x hx
        have h5 : N.dg q x = N.dg m x := by
          by_cases hc : C x = true
          · rw [if_pos hc] at h4
            (first | lia | omega)
          · rw [if_neg hc] at h4
            (first | lia | omega)
        have h6 := cnt_same (f := fun k => q.testBit k && N.inc k x) (g := fun k => m.testBit k && N.inc k x) (n := N.n) (fun k _ z => by
          rw [Bool.and_eq_true] at z ⊢
          exact ⟨hq k z.1, z.2⟩) h5 k hk (by rw [hb, Bool.true_and]; exact (inc_iff hk).mpr hx2)
        rw [Bool.and_eq_true] at h6
        exact h6.1
      obtain ⟨k0, hb0⟩ : ∃ k, q.testBit k = true := Nat.exists_testBit_of_ne_zero hq0
      have hk0 : k0 < N.n := bits_lt hm (hq k0 hb0)
      have spread : ∀ {y}, N.Conn (fun k => m.testBit k) N.n (N.a k0) y → 0 < N.dg q y := fun {y} c => by
        induction c with
        | refl => exact dg_at hk0 hb0 (.inl rfl)
        | fwd _ hj hs ih => exact dg_at hj (full _ (N.al _ hj) ih _ hj hs (.inl rfl)) (.inr rfl)
        | bwd _ hj hs ih => exact dg_at hj (full _ (N.bl _ hj) ih _ hj hs (.inr rfl)) (.inl rfl)
      refine Nat.eq_of_testBit_eq fun k => ?_
      cases hb : m.testBit k with
      | false =>
        cases hz : q.testBit k with
        | false => rfl
        | true =>
          have := hq k hz
          rw [hb] at this
          cases this
      | true =>
        have hk := bits_lt hm hb
        have e1 := (inC k hk hb).1
        have e2 := (inC k0 hk0 (hq k0 hb0)).1
        rw [hC _ (N.al k hk)] at e1
        rw [hC _ (N.al k0 hk0)] at e2
        exact full _ (N.al k hk) (spread (labs_conn _ _ _ ((of_decide_eq_true e2).trans (of_decide_eq_true e1).symm))) k hk hb (.inl rfl)
theorem ring_piece (hm : m < 2 ^ N.n) (r : N.Ring m) : ∃ k0, k0 < N.n ∧ m.testBit k0 = true ∧ ∀ k, k < N.n → m.testBit k = true → N.labs (fun k => m.testBit k) N.n (N.a k) = N.labs (fun k => m.testBit k) N.n (N.a k0) := by
  obtain ⟨h0, ev, mn⟩ := r
  obtain ⟨k0, hb0⟩ := Nat.exists_testBit_of_ne_zero h0
  have hk0 := bits_lt hm hb0
  refine ⟨k0, hk0, hb0, ?_⟩
  generalize hs : N.labs (fun k => m.testBit k) N.n (N.a k0) = s
  have bit : ∀ k, (Ring.maskOf (fun k => m.testBit k && decide (N.labs (fun k => m.testBit k) N.n (N.a k) = s)) N.n).testBit k = (decide (k < N.n) && (m.testBit k && decide (N.labs (fun k => m.testBit k) N.n (N.a k) = s))) := fun k => Ring.mask_bit _ k _
  have sub : ∀ k, (Ring.maskOf (fun k => m.testBit k && decide (N.labs (fun k => m.testBit k) N.n (N.a k) = s)) N.n).testBit k = true → m.testBit k = true := fun k hk => by
    rw [bit, Bool.and_eq_true, Bool.and_eq_true] at hk
    exact hk.2.1
  have evn : N.Even (Ring.maskOf (fun k => m.testBit k && decide (N.labs (fun k => m.testBit k) N.n (N.a k) = s)) N.n) := fun x hx => by
    have e : N.bd (Ring.maskOf (fun k => m.testBit k && decide (N.labs (fun k => m.testBit k) N.n (N.a k) = s)) N.n) x = (decide (N.labs (fun k => m.testBit k) N.n x = s) && N.bd m x) := by
      unfold Net.bd
      rw [← xsum_and]
      refine xsum_congr fun k hk => ?_
      rw [bit, decide_eq_true hk, Bool.true_and]
      cases hb : m.testBit k with
      | false => simp
      | true =>
        cases hi : N.inc k x with
        | false => simp
        | true =>
          have el : N.labs (fun k => m.testBit k) N.n (N.a k) = N.labs (fun k => m.testBit k) N.n x := by
            rcases (inc_iff hk).mp hi with z | z
            · rw [z]
            · rw [← z]
              exact labs_tie (S := fun k => m.testBit k) hk hb
          rw [el]
          simp
    rw [e, ev x hx, Bool.and_false]
  rcases mn _ sub evn with q | q
  · have := bit k0
    rw [q, hb0, hs, decide_eq_true hk0] at this
    simp at this
  · intro k hk hb
    have h := bit k
    rw [q, hb, decide_eq_true hk] at h
    exact of_decide_eq_true (by simpa using h.symm)
theorem roots_set (S : Nat → Bool) : ∀ k, k ≤ N.n → cnt (N.root S k) N.p + cnt (fun j => S j && !decide (N.labs S j (N.a j) = N.labs S j (N.b j))) k = N.p
  | 0, _ => by
    show cnt (N.root S 0) N.p + 0 = N.p
    rw [cnt_all (f := N.root S 0) fun x _ => decide_eq_true rfl]
    rfl
  | k + 1, hk => by
    have ih := roots_set S k (by (first | lia | omega))
    have st := roots_step (N := N) (S := S) (k := k) (by (first | lia | omega))
    show cnt (N.root S (k + 1)) N.p + (cnt (fun j => S j && !decide (N.labs S j (N.a j) = N.labs S j (N.b j))) k + if (S k && !decide (N.labs S k (N.a k) = N.labs S k (N.b k))) = true then 1 else 0) = N.p
    (first | lia | omega)
theorem ring_len (hm : m < 2 ^ N.n) (r : N.Ring m) (C : Nat → Bool) (hC : ∀ x, x < N.p → C x = decide (N.labs (fun k => m.testBit k) N.n x = s))
    (tie : ∀ k, k < N.n → m.testBit k = true → C (N.a k) = true) : 2 ≤ cnt C N.p ∧ cnt C N.p = cnt (fun k => m.testBit k) N.n ∧ ∀ x, x < N.p → C x = false → N.labs (fun k => m.testBit k) N.n x = x ∧ ∀ y, N.labs (fun k => m.testBit k) N.n y = x → y = x := by
  obtain ⟨h0, ev, mn⟩ := r
  obtain ⟨k0, hb0⟩ := Nat.exists_testBit_of_ne_zero h0
  have hk0 := bits_lt hm hb0
  have inC : ∀ k, k < N.n → m.testBit k = true → C (N.a k) = true ∧ C (N.b k) = true := fun k hk hb => by
    have h := tie k hk hb
    refine ⟨h, ?_⟩
    rw [hC _ (N.al k hk)] at h
    rw [hC _ (N.bl k hk), ← labs_tie (S := fun k => m.testBit k) hk hb]
    exact h
  have h2 : 2 ≤ cnt C N.p := two_cnt (inC k0 hk0 hb0).1 (inC k0 hk0 hb0).2 (N.ne k0 hk0) (N.al k0 hk0) (N.bl k0 hk0)
  have none : ∀ x, x < N.p → C x = false → N.dg m x = 0 := fun x hx hc => by
    cases hz : N.dg m x with
    | zero => rfl
    | succ d =>
      exfalso
      obtain ⟨k, hk, hb, hx2⟩ := dg_some (N := N) (m := m) (x := x) (by (first | lia | omega))
      rcases hx2 with e | e
      · have := (inC k hk hb).1
        rw [e, hc] at this
        cases this
      · have := (inC k hk hb).2
        rw [e, hc] at this
        cases this
  have solo : ∀ x, x < N.p → C x = false → N.labs (fun k => m.testBit k) N.n x = x ∧ ∀ y, N.labs (fun k => m.testBit k) N.n y = x → y = x := fun x hx hc => by
    have hz := none x hx hc
    have r1 : N.labs (fun k => m.testBit k) N.n x = x := alone hz (labs_conn _ _ _ (labs_root _ _).symm)
    exact ⟨r1, fun y hy => alone hz (labs_conn _ _ _ (r1.trans hy.symm))⟩
  refine ⟨h2, ?_, solo⟩
  -- no fewer ties than points
  have pos : ∀ x, x < N.p → C x = true → 0 < N.dg m x := fun x hx hc => by
    cases hz : N.dg m x with
    | succ d => (first | lia | omega)
    | zero =>
      exfalso
      obtain ⟨y, hy, hcy, hne⟩ : ∃ y, y < N.p ∧ C y = true ∧ y ≠ x := by
        obtain ⟨c, d, h1, h3, h4, h5⟩ := cnt_two h2
        by_cases e : c = x
        · exact ⟨d, h3, h5, by (first | lia | omega)⟩
        · exact ⟨c, by (first | lia | omega), h4, e⟩
      rw [hC x hx] at hc
      rw [hC y hy] at hcy
      exact hne (alone hz (labs_conn _ _ _ ((of_decide_eq_true hc).trans (of_decide_eq_true hcy).symm)))
  have ge : cnt C N.p ≤ cnt (fun k => m.testBit k) N.n := by
    have h : sm (fun x => if C x = true then 2 else 0) N.p ≤ sm (fun x => N.dg m x) N.p := sm_le fun x hx => by
      by_cases hc : C x = true
      · rw [if_pos hc]
        have h1 := pos x hx hc
        have h3 := even_dg ev hx
        (first | lia | omega)
      · rw [if_neg hc]
        exact Nat.zero_le _
    rw [dg_sum] at h
    have d : sm (fun x => if C x = true then 2 else 0) N.p = 2 * cnt C N.p := by
      rw [cnt_sm]
      have d : ∀ n, 2 * sm (fun k => if C k = true then 1 else 0) n = sm (fun k => (if C k = true then 1 else 0) + (if C k = true then 1 else 0)) n := fun n => by
        rw [sm_add]
        (first | lia | omega)
      rw [d]
      exact sm_congr fun x _ => by split <;> rfl
    (first | lia | omega)
  -- no more: two chords would be two rings
  refine Nat.le_antisymm ge (Nat.le_of_not_lt fun more => ?_)
  have hroots := roots_set (N := N) (fun k => m.testBit k) N.n (Nat.le_refl _)
  have hr : cnt (N.root (fun k => m.testBit k) N.n) N.p + cnt C N.p = N.p + 1 := by
    -- the roots: all out of C, and one in it
    have hc0 := (inC k0 hk0 hb0).1
    rw [hC _ (N.al k0 hk0)] at hc0
    have hs := of_decide_eq_true hc0
    have hsp : s < N.p := by rw [← hs]; exact labs_lt (N.al k0 hk0)
    have hss : N.labs (fun k => m.testBit k) N.n s = s := by rw [← hs]; exact labs_root _ _
    have e : cnt (N.root (fun k => m.testBit k) N.n) N.p = cnt (fun x => !C x ^^ decide (s = x)) N.p := cnt_congr fun x hx => by
      unfold Net.root
      cases hc : C x with
      | false =>
        have ne : ¬ s = x := fun z => by
          have := hC x hx
          rw [hc, ← z, hss] at this
          simp at this
        rw [decide_eq_true (solo x hx hc).1, decide_eq_false ne]
        rfl
      | true =>
        have h := hC x hx
        rw [hc] at h
        have h := of_decide_eq_true h.symm
        rw [h]
        simp
    rw [e, cnt_or fun x hx ⟨z1, z2⟩ => by
      have z2 := of_decide_eq_true z2
      have := hC x hx
      rw [← z2, hss] at this
      rw [← z2, this] at z1
      simp at z1, cnt_eq, if_pos hsp]
    have := cnt_not C N.p
    (first | lia | omega)
  have split : cnt (fun k => m.testBit k) N.n = cnt (fun j => m.testBit j && !decide (N.labs (fun k => m.testBit k) j (N.a j) = N.labs (fun k => m.testBit k) j (N.b j))) N.n + cnt (fun j => m.testBit j && decide (N.labs (fun k => m.testBit k) j (N.a j) = N.labs (fun k => m.testBit k) j (N.b j))) N.n := by
    rw [← cnt_or fun x _ ⟨z1, z2⟩ => by
      rw [Bool.and_eq_true] at z1 z2
      have := z1.2
      rw [z2.2] at this
      cases this]
    refine cnt_congr fun k _ => ?_
    cases m.testBit k <;> cases decide (N.labs (fun k => m.testBit k) k (N.a k) = N.labs (fun k => m.testBit k) k (N.b k)) <;> rfl
  obtain ⟨c, d, hcd, hd, hc1, hd1⟩ := cnt_two (f := fun j => m.testBit j && decide (N.labs (fun k => m.testBit k) j (N.a j) = N.labs (fun k => m.testBit k) j (N.b j))) (n := N.n) (by (first | lia | omega))
  have whole : ∀ j, j < N.n → (m.testBit j && decide (N.labs (fun k => m.testBit k) j (N.a j) = N.labs (fun k => m.testBit k) j (N.b j))) = true → ∀ i, m.testBit i = true → i ≤ j := fun j hj h i hi => by
    rw [Bool.and_eq_true] at h
    obtain ⟨t, t1, t2⟩ := conn_path (Nat.le_of_lt hj) (labs_conn _ _ _ (of_decide_eq_true h.2))
    have own : (t ^^^ 2 ^ j).testBit j = true := by
      rw [Nat.testBit_xor, Nat.testBit_two_pow, decide_eq_true rfl]
      cases hz : t.testBit j with
      | false => rfl
      | true => exact absurd (t1 j hz).1 (Nat.lt_irrefl _)
    have sub : ∀ k, (t ^^^ 2 ^ j).testBit k = true → m.testBit k = true := fun k hk => by
      rw [Nat.testBit_xor, Nat.testBit_two_pow] at hk
      by_cases e : j = k
      · subst e
        exact h.1
      · rw [decide_eq_false e, Bool.xor_false] at hk
        exact (t1 k hk).2
    have evn : N.Even (t ^^^ 2 ^ j) := fun x hx => by
      rw [bd_xor, t2, bd_pow hj]
      unfold Net.inc
      cases decide (N.a j = x) <;> cases decide (N.b j = x) <;> rfl
    rcases mn _ sub evn with q | q
    · rw [q] at own
      simp at own
    · rw [← q, Nat.testBit_xor, Nat.testBit_two_pow] at hi
      by_cases e : j = i
      · (first | lia | omega)
      · rw [decide_eq_false e, Bool.xor_false] at hi
        exact Nat.le_of_lt (t1 i hi).1
  have h1 : m.testBit d = true := by
    rw [Bool.and_eq_true] at hd1
    exact hd1.1
  have := whole c (by (first | lia | omega)) hc1 d h1
  (first | lia | omega)
end
end RM

namespace Ring
open PySem L2
theorem ties_cnt {m n : Nat} (hm : m < 2 ^ n) : (tiesOf (m : Int)).length = RM.cnt (fun k => m.testBit k) n := by
  rw [ties_nat hm]
  exact RM.cnt_range _ _
theorem eqv_two : ∀ l l' : List Nat, PyData.eqvAll (l.map natD) (l'.map natD) = decide (l = l')
  | [], [] => rfl
  | [], _ :: _ => rfl
  | _ :: _, [] => rfl
  | x :: l, y :: l' => by
    show (((x : Int) == (y : Int)) && PyData.eqvAll (l.map natD) (l'.map natD)) = decide (x :: l = y :: l')
    rw [eqv_two l l', Bool.eq_iff_iff]
    simp
    (first | lia | omega)
theorem eqv_lists (l l' : List Nat) : PyData.eqv (.list (l.map natD)) (.list (l'.map natD)) = decide (l = l') := eqv_two l l'
section
variable {f : List Nat → Bool} {ls : List (List Nat)} {H H2 H3 : Hp} {D : Addr} {i : Nat} {acc : List V} {y : V} {l : List Nat}
end
end Ring

namespace L2
open PySem PySem.Spec PyProof.Rows
section
variable {prog : Program} {w : World} {A : Around} {E : Value → Shared → Prop} {s : Shared}
theorem tnext_item {it t : Addr} {i : Nat} {items : Array Value} {x : Value} {Q : Value → Shared → Prop} (hit : s.heap.IsTupleIter it t i) (ht : s.heap.IsTuple t items) (hx : items[i]? = some x)
    (q : ∀ h', h'.IsTupleIter it t (i + 1) → Heap.SameBut it s.heap h' → Q x { s with heap := h' }) : wpAny (model prog w) A (Builtin.SmallTypes.nextOf (.ref it)) Q E s := by
  obtain ⟨o, ho, hc, hd⟩ := id hit
  obtain ⟨ot, hot, _, nt, hdt⟩ := ht
  rw [Builtin.SmallTypes.nextOf]
  refine wpAny_bind (wpAny_callSpecial?_slot (name := Str.ofString "__next__") hit.typeIs F.slot_tuple_iterator_next (wpAny_call_entry F.slot_tuple_iterator_next hit.typeIs F.entry_tuple_iterator_next ?_ (F.args_tuple_iterator_next_1 _)))
  show wpAny _ _ (field (.ref it) 0 >>= fun _ => _) _ _ s
  refine wpAny_bind (wpAny_field ho hd (x := .ref t) rfl ?_)
  show wpAny _ _ (if (Value.ref t == Value.none) = true then _ else _) _ _ s
  rw [if_neg (by simp)]
  show wpAny _ _ (field (.ref it) 1 >>= fun _ => _) _ _ s
  refine wpAny_bind (wpAny_field ho hd (x := .int i 0) rfl ?_)
  show wpAny _ _ (seqItems? (.ref t) >>= fun _ => _) _ _ s
  refine wpAny_bind (wpAny_seqItems hot hdt ?_)
  simp only [Int.toNat_natCast, hx]
  refine wpAny_bind (wpAny_setField ho hd (by simp) (wpAny_pure ⟨x, rfl, wpAny_pure (q _ ?_ (Heap.SameBut.update ..))⟩))
  refine ⟨_, Heap.get?_update_self _ ho (Obj.isFreed_of_fields (Obj.data_mapFields hd _)), (Obj.cls_mapFields ..).trans hc, ?_⟩
  rw [Obj.data_mapFields hd]
  simp [rawInt]
theorem tnext_end {it t : Addr} {i : Nat} {items : Array Value} {Q : Value → Shared → Prop} (hh : A.handled = none) (hit : s.heap.IsTupleIter it t i) (ht : s.heap.IsTuple t items) (hx : items[i]? = none)
    (q : ∀ h' e, Heap.ExtBut it s.heap h' → (∃ o, h'.get? e = some o ∧ o.cls = .type "StopIteration") → E (.ref e) { s with heap := h' }) : wpAny (model prog w) A (Builtin.SmallTypes.nextOf (.ref it)) Q E s := by
  obtain ⟨o, ho, hc, hd⟩ := id hit
  obtain ⟨ot, hot, _, nt, hdt⟩ := ht
  rw [Builtin.SmallTypes.nextOf]
  refine wpAny_bind (wpAny_callSpecial?_slot (name := Str.ofString "__next__") hit.typeIs F.slot_tuple_iterator_next (wpAny_call_entry F.slot_tuple_iterator_next hit.typeIs F.entry_tuple_iterator_next ?_ (F.args_tuple_iterator_next_1 _)))
  show wpAny _ _ (field (.ref it) 0 >>= fun _ => _) _ _ s
  refine wpAny_bind (wpAny_field ho hd (x := .ref t) rfl ?_)
  show wpAny _ _ (if (Value.ref t == Value.none) = true then _ else _) _ _ s
  rw [if_neg (by simp)]
  show wpAny _ _ (field (.ref it) 1 >>= fun _ => _) _ _ s
  refine wpAny_bind (wpAny_field ho hd (x := .int i 0) rfl ?_)
  show wpAny _ _ (seqItems? (.ref t) >>= fun _ => _) _ _ s
  refine wpAny_bind (wpAny_seqItems hot hdt ?_)
  simp only [Int.toNat_natCast, hx]
  refine wpAny_bind (wpAny_rule (wpAny_bind (wpAny_setField ho hd (by simp) ?_)))
  show wpAny _ _ (newExc (.type "StopIteration") [] >>= fun _ => _) _ _ _
  refine wpAny_bind ?_
  simp only [newExc, newTuple]
  refine wpAny_bind (wpAny_newObj_type ?_ (by size_fits))
  refine wpAny_bind (m := firstArgMember _ _) (wpAny_of_eq (a := Value.none) (by first | rfl | (simp only [firstArgMember]; rfl)) (wpAny_newObj_type ?_ (by size_fits)))
  exact wpAny_raiseNew_none hh (q _ _ (((Heap.SameBut.update ..).extBut.push _).push _) ⟨_, Heap.get?_push_size _ rfl, rfl⟩)
theorem draws_tuple (hh : A.handled = none) (it t : Addr) (hne : t ≠ it) (items : Array Value) :
    Draws prog w A it [it, t] items.size (fun i v => items[i]? = some v) (fun i h => h.IsTupleIter it t i ∧ h.IsTuple t items) where
  live := fun _ _ st => let ⟨o, ho, _⟩ := st.1; ⟨o, ho⟩
  frame := fun _ _ _ st hk => ⟨st.1.at fun o e => hk it (by simp) o e, st.2.at fun o e => hk t (by simp) o e⟩
  item := fun i s Q E hi st hQ => tnext_item st.1 st.2 (x := items[i]) (by simp [hi]) fun h' hit' hs' => hQ _ h' s.toks (by simp [hi]) ⟨hit', st.2.extBut hs'.extBut hne⟩ hs'
  done := fun s Q E st hE => tnext_end hh st.1 st.2 (by simp) hE
end
open AutoSeq1 (wpAny_loadPart') in
theorem meets_enum_tuple (l : Addr) (items : Array Value) (n : Nat) (dct : Option Addr) (sl : Array (Option Value)) :
    Meets (Builtin.«enumerate.__new__» ⟨[.type "enumerate", .ref l], []⟩) (fun _ R s => s.heap.get? l = some { cls := .type "tuple", dict := dct, data := .seq items n, slots := sl } ∧
      R (.ok (.ret (.ref (s.heap.push { cls := .type "tuple_iterator", data := .fields #[.ref l, .int 0 0] }).objs.size)))
        { s with heap := (s.heap.push { cls := .type "tuple_iterator", data := .fields #[.ref l, .int 0 0] }).push { cls := .type "enumerate", data := .fields #[.none, .bool false, .ref s.heap.objs.size, rawInt 0, .none, .none] } }) :=
  .of_wp fun prog w A R s h => by
    obtain ⟨hp, g, d, tk, os⟩ := s
    obtain ⟨hl, h⟩ := h
    have hsub := sub_enumerate
    have hL : Heap.IsTuple (Shared.heap ⟨hp, g, d, tk, os⟩) l items := ⟨_, hl, rfl, n, rfl⟩
    wp_walk using wpAny_loadPart' hl
    refine wpAny_stack_any fun st => wpAny_pure ?_
    split
    · rename_i c _ _ _ _ _
      cases (c == Value.type "enumerate")
      · wp_walk using wpAny_loadPart' hl, wpAny_pyIter_tuple hL
        exact ⟨_, rfl, h⟩
      · wp_walk using wpAny_loadPart' hl, wpAny_pyIter_tuple hL
        exact ⟨_, rfl, h⟩
    · wp_walk using wpAny_loadPart' hl, wpAny_pyIter_tuple hL
      exact ⟨_, rfl, h⟩
section
variable {prog : Program} {w : World} {A : Around} {E : Value → Shared → Prop} {s : Shared}
theorem enum_tuple {l : Addr} {items : Array Value} {Q : Value → Shared → Prop} (hL : s.heap.IsTuple l items)
    (h : ∀ h', IsEnum h' (s.heap.objs.size + 1) s.heap.objs.size 0 .none → h'.IsTupleIter s.heap.objs.size l 0 → h'.objs.size = s.heap.objs.size + 2 → (∀ b o, s.heap.get? b = some o → h'.get? b = some o) → Q (.ref (s.heap.objs.size + 1)) { s with heap := h' }) :
    wpAny (model prog w) A (call (.type "enumerate") [.ref l]) Q E s := by
  obtain ⟨⟨c, dct, dt, sl⟩, hl, hc, n, hd⟩ := hL
  replace hc : c = .type "tuple" := hc
  replace hd : dt = .seq items n := hd
  subst hc hd
  refine callType_new F.called_enumerate (by decide) (F.typeCall_enumerate_1 _) (F.newCall_enumerate_1 _) (fun obj => F.args_object_init_2 obj _) F.entry_enumerate_new (meets_enum_tuple l items n dct sl) ⟨hl, ?_⟩
  have hz : (s.heap.push { cls := .type "tuple_iterator", data := .fields #[.ref l, .int 0 0] }).objs.size = s.heap.objs.size + 1 := Heap.size_push ..
  show _ ∧ _
  rw [hz]
  have he : IsEnum ((s.heap.push { cls := .type "tuple_iterator", data := .fields #[.ref l, .int 0 0] }).push { cls := .type "enumerate", data := .fields #[.none, .bool false, .ref s.heap.objs.size, rawInt 0, .none, .none] }) (s.heap.objs.size + 1) s.heap.objs.size 0 .none := by
    have z := Heap.get?_push_size (s.heap.push { cls := .type "tuple_iterator", data := .fields #[.ref l, .int 0 0] }) (o := { cls := .type "enumerate", data := .fields #[.none, .bool false, .ref s.heap.objs.size, rawInt 0, .none, .none] }) rfl
    rw [hz] at z
    exact z
  exact ⟨⟨_, he, rfl⟩, h _ he ⟨_, Heap.get?_push_of_some _ (Heap.get?_push_size _ rfl), rfl, rfl⟩ (by rw [Heap.size_push, hz]) fun b o x => Heap.get?_push_of_some _ (Heap.get?_push_of_some _ x)⟩
end
def IteT (K : PySem.W.Frag) (a : Addr) : It :=
  ⟨fun i H => ∃ xs x, SqT K H a xs ∧ xs[i]? = some x, fun i H v H' => ∃ T x, v = .ref T ∧ H T = none ∧ H' = upd H T (.tup [.int (i : Int), x]) ∧ ∀ xs, SqT K H a xs → xs[i]? = some x, fun i H => ∃ xs, SqT K H a xs ∧ xs.length = i⟩
theorem turn_enumT {P : Program} {w : World} {K : PySem.W.Frag} {elts : List Expr} {k : Nat} {pos : Pos} (a e it : Addr) (hne : e ≠ it) :
    Turn P w K (.Tuple elts k pos) (IteT K a) [e, it] e (fun i h => (∃ old, IsEnum h e it (i : Int) old) ∧ h.IsTupleIter it a i) where
  mem := by simp
  obj := fun i h st b hb => by
    obtain ⟨⟨old, he⟩, o, ho, c, d⟩ := st
    have hb' : b = e ∨ b = it := by simpa using hb
    rcases hb' with rfl | rfl
    · exact ⟨_, he, fun v z => by cases z⟩
    · exact ⟨o, ho, fun v z => by rw [d] at z; cases z⟩
  keep := fun i h h' st k => by
    obtain ⟨⟨old, he⟩, hit⟩ := st
    exact ⟨⟨old, k e (by simp) _ he⟩, hit.at fun o x => k it (by simp) o x⟩
  item := by
    intro X hP hw hK hc i pins s σ H E I hf st hg
    subst hP hw hK
    obtain ⟨xs, x, hq, hx⟩ := hg
    obtain ⟨its, rv, p, hz⟩ := I.tuple hq
    obtain ⟨u, hu, ru⟩ := rv.get hx
    obtain ⟨⟨old, he⟩, hit⟩ := st
    have pT : s.heap.IsTuple a its.toArray := p
    have hai : a ≠ it := fun z => by
      obtain ⟨o1, h1, _, _, d1⟩ := pT
      obtain ⟨o2, h2, _, d2⟩ := hit
      rw [z, h2] at h1
      cases h1
      rw [d2] at d1
      cases d1
    have hae : e ∉ [it, a] := fun z => by
      have z' : e = it ∨ e = a := by simpa using z
      rcases z' with z' | z'
      · exact hne z'
      · obtain ⟨o1, h1, _, _, d1⟩ := pT
        rw [← z', he] at h1
        cases h1
        cases d1
    refine wpAny_pyNext_enum_itemD (draws_tuple (A := X.A.in1) (I.ok.hd hc) it a hai its.toArray) he ⟨hit, pT⟩ (by have := (List.getElem?_eq_some_iff.mp hu).1; simpa using this) hne hae fun y h1 tk hy ho hit1 hT hsz hk => ?_
    have hyu : y = u := by
      have z : its.toArray[i]? = some u := by simpa using hu
      rw [hy] at z
      exact Option.some.inj z
    subst hyu
    refine ⟨_, rfl, wpAny_letOwnedTupleGo_enum ho fun h2 he2 hs2 => ?_⟩
    have hTe : s.heap.objs.size ≠ e := Nat.ne_of_gt (Heap.lt_size he)
    have hT2 : h2.get? s.heap.objs.size = some { cls := .type "tuple", data := .seq #[.int i tk, y] } := (hs2.2 _ hTe).trans hT
    refine ⟨.ref s.heap.objs.size, upd H s.heap.objs.size (.tup [.int (i : Int), x]), I.yields (wr := [e, it]) (t' := tk + 1) (fun b o hb q => ?_) hf (Nat.le_refl _) ?_, rfl, ⟨_, x, rfl, I.fresh, rfl, fun ys hy => by rw [I.tuple_inj hy hq]; exact hx⟩, ⟨⟨y, by simpa using he2⟩, ?_⟩, fun b hb => ?_⟩
    · have h1' : b ≠ e := fun z => hb (by simp [z])
      have h2' : b ≠ it := fun z => hb (by simp [z])
      exact (hs2.2 b h1').trans (hk b o h1' h2' q)
    · exact ⟨dl rfl, [.int i tk, y], .cons ⟨_, rfl⟩ (.cons ru .nil), ⟨_, hT2, rfl, _, rfl⟩⟩
    · exact hit1.1.at fun o q => (hs2.2 it (Ne.symm hne)).trans q
    · rw [upd_ne]
      · exact (hf b hb).1
      · have hb' : b = e ∨ b = it := by simpa using hb
        rcases hb' with rfl | rfl
        · exact Ne.symm hTe
        · obtain ⟨o, q, _⟩ := hit
          exact Nat.ne_of_lt (Heap.lt_size q)
  done := by
    intro X hP hw hK hc i pins s σ H E I hf st hg
    subst hP hw hK
    obtain ⟨xs, hq, hx⟩ := hg
    obtain ⟨its, rv, p, hz⟩ := I.tuple hq
    obtain ⟨⟨old, he⟩, hit⟩ := st
    have pT : s.heap.IsTuple a its.toArray := p
    have hai : a ≠ it := fun z => by
      obtain ⟨o1, h1, _, _, d1⟩ := pT
      obtain ⟨o2, h2, _, d2⟩ := hit
      rw [z, h2] at h1
      cases h1
      rw [d2] at d1
      cases d1
    obtain ⟨f0, f1, f2, f3, f4, f5⟩ := hf it (by simp)
    have hl := rv.length
    have hi : i = its.toArray.size := by rw [List.size_toArray]; (first | lia | omega)
    subst hi
    exact wpAny_pyNext_enum_endD (draws_tuple (A := X.A.in1) (I.ok.hd hc) it a hai its.toArray) he ⟨hit, pT⟩ fun h' eb => ⟨rfl, I.turned (t' := s.toks) (fun b o hb e => eb b o hb e) f0 f1 f3 f4 f5⟩
  self := fun _ _ _ _ _ st h => by
    obtain ⟨⟨old, he⟩, _⟩ := st
    exact wpAny_pyIter_enum he h
section
variable {X : Cx} {elts : List Expr} {n : Nat} {tp : Pos}
def iEnumT (K : PySem.W.Frag) (ta : TA) : TI := fun σ H R => ta σ H fun vs H1 => ∃ a, vs = [.ref a] ∧ (∃ xs, SqT K H1 a xs) ∧ R (IteT K a) H1
theorem pi_enumT (K : PySem.W.Frag) {a : Expr} {ta : TA} {p pos : Pos} (hg : Gl X "enumerate") (hm : X.mg "enumerate" = none) (ha : PA X [a] ta) (hs : starEach [a] X.env = [(false, eval a X.env)] := by rfl) (hK : X.K = K := by rfl) :
    PI X (.Tuple elts n tp) (.Call (.Name "enumerate" p) [a] [] pos) (iEnumT K ta) := by
  subst hK
  intro pins s σ H R I h
  refine Call_ (ld_blt I hg hm boot_enumerate (PyProof.Rows.callWith_type1 (thn (ha pos pins s σ H _ I h) fun us s1 ⟨vs, H1, I1, r1, q1⟩ => ?_) hs rfl))
  obtain ⟨a, e, ⟨xs, hq⟩, q⟩ := q1
  subst e
  cases r1 with
  | cons r rr =>
    cases rr
    cases r
    obtain ⟨its, rv, pl, hz⟩ := I1.tuple hq
    refine enum_tuple (show s1.heap.IsTuple a its.toArray from pl) fun h' he hit hsz hk => ?_
    have I2 : Inv X pins σ H1 { s1 with heap := h' } := I1.kept (t' := s1.toks) hk
    refine wpAny_pyIter_enum he ⟨_, [s1.heap.objs.size + 1, s1.heap.objs.size], _, _, H1, rfl, I2, turn_enumT a _ _ (Nat.succ_ne_self _), ⟨⟨_, he⟩, hit⟩, fun b hb => ?_, q⟩
    have hb' : b = s1.heap.objs.size + 1 ∨ b = s1.heap.objs.size := by simpa using hb
    have hbs : s1.heap.objs.size ≤ b := by
      rcases hb' with rfl | rfl
      · exact Nat.le_succ _
      · exact Nat.le_refl _
    exact I1.fpOk hbs (I1.hok.fresh hbs)
end
section
variable {K : PySem.W.Frag} {a : Addr} {xs : List V} {g : TG} {tt : TT} {te : TE} {n : Nat} {fr : St} {D : Addr} {Q : Hp → Prop} {H1 : Hp}
theorem comp_enumT (Pv : Nat → List V → Hp → Prop) (h0 : Pv 0 [] H1) (hl : ∀ i acc H, i ≤ xs.length → Pv i acc H → SqT K H a xs ∧ H D = some (.lst acc) ∧ acc.length ≤ i) (hz : xs.length ≤ sizeLine)
    (hs : ∀ i x T acc H, xs[i]? = some x → Pv i acc H → H T = none → g (.ref T) (List.replicate n none ++ fr) (upd H T (.tup [.int (i : Int), x])) fun σ2 H2 => σ2.drop n = fr ∧ tt σ2 H2 fun b H3 =>
      if b = true then te σ2 H3 fun v H4 => H4 D = some (.lst acc) ∧ Pv (i + 1) (acc ++ [v]) (upd H4 D (.lst (acc ++ [v]))) else Pv (i + 1) acc H3)
    (hd : ∀ acc H, Pv xs.length acc H → Q H) : CompLoop (IteT K a) g tt te n fr D Q H1 := by
  refine ⟨fun i m acc H => m = xs.length - i ∧ i ≤ xs.length ∧ Pv i acc H, ⟨xs.length, by simp, Nat.zero_le _, h0⟩, ?_⟩
  rintro i m acc H ⟨rfl, hi, p⟩
  obtain ⟨q, hD, ha⟩ := hl i acc H hi p
  refine ⟨hD, ?_⟩
  by_cases hlt : i < xs.length
  · refine .inr ⟨⟨xs, xs[i], q, by simp [hlt]⟩, by (first | lia | omega), Pv (i + 1), fun acc' H' p' => ⟨xs.length - (i + 1), by (first | lia | omega), rfl, hlt, p'⟩, fun v H' y => ?_⟩
    obtain ⟨T, x, rfl, hT, rfl, y⟩ := y
    exact hs i x T acc _ (y xs q) p hT
  · have e : i = xs.length := by (first | lia | omega)
    subst e
    exact .inl ⟨⟨xs, q, rfl⟩, hd acc H p⟩
end
end L2

namespace RM
variable {N : Net}
def Net.cut (N : Net) (C : Nat → Bool) : Nat := Ring.maskOf (fun k => C (N.a k) ^^ C (N.b k)) N.n
def Net.par (N : Net) (q m : Nat) : Bool := xsum (fun k => q.testBit k && m.testBit k) N.n
theorem par_xor (q r m : Nat) : N.par (q ^^^ r) m = (N.par q m ^^ N.par r m) := by
  unfold Net.par
  rw [← xsum_xor]
  refine xsum_congr fun k _ => ?_
  rw [Nat.testBit_xor]
  cases q.testBit k <;> cases r.testBit k <;> cases m.testBit k <;> rfl
theorem par_zero (m : Nat) : N.par 0 m = false := xsum_none fun k _ => by simp
theorem par_pow {k : Nat} (h : k < N.n) (m : Nat) : N.par (2 ^ k) m = m.testBit k := by
  unfold Net.par
  rw [xsum_one h fun j _ hj => by simp [Nat.testBit_two_pow, Ne.symm hj]]
  simp [Nat.testBit_two_pow]
theorem cut_bit (C : Nat → Bool) (k : Nat) : (N.cut C).testBit k = (decide (k < N.n) && (C (N.a k) ^^ C (N.b k))) := Ring.mask_bit _ k _
theorem cut_lt (C : Nat → Bool) : N.cut C < 2 ^ N.n := Ring.mask_lt _ _
theorem cut_congr {C D : Nat → Bool} (h : ∀ x, x < N.p → C x = D x) : N.cut C = N.cut D := by
  refine Nat.eq_of_testBit_eq fun k => ?_
  rw [cut_bit, cut_bit]
  by_cases hk : k < N.n
  · rw [h _ (N.al k hk), h _ (N.bl k hk)]
  · rw [decide_eq_false hk]
    rfl
theorem par_cut {q : Nat} (e : N.Even q) (C : Nat → Bool) : N.par q (N.cut C) = false := by
  have h : N.par q (N.cut C) = xsum (fun x => C x && N.bd q x) N.p := by
    have e1 : xsum (fun x => C x && N.bd q x) N.p = xsum (fun x => xsum (fun k => C x && (q.testBit k && N.inc k x)) N.n) N.p := xsum_congr fun x _ => (xsum_and _ _ _).symm
    rw [e1, xsum_comm]
    unfold Net.par
    refine xsum_congr fun k hk => ?_
    rw [cut_bit, decide_eq_true hk, Bool.true_and]
    have e2 : xsum (fun x => C x && (q.testBit k && N.inc k x)) N.p = (q.testBit k && (C (N.a k) ^^ C (N.b k))) := by
      have e3 : ∀ x, (C x && (q.testBit k && N.inc k x)) = ((q.testBit k && (C x && decide (N.a k = x))) ^^ (q.testBit k && (C x && decide (N.b k = x)))) := fun x => by
        unfold Net.inc
        cases C x <;> cases q.testBit k <;> cases decide (N.a k = x) <;> cases decide (N.b k = x) <;> rfl
      rw [xsum_congr fun x _ => e3 x, xsum_xor, xsum_and, xsum_and, xsum_point C (N.al k hk), xsum_point C (N.bl k hk)]
      cases q.testBit k <;> rfl
    exact e2.symm
  rw [h]
  exact xsum_none fun x hx => by rw [e x hx, Bool.and_false]
theorem ring_forest {k : Nat} (hk : k < N.n) (hf : N.inF k = true) : N.ring k = 0 := forest_empty (fun j hj => by
  rcases ring_bit hj with e | e
  · subst e
    exact ⟨hk, hf⟩
  · exact e) (ring_even hk)
theorem amiss_bit {m : Nat} (k : Nat) : (m ^^^ N.cut fun x => N.par (N.trail N.n x) m).testBit k = if k < N.n then N.par (N.ring k) m else m.testBit k := by
  rw [Nat.testBit_xor, cut_bit]
  by_cases hk : k < N.n
  · rw [if_pos hk, decide_eq_true hk, Bool.true_and]
    unfold Net.ring
    rw [par_xor, par_xor, par_pow hk]
    cases m.testBit k <;> cases N.par (N.trail N.n (N.a k)) m <;> cases N.par (N.trail N.n (N.b k)) m <;> rfl
  · rw [if_neg hk, decide_eq_false hk]
    simp
theorem amiss_chord {m k : Nat} (hm : m < 2 ^ N.n) (h : (m ^^^ N.cut fun x => N.par (N.trail N.n x) m).testBit k = true) : k < N.n ∧ N.inF k = false ∧ N.par (N.ring k) m = true := by
  rw [amiss_bit] at h
  by_cases hk : k < N.n
  · rw [if_pos hk] at h
    refine ⟨hk, ?_, h⟩
    cases hf : N.inF k with
    | false => rfl
    | true =>
      rw [ring_forest hk hf, par_zero] at h
      cases h
  · rw [if_neg hk] at h
    exact absurd (bits_lt hm h) hk
end RM

namespace Ring
def orM (ks : List Nat) : Nat := ks.foldl (fun m k => m ||| 2 ^ k) 0
theorem orM_from (ks : List Nat) (j : Nat) : ∀ m, (ks.foldl (fun m k => m ||| 2 ^ k) m).testBit j = (m.testBit j || decide (j ∈ ks)) := by
  induction ks with
  | nil => intro m; simp
  | cons k r ih =>
    intro m
    rw [List.foldl_cons, ih, Nat.testBit_or, Nat.testBit_two_pow]
    by_cases h : k = j
    · subst h
      simp
    · have h' : ¬ j = k := fun z => h z.symm
      simp [h, h']
theorem orM_bit (ks : List Nat) (j : Nat) : (orM ks).testBit j = decide (j ∈ ks) := by
  unfold orM
  rw [orM_from]
  simp
theorem orM_filter (f : Nat → Bool) (n : Nat) : orM ((List.range n).filter f) = maskOf f n := Nat.eq_of_testBit_eq fun j => by
  rw [orM_bit, mask_bit, Bool.eq_iff_iff]
  simp
end Ring
namespace RM
variable {N : Net}
section
variable {even left v : Nat} {pre ks : List Nat}
end
end RM

namespace Ring
open PySem L2
theorem par_len {p : Nat} {ts : List Tie} {g : GoodWeb p ts} {q m : Nat} (hm : m < 2 ^ ts.length) : decide ((tiesOf ((q &&& m : Nat) : Int)).length % 2 = 1) = (netOf p ts g).par q m := by
  rw [ties_cnt (n := ts.length) (Nat.and_lt_two_pow q hm)]
  unfold RM.Net.par
  rw [RM.xsum_cnt]
  have e : RM.cnt (fun k => (q &&& m).testBit k) ts.length = RM.cnt (fun k => q.testBit k && m.testBit k) (netOf p ts g).n := RM.cnt_congr fun k _ => by rw [Nat.testBit_and]
  rw [e]
end Ring

namespace Ring
open PySem L2
end Ring

namespace L2
open PySem PySem.Spec PyProof.Rows

section
variable {κ : Type} [DecidableEq κ]
end


section
variable {P : Program} {w : World} {H : Hp} {h : Heap} {a : Addr}
end

section
variable {X : Cx} {pins : List (Addr × Obj)} {σ : St} {H : Hp} {s : Shared} {a : Addr} {y v : V} {u r : Value} {o : Option V} {A : Around} {E : Value → Shared → Prop}

end

section
variable {X : Cx} {pins : List (Addr × Obj)} {σ : St} {H : Hp} {s : Shared} {a : Addr} {kvs : List (Key × V)} {k : Key} {u : Value} {A : Around} {E : Value → Shared → Prop}
end


section
variable {X : Cx} {o i e value : Expr} {pos pos' tpos : Pos} {td ty tv : TE}
end


section
variable {X : Cx} {pos : Pos}
end

section
variable {X : Cx} {pins : List (Addr × Obj)} {σ : St} {H : Hp} {s : Shared} {a : Addr} {y d : V} {u r : Value} {o : Option V} {A : Around} {E : Value → Shared → Prop}
end

section
variable {X : Cx} {o e f : Expr} {apos cpos : Pos} {td ty tx : TE}
end

section
variable {X : Cx} {pins : List (Addr × Obj)} {σ : St} {H : Hp} {s : Shared} {a : Addr} {kvs : List (Key × V)} {A : Around} {E : Value → Shared → Prop}
end


section
variable {X : Cx} {pins : List (Addr × Obj)} {σ : St} {H : Hp} {s : Shared} {a : Addr} {y : V} {u : Value} {A : Around} {E : Value → Shared → Prop}
end
end L2
namespace L2
open PySem PySem.Spec PyProof.Rows
section
variable {X : Cx}
end
section
variable {κ : Type} [DecidableEq κ]
end
end L2

namespace L2
open PySem PySem.Spec PyProof.Rows
section
variable {prog : Program} {w : World} {A : Around} {E : Value → Shared → Prop} {s : Shared} {T : String} {r d : Addr} {n : Nat} {P : Nat → Value → Prop} {OK : Heap → Prop}
theorem collect_src {R : List Value → Shared → Prop} (K : PySem.W.KdlSrc prog w T r d n P OK) (hh : A.handled = none) (hok : OK s.heap) (hn : n ≤ sizeLine)
    (h : ∀ (h' : Heap) (tk : Nat) (acc : Array Value), (∀ b o, s.heap.get? b = some o → h'.get? b = some o) → s.heap.objs.size < h'.objs.size → ItemsOf P acc n → R acc.toList { s with heap := h', toks := tk }) :
    wpAny (model prog w) A (collect (.ref r)) R E s := by
  have hlt := K.there _ hok
  unfold collect
  refine wpAny_bind (wpAny_runValue (codeAny_builtin PySem.F.entry_proto_collect ?_))
  rw [Around.under_plainId PySem.F.plain_proto_collect _]
  show wpAny _ A.in1 (newList [] >>= fun l => again (.builtin "list.__iadd__" ⟨[l, .ref r], []⟩)) _ _ s
  refine wpAny_bind (wpAny_newObj_type ?_)
  refine wpAny_pure ⟨plainId_quiet PySem.F.plain_list_iadd _, codeAny_builtin PySem.F.entry_list_iadd ?_⟩
  rw [Around.under_plainId PySem.F.plain_list_iadd _]
  have hS₁ : (s.heap.push { cls := .type "list", data := .seq ([] : List Value).toArray }).get? s.heap.objs.size = some { cls := .type "list", data := .seq #[] } := Heap.get?_push_size _ rfl
  show wpAny _ A.in1 (Builtin.List.listExtendWith (.ref s.heap.objs.size) (.ref r) (.ref s.heap.objs.size)) _ _ _
  have key := PySem.W.kdl_extend (A := A) (s := { s with heap := s.heap.push { cls := .type "list", data := .seq ([] : List Value).toArray } })
    (R := fun (q : Result) (s' : Shared) => ∃ (h' : Heap) (tk : Nat) (acc' : Array Value) (c' : Nat), q = .ok (.ret (.ref s.heap.objs.size)) ∧ s' = { s with heap := h', toks := tk } ∧
      (∀ b o, s.heap.get? b = some o → h'.get? b = some o) ∧ h'.get? s.heap.objs.size = some { cls := .type "list", dict := none, data := .seq acc' c', slots := #[] } ∧ ItemsOf P acc' n)
    K hh (K.keep _ _ hok fun b _ o e => Heap.get?_push_of_some _ e) s.heap.objs.size (Nat.ne_of_gt hlt.1) (Nat.ne_of_gt hlt.2) (.ref s.heap.objs.size) 0 hS₁
    (fun h' tk acc' c' hk hS' hacc => ⟨h', tk, acc', c', rfl, rfl, fun b o e => hk b o (Nat.ne_of_lt (Heap.lt_size e)) (Heap.get?_push_of_some _ e), hS', hacc⟩) hn
  refine wpAny_mono key (fun fin s' x => ?_) fun e s' x => ?_
  · cases fin with
    | done f =>
      obtain ⟨h', tk, acc', c', e, rfl, hk, hS', hacc⟩ := x
      cases e
      show wpAny _ A (load s.heap.objs.size >>= _) _ _ _
      refine wpAny_bind (wpAny_load hS' ?_)
      exact wpAny_pure (h h' tk acc' hk (Heap.lt_size hS') hacc)
    | again c₁ =>
      refine ⟨x.1, codeAny_mono x.2 fun q s₂ y => ?_⟩
      obtain ⟨h', tk, acc', c', rfl, rfl, hk, hS', hacc⟩ := y
      show wpAny _ A (load s.heap.objs.size >>= _) _ _ _
      refine wpAny_bind (wpAny_load hS' ?_)
      exact wpAny_pure (h h' tk acc' hk (Heap.lt_size hS') hacc)
  · obtain ⟨_, _, _, _, e', _⟩ := x
    cases e'
end
section
variable {X : Cx}
end
end L2

namespace Ring
open PySem L2
section
variable {p f n : Nat} {m m' : Held} {hs : List (Nat × Held)} {ds : List Deed} {t : Tie}
end
section
variable {H H' : Hp} {a b : Addr} {p f n : Nat} {m m' : Held} {es : List Ent} {t : Tie}
end
section
variable {n f : Nat} {d q : Addr}
end
section
variable {C p d q L : Addr} {H H' H2 : Hp} {n : Nat} {hs : List (Nat × Held)} {ds : List Deed} {xs ys : List V} {x : V} {r : Nat × Held}
end
section
variable {K : PySem.W.Frag}
end
end Ring

namespace L2
open PySem PySem.Spec PyProof.Rows
section
variable {X : Cx} {pins : List (Addr × Obj)} {σ : St} {H : Hp} {s : Shared}
end
section
variable {X : Cx} {tg : Expr}
end
end L2

namespace RM
variable {N : Net}
theorem trail_root {r : Nat} (h : N.lab N.n r = r) : N.trail N.n r = 0 := forest_empty (fun k hk => trail_in N.n r k hk) fun x _ => by
  rw [trail_bd N.n (Nat.le_refl _), h]
  cases decide (r = x) <;> rfl
theorem cnt_add (f : Nat → Bool) (a : Nat) : ∀ b, cnt f (a + b) = cnt f a + cnt (fun k => f (a + k)) b
  | 0 => rfl
  | b + 1 => by
    show cnt f (a + b) + (if f (a + b) = true then 1 else 0) = cnt f a + (cnt (fun k => f (a + k)) b + (if f (a + b) = true then 1 else 0))
    rw [cnt_add f a b, Nat.add_assoc]
end RM

namespace Ring
open PySem L2
section
variable {p : Nat} {ts : List Tie} {g : GoodWeb p ts}
end
section
variable (p : Nat) (ts : List Tie) (g : GoodWeb p ts)
end
section
variable {p : Nat} {ts : List Tie} {g : GoodWeb p ts} {H H' : Hp} {kvs : List (Key × V)} {zs : List Nat}
end
end Ring

namespace L2
open PySem PySem.Spec PyProof.Rows
end L2

namespace Ring
end Ring

namespace Ring
open PySem L2
end Ring
namespace Ring
open PySem L2
end Ring

namespace Ring
open PySem L2
end Ring

namespace L2
open PySem PySem.Spec PyProof.Rows
section
variable {X : Cx}
end
end L2

namespace L2
open PySem PySem.Spec PyProof.Rows
end L2
namespace Ring
open PySem L2
end Ring

namespace L2
open PySem PySem.Spec PyProof.Rows
end L2

namespace RM
variable {N : Net} {m t0 : Nat}
def Net.tiesAt (N : Net) (left v : Nat) : List Nat := (List.range N.n).filter fun t => left.testBit t && (decide (N.a t = v) || decide (N.b t = v))
end RM

namespace RM
variable {N : Net} {m t0 : Nat}
theorem tiesAt_len (m x : Nat) : (N.tiesAt m x).length = N.dg m x := by
  unfold Net.tiesAt Net.dg
  rw [cnt_range]
  refine cnt_congr fun k hk => ?_
  congr 1
  apply Bool.eq_iff_iff.mpr
  rw [Bool.or_eq_true, decide_eq_true_eq, decide_eq_true_eq]
  exact (inc_iff hk).symm
def Net.D2 (N : Net) (m : Nat) : Prop := ∀ x, x < N.p → N.dg m x = 0 ∨ N.dg m x = 2
theorem D2.even (h : N.D2 m) : N.Even m := fun x hx => by
  rw [bd_dg]
  refine decide_eq_false ?_
  rcases h x hx with e | e <;> (first | lia | omega)
theorem sm_two (C : Nat → Bool) : ∀ n, sm (fun x => if C x = true then 2 else 0) n = 2 * cnt C n := fun n => by
  rw [cnt_sm]
  have : sm (fun k => if C k = true then 2 else 0) n = sm (fun k => (if C k = true then 1 else 0) + (if C k = true then 1 else 0)) n := sm_congr fun k _ => by
    by_cases h : C k = true
    · rw [if_pos h, if_pos h]
    · rw [if_neg h, if_neg h]
  rw [this, sm_add]
  (first | lia | omega)
theorem ring_d2 (hm : m < 2 ^ N.n) (r : N.Ring m) : N.D2 m := by
  obtain ⟨k0, hk0, hb0, hall⟩ := ring_piece hm r
  generalize hs : N.labs (fun k => m.testBit k) N.n (N.a k0) = s at hall
  have hC : ∀ x, x < N.p → (fun x => decide (N.labs (fun k => m.testBit k) N.n x = s)) x = decide (N.labs (fun k => m.testBit k) N.n x = s) := fun x _ => rfl
  obtain ⟨h2, hl, solo⟩ := ring_len (s := s) hm r _ hC (fun k hk hb => decide_eq_true (hall k hk hb))
  generalize hCC : (fun x => decide (N.labs (fun k => m.testBit k) N.n x = s)) = C at hC h2 hl solo
  have none : ∀ x, x < N.p → C x = false → N.dg m x = 0 := fun x hx hc => by
    cases hz : N.dg m x with
    | zero => rfl
    | succ d =>
      exfalso
      obtain ⟨k, hk, hb, hx2⟩ := dg_some (N := N) (m := m) (x := x) (by (first | lia | omega))
      rw [hC x hx] at hc
      refine of_decide_eq_false hc ?_
      rcases hx2 with e | e
      · rw [← e]
        exact hall k hk hb
      · rw [← e, ← labs_tie (S := fun k => m.testBit k) hk hb]
        exact hall k hk hb
  have pos : ∀ x, x < N.p → C x = true → 0 < N.dg m x := fun x hx hc => by
    cases hz : N.dg m x with
    | succ d => (first | lia | omega)
    | zero =>
      exfalso
      obtain ⟨y, hy, hcy, hne⟩ : ∃ y, y < N.p ∧ C y = true ∧ y ≠ x := by
        obtain ⟨c, d, h1, h3, h4, h5⟩ := cnt_two h2
        by_cases e : c = x
        · exact ⟨d, h3, h5, by (first | lia | omega)⟩
        · exact ⟨c, by (first | lia | omega), h4, e⟩
      rw [hC x hx] at hc
      rw [hC y hy] at hcy
      exact hne (alone hz (labs_conn _ _ _ ((of_decide_eq_true hc).trans (of_decide_eq_true hcy).symm)))
  have hle : ∀ x, x < N.p → (if C x = true then 2 else 0) ≤ N.dg m x := fun x hx => by
    by_cases hc : C x = true
    · rw [if_pos hc]
      have h1 := pos x hx hc
      have h3 := even_dg r.2.1 hx
      (first | lia | omega)
    · rw [if_neg hc]
      exact Nat.zero_le _
  have he : sm (fun x => if C x = true then 2 else 0) N.p = sm (fun x => N.dg m x) N.p := by
    rw [sm_two, dg_sum, hl]
  intro x hx
  have := sm_eq hle he x hx
  by_cases hc : C x = true
  · rw [if_pos hc] at this
    exact .inr this.symm
  · rw [if_neg hc] at this
    exact .inl this.symm
theorem cnt_zero {left n : Nat} (hl : left < 2 ^ n) : cnt (fun j => left.testBit j) n = 0 ↔ left = 0 := by
  constructor
  · intro h
    apply Classical.byContradiction
    intro h0
    obtain ⟨j, hj⟩ := Nat.exists_testBit_of_ne_zero h0
    have := cnt_pos (f := fun j => left.testBit j) hj (bits_lt hl hj)
    (first | lia | omega)
  · rintro rfl
    rw [cnt_sm]
    refine (sm_congr fun k _ => ?_).trans (sm_zero n)
    rw [if_neg (by rw [Nat.zero_testBit]; simp)]
end RM

namespace Ring
open PySem L2
theorem tie_in {H : Hp} {xs : List V} {p : Nat} {ts : List Tie} {g : GoodWeb p ts} {k : Nat} (h3 : Paired (TupAt H) xs ts) (hk : k < ts.length) : ∃ c, xs[k]? = some (.ref c) ∧ H c = some (.tup [.int (((netOf p ts g).a k : Nat) : Int), .int (((netOf p ts g).b k : Nat) : Int), .int (tieAt ts k).2.2]) := by
  have hkx : k < xs.length := by rw [h3.length]; exact hk
  obtain ⟨t, ht, c, hc, hct⟩ := Paired.getP h3 (i := k) (x := xs[k]) (by simp [hkx])
  have htt : t = tieAt ts k := by
    have z := tieAt_get hk
    rw [ht] at z
    exact Option.some.inj z
  refine ⟨c, by rw [← hc]; simp [hkx], ?_⟩
  rw [hct, ← net_a hk, ← net_b hk, htt]
  rfl
section
variable {α : Type} {f : α → Int} {l : List α} {H H2 H3 : Hp} {D : Addr} {i : Nat} {k : α} {acc : List V} {v : V}
end
end Ring

namespace RM
variable {N : Net} {row : Nat → Int}
end RM

namespace Ring
open PySem L2
section
variable {H H2 H3 : Hp} {D : Addr} {i : Nat} {acc : List V}
end
end Ring

namespace RM
variable {N : Net} {row : Nat → Int}
theorem chord_isRing {c : Nat} (hc : c < N.n) (hf : N.inF c = false) : N.Ring (N.ring c) := by
  have hb := ring_own (N := N) hf
  refine ⟨fun z => ?_, ring_even hc, fun q hq he => ?_⟩
  · rw [z, Nat.zero_testBit] at hb
    cases hb
  · cases hqc : q.testBit c with
    | false =>
      refine .inl (forest_empty (N := N) (fun k hk => ?_) he)
      rcases ring_bit (hq k hk) with z | z
      · rw [z, hqc] at hk
        cases hk
      · exact z
    | true =>
      refine .inr ?_
      have hz : q ^^^ N.ring c = 0 := forest_empty (N := N) (fun k hk => ?_) (Even.xor he (ring_even hc))
      · apply Nat.eq_of_testBit_eq
        intro k
        have := congrArg (fun y => y.testBit k) hz
        simp only [Nat.testBit_xor, Nat.zero_testBit] at this
        revert this
        cases q.testBit k <;> cases (N.ring c).testBit k <;> simp
      · rw [Nat.testBit_xor] at hk
        have hrk : (N.ring c).testBit k = true := by
          cases hqk : q.testBit k with
          | true => exact hq k hqk
          | false =>
            rw [hqk] at hk
            simpa using hk
        rcases ring_bit hrk with z | z
        · rw [z, hqc, hb] at hk
          cases hk
        · exact z
end RM

namespace RM
variable {N : Net} {row row' : Nat → Int}
variable {N' : Net}
end RM

namespace RM
variable {N : Net} {m t0 : Nat}
end RM

namespace RM
variable {N : Net}
end RM

namespace RM
variable {N : Net}
section
variable {even left v : Nat} {pre ks : List Nat}
end
section
variable {m left : Nat} {rs : List Nat}
end
end RM

namespace RM
variable {N : Net}
theorem d2_one {m x0 : Nat} (hm : m < 2 ^ N.n) (d2 : N.D2 m) (hx0 : x0 < N.p) (hd0 : N.dg m x0 = 2) :
    N.Ring m ↔ ∀ x, x < N.p → (N.labs (fun k => m.testBit k) N.n x = N.labs (fun k => m.testBit k) N.n x0 ↔ N.dg m x = 2) := by
  constructor
  · intro r x hx
    obtain ⟨k0, hk0, hb0, hall⟩ := ring_piece hm r
    have on : ∀ y, y < N.p → N.dg m y = 2 → N.labs (fun k => m.testBit k) N.n y = N.labs (fun k => m.testBit k) N.n (N.a k0) := fun y hy hd => by
      obtain ⟨k, hk, hb, hx2⟩ := dg_some (N := N) (m := m) (x := y) (by (first | lia | omega))
      rw [← hall k hk hb]
      rcases hx2 with e | e
      · rw [e]
      · rw [← e]
        exact (labs_tie (S := fun k => m.testBit k) hk hb).symm
    constructor
    · intro e
      rcases d2 x hx with z | z
      · exfalso
        have := alone z (labs_conn _ _ _ e)
        rw [this] at hd0
        (first | lia | omega)
      · exact z
    · intro hd
      rw [on x hx hd, on x0 hx0 hd0]
  · intro h
    have hpos : ∀ k, k < N.n → m.testBit k = true → N.labs (fun k => m.testBit k) N.n (N.a k) = N.labs (fun k => m.testBit k) N.n x0 := fun k hk hb => by
      refine (h _ (N.al k hk)).mpr ?_
      have h1 := dg_at hk hb (.inl rfl)
      rcases d2 _ (N.al k hk) with z | z
      · (first | lia | omega)
      · exact z
    have hs : sm (fun x => N.dg m x) N.p = 2 * cnt (fun x => decide (N.labs (fun k => m.testBit k) N.n x = N.labs (fun k => m.testBit k) N.n x0)) N.p := by
      rw [← sm_two]
      refine sm_congr fun x hx => ?_
      by_cases e : N.labs (fun k => m.testBit k) N.n x = N.labs (fun k => m.testBit k) N.n x0
      · rw [if_pos (decide_eq_true e)]
        exact (h x hx).mp e
      · rw [if_neg (by rw [decide_eq_false e]; decide)]
        rcases d2 x hx with z | z
        · exact z
        · exact absurd ((h x hx).mpr z) e
    have hl : cnt (fun x => decide (N.labs (fun k => m.testBit k) N.n x = N.labs (fun k => m.testBit k) N.n x0)) N.p = cnt (fun k => m.testBit k) N.n := by
      rw [dg_sum] at hs
      (first | lia | omega)
    refine ring_of hm (D2.even d2) (fun x => decide (N.labs (fun k => m.testBit k) N.n x = N.labs (fun k => m.testBit k) N.n x0)) (fun x _ => rfl) ?_ (fun k hk hb => decide_eq_true (hpos k hk hb)) hl
    rw [hl]
    have : N.dg m x0 ≤ cnt (fun k => m.testBit k) N.n := cnt_le fun k _ hk => (Bool.and_eq_true_iff.mp hk).1
    (first | lia | omega)
end RM

namespace L2
open PySem PySem.Spec PySem.Calls PyProof.Rows PySem.W PySem.Builtin PySem.Builtin.ObjectAttr

section
variable {prog : Program} {w : World} {A : Around} {E : Value → Shared → Prop} {K : Frag} {C R f : Addr} {name : Str}
section
variable {hp : Heap} {gn : Array GenState} {dr : Drawn} {tk : Nat} {os : OsState}
end
end
section
variable {X : Cx} {pins : List (Addr × Obj)} {σ : St} {H : Hp} {s : Shared}
end
section
variable {X : Cx} {E : XK} {C R f : Addr} {name : Str}
end
section
variable {X : Cx} {C R f : Addr} {name : Str}
end
section
variable {prog : Program} {w : World} {A : Around} {E : Value → Shared → Prop} {K : Frag} {C R f : Addr} {name : Str}
end
section
variable {X : Cx} {C R f : Addr} {name : Str} {o value : Expr} {pos pos' : Pos} {ta tv : TE}
end
end L2

namespace L2
open PySem PySem.Spec PySem.Calls PyProof.Rows PySem.W PySem.Builtin PySem.Builtin.ObjectAttr

section
variable {prog : Program} {w : World} {A : Around} {E : Value → Shared → Prop} {K : Frag} {C R f x d : Addr} {name : Str} {s : Shared}
end
section
variable {X : Cx}
end
end L2

namespace L2
open PySem
namespace SS
def Lo (xs : Array Nat) (j p : Nat) : Prop := p ≤ xs.size ∧ (∀ i, i < p → xs.getD i 0 < j) ∧ ∀ i, p ≤ i → i < xs.size → j ≤ xs.getD i 0
theorem getD_any {xs : Array Nat} {i a b : Nat} (h : i < xs.size) : xs.getD i a = xs.getD i b := by
  simp [Array.getD, h]
theorem go_lo {xs : Array Nat} {j : Nat} (so : ∀ a b, a ≤ b → b < xs.size → xs.getD a 0 ≤ xs.getD b 0) : ∀ (f lo hi : Nat), hi - lo ≤ f → lo ≤ hi → hi ≤ xs.size → (∀ i, i < lo → xs.getD i 0 < j) → (∀ i, hi ≤ i → i < xs.size → j ≤ xs.getD i 0) → Lo xs j (SetTable.below.go xs j f lo hi)
  | 0, lo, hi, h, hl, hs, h1, h2 => by
    have e : lo = hi := by (first | lia | omega)
    subst e
    exact ⟨hs, h1, h2⟩
  | f + 1, lo, hi, h, hl, hs, h1, h2 => by
    unfold SetTable.below.go
    by_cases hc : lo < hi
    · rw [if_pos hc]
      have hm1 : lo ≤ (lo + hi) / 2 := by (first | lia | omega)
      have hm2 : (lo + hi) / 2 < hi := by (first | lia | omega)
      dsimp only
      rw [getD_any (b := 0) (show (lo + hi) / 2 < xs.size by (first | lia | omega))]
      by_cases hq : xs.getD ((lo + hi) / 2) 0 < j
      · rw [if_pos hq]
        refine go_lo so f _ _ (by (first | lia | omega)) (by (first | lia | omega)) hs (fun i hi' => ?_) h2
        have z := so i ((lo + hi) / 2) (by (first | lia | omega)) (by (first | lia | omega))
        (first | lia | omega)
      · rw [if_neg hq]
        refine go_lo so f _ _ (by (first | lia | omega)) (by (first | lia | omega)) (by (first | lia | omega)) h1 fun i hi' hi2 => ?_
        have z := so ((lo + hi) / 2) i (by (first | lia | omega)) hi2
        (first | lia | omega)
    · rw [if_neg hc]
      have e : lo = hi := by (first | lia | omega)
      subst e
      exact ⟨hs, h1, h2⟩
def Up (xs : Array Nat) : Prop := ∀ a b, a < b → b < xs.size → xs.getD a 0 < xs.getD b 0
theorem Up.le {xs : Array Nat} (u : Up xs) : ∀ a b, a ≤ b → b < xs.size → xs.getD a 0 ≤ xs.getD b 0 := fun a b h hb => by
  by_cases e : a = b
  · subst e; exact Nat.le_refl _
  · exact Nat.le_of_lt (u a b (by (first | lia | omega)) hb)
theorem below_lo {xs : Array Nat} (u : Up xs) (j : Nat) : Lo xs j (SetTable.below xs j) :=
  go_lo u.le _ _ _ (by (first | lia | omega)) (Nat.zero_le _) (Nat.le_refl _) (fun i h => absurd h (Nat.not_lt_zero _)) fun i h1 h2 => by (first | lia | omega)
theorem Lo.one {xs : Array Nat} {j p q : Nat} (a : Lo xs j p) (b : Lo xs j q) : p = q := by
  rcases Nat.lt_trichotomy p q with h | h | h
  · have z1 := b.2.1 p h
    have z2 := a.2.2 p (Nat.le_refl _) (by have := b.1; (first | lia | omega))
    (first | lia | omega)
  · exact h
  · have z1 := a.2.1 q h
    have z2 := b.2.2 q (Nat.le_refl _) (by have := a.1; (first | lia | omega))
    (first | lia | omega)
theorem below_zero {xs : Array Nat} (u : Up xs) : SetTable.below xs 0 = 0 :=
  (below_lo u 0).one ⟨Nat.zero_le _, fun i h => absurd h (Nat.not_lt_zero _), fun i _ _ => Nat.zero_le _⟩
theorem below_next {xs : Array Nat} (u : Up xs) {i : Nat} (h : i < xs.size) : SetTable.below xs (xs.getD i 0 + 1) = i + 1 :=
  (below_lo u _).one ⟨h, fun k hk => by have z := u.le k i (by (first | lia | omega)) h; (first | lia | omega), fun k h1 h2 => u i k (by (first | lia | omega)) h2⟩
theorem has_none (j : Nat) : SetTable.has #[] j = false := by
  unfold SetTable.has SetTable.below SetTable.below.go
  rfl
theorem slot_free {t : SetTable} {j : Nat} (hd : t.dummies = #[]) (hj : j ∉ t.place.toList) : t.slot j = .empty := by
  unfold SetTable.slot
  dsimp only
  rw [if_neg, if_neg]
  · rw [hd, has_none]; decide
  · intro z
    have e : t.place[SetTable.below t.place j]? = some j := by simpa using z
    rw [← Array.getElem?_toList] at e
    exact hj (List.mem_of_getElem? e)
theorem slot_taken {t : SetTable} {j : Nat} (u : Up t.place) (hj : j ∈ t.place.toList) : ∃ i, t.slot j = .live i := by
  obtain ⟨i, hi, e⟩ := List.getElem_of_mem hj
  have hi' : i < t.place.size := by simpa using hi
  have e' : t.place.getD i 0 = j := by simpa [Array.getD, hi'] using e
  have hb : SetTable.below t.place j = i := (below_lo u j).one ⟨Nat.le_of_lt hi', fun k hk => by have z := u k i hk hi'; (first | lia | omega), fun k h1 h2 => by have z := u.le i k h1 h2; (first | lia | omega)⟩
  refine ⟨i, ?_⟩
  unfold SetTable.slot
  dsimp only
  rw [hb, if_pos]
  have : t.place[i]? = some j := by
    rw [← Array.getElem?_toList, List.getElem?_eq_getElem hi, e]
  rw [this]
  exact beq_self_eq_true _
theorem bits_small {h : Nat} (hh : h < 32) : SetTable.bits (h : Int) = h := by
  unfold SetTable.bits
  rw [Int.emod_eq_of_lt (by (first | lia | omega)) (by (first | lia | omega))]
  rfl
def firstFree (occ : Nat → Bool) : Nat → Nat → Option Nat
  | 0, _ => none
  | f + 1, i => if occ i then firstFree occ f ((i * 5 + 1) % 8) else some i
theorem firstFree_free {occ : Nat → Bool} : ∀ {f i j : Nat}, firstFree occ f i = some j → occ j = false
  | 0, _, _, h => by cases h
  | f + 1, i, j, h => by
    unfold firstFree at h
    split at h
    · exact firstFree_free h
    · rename_i q
      cases h
      simpa using q
theorem firstFree_lt {occ : Nat → Bool} : ∀ {f i j : Nat}, i < 8 → firstFree occ f i = some j → j < 8
  | 0, _, _, _, h => by cases h
  | f + 1, i, j, hi, h => by
    unfold firstFree at h
    split at h
    · exact firstFree_lt (Nat.mod_lt _ (by decide)) h
    · cases h
      exact hi
theorem firstFree_some {occ : Nat → Bool} {l : List Nat} (ho : ∀ j, occ j = true → j ∈ l) (hl : l.length ≤ 4) {i : Nat} (hi : i < 8) : ∃ j, firstFree occ 5 i = some j := by
  cases h : firstFree occ 5 i with
  | some j => exact ⟨j, rfl⟩
  | none =>
    exfalso
    have key : ∀ f i, firstFree occ f i = none → ∀ k, k < f → occ (Nat.rec i (fun _ z => (z * 5 + 1) % 8) k) = true := by
      intro f
      induction f with
      | zero => intro i _ k hk; (first | lia | omega)
      | succ f ih =>
        intro i hn k hk
        unfold firstFree at hn
        split at hn
        · rename_i q
          cases k with
          | zero => exact q
          | succ k =>
            have z := ih _ hn k (by (first | lia | omega))
            have e : ∀ k, (Nat.rec ((i * 5 + 1) % 8) (fun _ z => (z * 5 + 1) % 8) k : Nat) = Nat.rec i (fun _ z => (z * 5 + 1) % 8) (k + 1) := by
              intro k
              induction k with
              | zero => rfl
              | succ k ih2 => show (_ * 5 + 1) % 8 = (_ * 5 + 1) % 8; rw [ih2]
            rw [← e k]
            exact z
        · cases hn
    have nd : ∀ i, i < 8 → ((List.range 5).map fun k => (Nat.rec i (fun _ z => (z * 5 + 1) % 8) k : Nat)).Nodup := by decide
    have z := (nd i hi).length_le_of_subset (l₂ := l) fun x hx => by
      obtain ⟨k, hk, rfl⟩ := List.mem_map.mp hx
      exact ho _ (key 5 i h k (List.mem_range.mp hk))
    rw [List.length_map, List.length_range] at z
    (first | lia | omega)
theorem probe_free {t : SetTable} {g : Nat → Int} {h : Int} (hm : t.mask = 7) (hd : t.dummies = #[]) (u : Up t.place) (hg : ∀ i, (g i == h) = false) : ∀ {f i j q : Nat}, i < 8 → q < 32 → firstFree (fun j => decide (j ∈ t.place.toList)) f i = some j →
    SetTable.probe.go t g h f { j := i, more := 0, i := i, perturb := q, dummy := none } = some (.empty j none)
  | 0, _, _, _, _, _, e => by cases e
  | f + 1, i, j, q, hi, hq, e => by
    unfold firstFree at e
    unfold SetTable.probe.go
    by_cases c : i ∈ t.place.toList
    · rw [if_pos (by simpa using c)] at e
      obtain ⟨k, hk⟩ := slot_taken u c
      dsimp only
      rw [hk]
      dsimp only
      rw [hg k]
      simp only [Bool.false_eq_true, if_false]
      have ha : t.advance { j := i, more := 0, i := i, perturb := q, dummy := none } = { j := (i * 5 + 1) % 8, more := 0, i := (i * 5 + 1) % 8, perturb := 0, dummy := none } := by
        have e0 : q / 32 = 0 := by (first | lia | omega)
        have e1 : ¬ ((i * 5 + 1) % 8 + 9 ≤ 7) := by (first | lia | omega)
        simp [SetTable.advance, SetTable.leap, SetTable.runEnd, hm, e0, e1]
      rw [ha]
      exact probe_free hm hd u hg (Nat.mod_lt _ (by decide)) (by decide) e
    · rw [if_neg (by simpa using c)] at e
      cases e
      dsimp only
      rw [slot_free hd c]
theorem ff_more {occ : Nat → Bool} : ∀ {f g i j : Nat}, firstFree occ f i = some j → f ≤ g → firstFree occ g i = some j
  | 0, _, _, _, h, _ => by cases h
  | f + 1, 0, _, _, _, hg => by (first | lia | omega)
  | f + 1, g + 1, i, j, h, hg => by
    unfold firstFree at h ⊢
    split
    · rename_i q
      rw [if_pos q] at h
      exact ff_more h (by (first | lia | omega))
    · rename_i q
      rw [if_neg q] at h
      exact h
theorem free8 {t : SetTable} (hm : t.mask = 7) (hd : t.dummies = #[]) (u : Up t.place) (hl : t.place.size ≤ 4) {h : Nat} (hh : h < 32) : ∃ j, j < 8 ∧ j ∉ t.place.toList ∧ t.freeSlot (h : Int) = some (j, false) := by
  obtain ⟨j, e⟩ := firstFree_some (occ := fun j => decide (j ∈ t.place.toList)) (l := t.place.toList) (fun j q => by simpa using q) (by simpa using hl) (show h % 8 < 8 by (first | lia | omega))
  refine ⟨j, firstFree_lt (by (first | lia | omega)) e, by simpa using firstFree_free e, ?_⟩
  have hs : t.probeStart (h : Int) = { j := h % 8, more := 0, i := h % 8, perturb := h, dummy := none } := by
    have e1 : ¬ (h % 8 + 9 ≤ 7) := by (first | lia | omega)
    simp [SetTable.probeStart, bits_small hh, hm, SetTable.runEnd, e1]
  unfold SetTable.freeSlot SetTable.probe
  rw [hs, probe_free hm hd u (g := fun _ => (h : Int) + 1) (fun i => by simp; (first | lia | omega)) (f := 10 * SetTable.turns t.mask) (by (first | lia | omega)) hh (ff_more e (by rw [hm]; decide))]
  rfl
theorem free32 {t : SetTable} (hm : t.mask = 31) (hd : t.dummies = #[]) {h : Nat} (hh : h < 32) (hn : h ∉ t.place.toList) : t.freeSlot (h : Int) = some (h, false) := by
  unfold SetTable.freeSlot SetTable.probe
  rw [hm, show 10 * SetTable.turns 31 = 459 + 1 by decide]
  unfold SetTable.probe.go
  have hj : (t.probeStart (h : Int)).j = h := by
    simp [SetTable.probeStart, bits_small hh, hm]
    (first | lia | omega)
  have hdm : (t.probeStart (h : Int)).dummy = none := rfl
  rw [hj, slot_free hd hn, hdm]
  rfl
theorem up_iff {xs : Array Nat} : Up xs ↔ xs.toList.Pairwise (· < ·) := by
  rw [List.pairwise_iff_getElem]
  constructor
  · intro u i j hi hj hij
    have hi' : i < xs.size := by simpa using hi
    have hj' : j < xs.size := by simpa using hj
    have z := u i j hij hj'
    simpa [Array.getD, hi', hj'] using z
  · intro p a b hab hb
    have ha : a < xs.size := by (first | lia | omega)
    have z := p a b (by simpa using ha) (by simpa using hb) hab
    simpa [Array.getD, ha, hb] using z
theorem up_insert {xs : Array Nat} (u : Up xs) {j : Nat} (hj : j ∉ xs.toList) : Up (SetTable.insertAt xs (SetTable.below xs j) j) := by
  have b := below_lo u j
  generalize SetTable.below xs j = p at b
  rw [up_iff, SetTable.toList_insertAt, List.pairwise_append, List.pairwise_cons]
  have pw := up_iff.mp u
  have hlow : ∀ a ∈ xs.toList.take p, a < j := fun a ha => by
    obtain ⟨i, hi, e⟩ := List.getElem_of_mem ha
    rw [List.getElem_take] at e
    have h1 : i < p := by rw [List.length_take] at hi; (first | lia | omega)
    have h2 : i < xs.size := by have := b.1; (first | lia | omega)
    have z := b.2.1 i h1
    simp [Array.getD, h2] at z
    simp at e
    (first | lia | omega)
  have hhigh : ∀ a ∈ xs.toList.drop p, j < a := fun a ha => by
    obtain ⟨i, hi, e⟩ := List.getElem_of_mem ha
    rw [List.getElem_drop] at e
    have h2 : p + i < xs.size := by rw [List.length_drop] at hi; simp at hi; (first | lia | omega)
    have z := b.2.2 (p + i) (by (first | lia | omega)) h2
    simp [Array.getD, h2] at z
    simp at e
    have ne : j ≠ a := fun q => hj (by rw [q, ← e]; simp)
    (first | lia | omega)
  exact ⟨pw.sublist (List.take_sublist _ _), ⟨hhigh, pw.sublist (List.drop_sublist _ _)⟩, fun a ha b' hb => by
    rcases List.mem_cons.mp hb with rfl | hb
    · exact hlow a ha
    · exact Nat.lt_trans (hlow a ha) (hhigh b' hb)⟩
def Ow (owner : Array (Option Nat)) (hs : List Nat) : Prop := owner.size = 32 ∧ ∀ j k, owner.getD j none = some k ↔ hs[k]? = some j
theorem free_own {owner : Array (Option Nat)} {hs : List Nat} (o : Ow owner hs) {h : Nat} (hh : h < 32) (hn : h ∉ hs) : SetTable.layClean.free 31 owner (SetTable.turns 31) h h = some h := by
  rw [show SetTable.turns 31 = 45 + 1 by decide]
  unfold SetTable.layClean.free
  have hr : ∃ r, List.range (SetTable.runEnd 31 h + 1 - h) = 0 :: r := by
    have hp : 1 ≤ SetTable.runEnd 31 h + 1 - h := by
      unfold SetTable.runEnd
      split <;> (first | lia | omega)
    obtain ⟨m, hm⟩ : ∃ m, SetTable.runEnd 31 h + 1 - h = m + 1 := ⟨_, (Nat.sub_add_cancel hp).symm⟩
    rw [hm, List.range_succ_eq_map]
    exact ⟨_, rfl⟩
  obtain ⟨r, hr⟩ := hr
  have hf : owner.getD (h + 0) (some 0) = none := by
    have z : owner.getD h none = none := by
      cases e : owner.getD h none with
      | none => rfl
      | some k => exact absurd (List.mem_of_getElem? ((o.2 h k).mp e)) hn
    have hz : h < owner.size := by rw [o.1]; exact hh
    simp [Array.getD, hz] at z ⊢
    exact z
  rw [hr, List.find?_cons_of_pos (by rw [hf]; rfl)]
  rfl
theorem ow_step {owner : Array (Option Nat)} {hs : List Nat} (o : Ow owner hs) {h : Nat} (hh : h < 32) (hn : h ∉ hs) : Ow (owner.setIfInBounds h (some hs.length)) (hs ++ [h]) := by
  refine ⟨by rw [Array.size_setIfInBounds]; exact o.1, fun j k => ?_⟩
  have hz : h < owner.size := by rw [o.1]; exact hh
  by_cases e : j = h
  · subst e
    have : (owner.setIfInBounds j (some hs.length)).getD j none = some hs.length := by simp [Array.getD, hz]
    rw [this]
    constructor
    · intro q
      cases q
      simp
    · intro q
      by_cases hk : k < hs.length
      · rw [List.getElem?_append_left hk] at q
        exact absurd (List.mem_of_getElem? q) hn
      · by_cases hk2 : k = hs.length
        · rw [hk2]
        · rw [List.getElem?_eq_none (by simp; (first | lia | omega))] at q
          cases q
  · have : (owner.setIfInBounds h (some hs.length)).getD j none = owner.getD j none := by
      simp only [Array.getD_eq_getD_getElem?, Array.getElem?_setIfInBounds_ne (Ne.symm e)]
    rw [this, o.2 j k]
    by_cases hk : k < hs.length
    · rw [List.getElem?_append_left hk]
    · rw [List.getElem?_eq_none (by (first | lia | omega))]
      constructor
      · intro q; cases q
      · intro q
        by_cases hk2 : k = hs.length
        · rw [hk2, List.getElem?_append_right (Nat.le_refl _)] at q
          simp at q
          exact absurd q.symm e
        · rw [List.getElem?_eq_none (by simp; (first | lia | omega))] at q
          cases q
theorem ow_nil : Ow (Array.replicate 32 none) [] := ⟨by simp, fun j k => by
  simp [Array.getD]⟩
theorem lay_fold : ∀ (more hs : List Nat) (owner : Array (Option Nat)), Ow owner hs → (∀ h ∈ more, h < 32) → (hs ++ more).Nodup →
    ∃ ow, Ow ow (hs ++ more) ∧ List.foldl (fun (acc : Option (Array (Option Nat) × Nat)) (h : Int) => (do
      let (owner, k) ← acc
      let j ← SetTable.layClean.free 31 owner (SetTable.turns 31) (SetTable.bits h % (31 + 1)) (SetTable.bits h)
      pure (owner.setIfInBounds j (some k), k + 1) : Option (Array (Option Nat) × Nat))) (some (owner, hs.length)) (more.map fun h : Nat => (h : Int)) = some (ow, (hs ++ more).length)
  | [], hs, owner, o, _, _ => ⟨owner, by rw [List.append_nil]; exact o, by rw [List.append_nil]; rfl⟩
  | h :: more, hs, owner, o, hm, nd => by
    have hh := hm h (List.mem_cons_self ..)
    have hn : h ∉ hs := fun z => (List.nodup_append.mp nd).2.2 h z h (List.mem_cons_self ..) rfl
    have e : hs ++ h :: more = (hs ++ [h]) ++ more := by simp
    obtain ⟨ow, o2, q⟩ := lay_fold more (hs ++ [h]) _ (ow_step o hh hn) (fun x hx => hm x (List.mem_cons_of_mem _ hx)) (by rw [← e]; exact nd)
    refine ⟨ow, by rw [e]; exact o2, ?_⟩
    rw [e, ← q, List.map_cons, List.foldl_cons]
    congr 1
    have hb := bits_small hh
    have hmod : h % (31 + 1) = h := Nat.mod_eq_of_lt hh
    show (do let j ← SetTable.layClean.free 31 owner (SetTable.turns 31) (SetTable.bits (h : Int) % (31 + 1)) (SetTable.bits (h : Int)); pure (owner.setIfInBounds j (some hs.length), hs.length + 1) : Option (Array (Option Nat) × Nat)) = _
    rw [hb, hmod, free_own o hh hn, List.length_append]
    rfl
theorem clean32 {hs : List Nat} (hm : ∀ h ∈ hs, h < 32) (nd : hs.Nodup) : ∃ ow, Ow ow hs ∧ SetTable.layClean 31 (hs.map fun h : Nat => (h : Int)).toArray = some ow := by
  obtain ⟨ow, o, e⟩ := lay_fold hs [] _ ow_nil hm (by rw [List.nil_append]; exact nd)
  rw [List.nil_append] at o
  refine ⟨ow, o, ?_⟩
  unfold SetTable.layClean
  rw [← Array.foldl_toList]
  exact congrArg (Option.map (·.1)) e
end SS
end L2

namespace L2
open PySem
namespace SS
def hsOf (es : Array (Int × Value)) : List Nat := es.toList.map fun e => e.1.toNat
structure Tb (led : Bool) (es : Array (Int × Value)) (t : SetTable) : Prop where
  led : t.led = led
  plain : t.plain = true
  dum : t.dummies = #[]
  up : Up t.place
  size : t.place.size = es.size
  small : ∀ e ∈ es.toList, 0 ≤ e.1 ∧ e.1 < 32
  nd : (hsOf es).Nodup
  mask : (t.mask = 7 ∧ es.size ≤ 4) ∨ (t.mask = 31 ∧ es.size ≤ 18 ∧ t.place.toList = hsOf es)
theorem Tb.fits {led : Bool} {es : Array (Int × Value)} {t : SetTable} (b : Tb led es t) : t.fits es.size = true := by
  have h1 := b.size
  have h2 : t.fill = es.size := by unfold SetTable.fill; rw [b.dum, h1]; rfl
  unfold SetTable.fits
  rw [h1, h2]
  rcases b.mask with ⟨m, z⟩ | ⟨m, z, _⟩ <;> rw [m] <;> simp <;> (first | lia | omega)
theorem hs_back {es : Array (Int × Value)} (s : ∀ e ∈ es.toList, 0 ≤ e.1 ∧ e.1 < 32) : es.toList.map (·.1) = (hsOf es).map fun h : Nat => (h : Int) := by
  unfold hsOf
  rw [List.map_map]
  refine List.map_congr_left fun e he => ?_
  have := s e he
  show e.1 = ((e.1.toNat : Nat) : Int)
  (first | lia | omega)
theorem hs_small {es : Array (Int × Value)} (s : ∀ e ∈ es.toList, 0 ≤ e.1 ∧ e.1 < 32) : ∀ h ∈ hsOf es, h < 32 := fun h hh => by
  obtain ⟨e, he, rfl⟩ := List.mem_map.mp hh
  have := s e he
  (first | lia | omega)
theorem hs_insert (es : Array (Int × Value)) (p : Nat) (h : Nat) (x : Value) : hsOf (SetTable.insertAt es p ((h : Int), x)) = (hsOf es).take p ++ h :: (hsOf es).drop p := by
  unfold hsOf
  rw [SetTable.toList_insertAt, List.map_append, List.map_cons, List.map_take, List.map_drop]
  rfl
theorem size_insert {α : Type} (xs : Array α) (p : Nat) (x : α) : (SetTable.insertAt xs p x).size = xs.size + 1 := by
  have z := (SetTable.insertAt_perm xs p x).length_eq
  simpa using z
theorem relay32 {es : Array (Int × Value)} {t : SetTable} (s : ∀ e ∈ es.toList, 0 ≤ e.1 ∧ e.1 < 32) (nd : (hsOf es).Nodup) (hz : es.size ≤ 18) (hp : t.plain = true) {wanted : Nat} (hw : SetTable.sizeAbove wanted - 1 = 31) :
    ∃ es' t', relayAll t es wanted = (es', t', false) ∧ Tb t.led es' t' := by
  obtain ⟨ow, o, hc⟩ := clean32 (hs_small s) nd
  have hmap : es.map (·.1) = ((hsOf es).map fun h : Nat => (h : Int)).toArray := by
    apply Array.toList_inj.mp
    rw [Array.toList_map, List.toList_toArray]
    exact hs_back s
  let live := (List.range (31 + 1)).filterMap fun j => (ow.getD j none).map (j, ·)
  have hlive : ∀ j k, (j, k) ∈ live ↔ (hsOf es)[k]? = some j := fun j k => by
    constructor
    · intro h
      obtain ⟨j', hj', e⟩ := List.mem_filterMap.mp h
      obtain ⟨k', e1, e2⟩ := Option.map_eq_some_iff.mp e
      cases e2
      exact (o.2 j k).mp e1
    · intro h
      refine List.mem_filterMap.mpr ⟨j, ?_, ?_⟩
      · have := hs_small s j (List.mem_of_getElem? h)
        exact List.mem_range.mpr (by (first | lia | omega))
      · rw [(o.2 j k).mpr h]
        rfl
  have hup : live.Pairwise fun a b => a.1 < b.1 := List.Pairwise.filterMap (R := fun a b => a < b) _ (fun a a' haa b hb b' hb' => by
    obtain ⟨_, _, rfl⟩ := Option.map_eq_some_iff.mp hb
    obtain ⟨_, _, rfl⟩ := Option.map_eq_some_iff.mp hb'
    exact haa) List.pairwise_lt_range
  have hord : (live.map (·.2)).Perm (List.range es.size) := by
    refine (List.perm_ext_iff_of_nodup ?_ List.nodup_range).mpr fun k => ?_
    · have z : live.Pairwise fun a b => a.2 ≠ b.2 := by
        refine List.Pairwise.imp_of_mem (R := fun a b => a.1 < b.1) (fun {a b} ha hb hab e => ?_) hup
        have h1 := (hlive a.1 a.2).mp ha
        have h2 := (hlive b.1 b.2).mp hb
        rw [e, h2] at h1
        have := Option.some.inj h1
        (first | lia | omega)
      exact List.pairwise_map.mpr z
    · rw [List.mem_range]
      constructor
      · intro h
        obtain ⟨⟨j, k'⟩, h1, rfl⟩ := List.mem_map.mp h
        have z := (List.getElem?_eq_some_iff.mp ((hlive j k').mp h1)).1
        simpa [hsOf] using z
      · intro h
        have hl : k < (hsOf es).length := by simpa [hsOf] using h
        exact List.mem_map.mpr ⟨((hsOf es)[k], k), (hlive _ _).mpr (List.getElem?_eq_getElem hl), rfl⟩
  have hlen : live.length = es.size := by
    have z := hord.length_eq
    simpa using z
  have hrel : t.relaid (es.map (·.1)) wanted = some ({ mask := 31, place := (live.map (·.1)).toArray, dummies := #[], finger := t.finger, led := t.led, moves := t.movedTo 31, plain := t.plain }, (live.map (·.2)).toArray) := by
    unfold SetTable.relaid
    rw [hw, hmap]
    unfold SetTable.laid
    rw [hc]
    rfl
  have hcov : coversAll (live.map (·.2)).toArray es.size = true := by
    unfold coversAll
    rw [List.toList_toArray]
    exact List.isPerm_iff.mpr hord
  -- the elements in their new order
  have hes : ((live.map (·.2)).toArray.filterMap (es[·]?)).toList.map (fun e => e.1.toNat) = live.map (·.1) := by
    rw [Array.toList_filterMap, List.toList_toArray]
    have : ∀ l : List (Nat × Nat), (∀ a ∈ l, a ∈ live) → ((l.map (·.2)).filterMap (fun i => es[i]?)).map (fun e => e.1.toNat) = l.map (·.1) := by
      intro l
      induction l with
      | nil => intro _; rfl
      | cons a r ih =>
        intro hl
        have z := (hlive a.1 a.2).mp (hl a (List.mem_cons_self ..))
        unfold hsOf at z
        rw [List.getElem?_map, Array.getElem?_toList] at z
        obtain ⟨e, e1, e2⟩ := Option.map_eq_some_iff.mp z
        rw [List.map_cons, List.filterMap_cons_some (b := e) e1, List.map_cons, List.map_cons, e2, ih fun b hb => hl b (List.mem_cons_of_mem _ hb)]
    exact this live fun a ha => ha
  have hsz : ((live.map (·.2)).toArray.filterMap (es[·]?)).size = es.size := by
    have z := congrArg List.length hes
    rw [List.length_map, List.length_map, Array.length_toList, hlen] at z
    exact z
  have hfit : SetTable.fits { mask := 31, place := (live.map (·.1)).toArray, dummies := #[], finger := t.finger, led := t.led, moves := t.movedTo 31, plain := t.plain } ((live.map (·.2)).toArray.filterMap (es[·]?)).size = true := by
    rw [hsz]
    unfold SetTable.fits SetTable.fill
    simp [hlen]
    (first | lia | omega)
  refine ⟨(live.map (·.2)).toArray.filterMap (es[·]?), { mask := 31, place := (live.map (·.1)).toArray, dummies := #[], finger := t.finger, led := t.led, moves := t.movedTo 31, plain := t.plain }, ?_, ⟨rfl, hp, rfl, ?_, ?_, fun e he => ?_, ?_, .inr ⟨rfl, by rw [hsz]; exact hz, ?_⟩⟩⟩
  · unfold relayAll
    rw [hrel]
    dsimp only
    rw [hcov, hfit]
    rfl
  · rw [up_iff, List.toList_toArray]
    exact List.pairwise_map.mpr hup
  · rw [hsz, List.size_toArray, List.length_map, hlen]
  · rw [Array.toList_filterMap] at he
    obtain ⟨i, _, q⟩ := List.mem_filterMap.mp he
    rw [← Array.getElem?_toList] at q
    exact s e (List.mem_of_getElem? q)
  · unfold hsOf
    rw [hes]
    exact (List.pairwise_map.mpr hup).imp fun h e => by (first | lia | omega)
  · rw [List.toList_toArray]
    exact hes.symm
theorem tb_add {led : Bool} {es : Array (Int × Value)} {t : SetTable} (b : Tb led es t) {h : Nat} (x : Value) (hh : h < 32) (hn : h ∉ hsOf es) (hz : es.size < 18) :
    ∃ es1 t2, layNew t es (h : Int) x = (es1, t2, false, false) ∧ t2.plain = true ∧ t2.led = led ∧ t2.fits es1.size = true ∧ es1.toList.Perm (es.toList ++ [((h : Int), x)]) ∧
      ((t2.tooFull = false ∧ Tb led es1 t2) ∨ (t2.tooFull = true ∧ ∃ es2 t3, relayAll t2 es1 (SetTable.grown es1.size) = (es2, t3, false) ∧ Tb led es2 t3)) := by
  have key : ∃ j, j ∉ t.place.toList ∧ t.freeSlot (h : Int) = some (j, false) ∧ (t.mask = 31 → j = h) := by
    rcases b.mask with ⟨m, z⟩ | ⟨m, z, e⟩
    · obtain ⟨j, _, h2, h3⟩ := free8 m b.dum b.up (by rw [b.size]; exact z) hh
      exact ⟨j, h2, h3, fun q => by rw [m] at q; cases q⟩
    · exact ⟨h, by rw [e]; exact hn, free32 m b.dum hh (by rw [e]; exact hn), fun _ => rfl⟩
  obtain ⟨j, hj, hf, hjm⟩ := key
  have hput : t.put j = ({ t with place := SetTable.insertAt t.place (SetTable.below t.place j) j }, SetTable.below t.place j) := by
    unfold SetTable.put
    rw [b.dum, has_none]
    obtain ⟨m, pl, d, fi, l, mv, pn⟩ := t
    have hd : d = #[] := b.dum
    subst hd
    rfl
  generalize hpe : SetTable.below t.place j = p at hput
  have hup : Up (SetTable.insertAt t.place p j) := hpe ▸ up_insert b.up hj
  have hps : (SetTable.insertAt t.place p j).size = es.size + 1 := by rw [size_insert, b.size]
  have hes : (SetTable.insertAt es p ((h : Int), x)).size = es.size + 1 := size_insert _ _ _
  have hfit : SetTable.fits { t with place := SetTable.insertAt t.place p j } (SetTable.insertAt es p ((h : Int), x)).size = true := by
    unfold SetTable.fits SetTable.fill
    rw [hes]
    dsimp only
    rw [hps, b.dum]
    rcases b.mask with ⟨m, z⟩ | ⟨m, z, _⟩ <;> rw [m] <;> simp <;> (first | lia | omega)
  have hperm : (SetTable.insertAt es p ((h : Int), x)).toList.Perm (es.toList ++ [((h : Int), x)]) := by
    have z := SetTable.insertAt_perm es p ((h : Int), x)
    rw [Array.toList_push] at z
    exact z
  have hsm : ∀ e ∈ (SetTable.insertAt es p ((h : Int), x)).toList, 0 ≤ e.1 ∧ e.1 < 32 := fun e he => by
    rcases List.mem_append.mp (hperm.mem_iff.mp he) with q | q
    · exact b.small e q
    · rw [List.mem_singleton] at q
      subst q
      exact ⟨by show (0 : Int) ≤ (h : Int); (first | lia | omega), by show (h : Int) < 32; (first | lia | omega)⟩
  have hnd : (hsOf (SetTable.insertAt es p ((h : Int), x))).Nodup := by
    have z : (hsOf (SetTable.insertAt es p ((h : Int), x))).Perm (hsOf es ++ [h]) := by
      have z := hperm.map fun e : Int × Value => e.1.toNat
      rw [List.map_append] at z
      exact z
    refine z.nodup_iff.mpr (List.nodup_append.mpr ⟨b.nd, by simp, fun a ha c hc e => ?_⟩)
    rw [List.mem_singleton] at hc
    subst hc
    subst e
    exact hn ha
  refine ⟨SetTable.insertAt es p ((h : Int), x), { t with place := SetTable.insertAt t.place p j }, ?_, b.plain, b.led, hfit, hperm, ?_⟩
  · unfold layNew
    rw [hf]
    dsimp only
    rw [hput]
    dsimp only
    unfold SetTable.orStandIn
    rw [hfit]
    rfl
  · have htf : SetTable.tooFull { t with place := SetTable.insertAt t.place p j } = decide (t.mask * 3 ≤ (es.size + 1) * 5) := by
      unfold SetTable.tooFull SetTable.fill
      dsimp only
      rw [hps, b.dum]
      rfl
    rw [htf, hes]
    rcases b.mask with ⟨m, z⟩ | ⟨m, z, e⟩
    · by_cases h4 : es.size = 4
      · refine .inr ⟨by rw [m, h4]; decide, ?_⟩
        obtain ⟨es2, t3, r1, r2⟩ := relay32 (t := { t with place := SetTable.insertAt t.place p j }) hsm hnd (by (first | lia | omega)) b.plain (wanted := SetTable.grown (es.size + 1)) (by rw [h4]; decide)
        have hl : ({ t with place := SetTable.insertAt t.place p j } : SetTable).led = led := b.led
        rw [hl] at r2
        exact ⟨es2, t3, r1, r2⟩
      · exact .inl ⟨by rw [m]; simp; (first | lia | omega), ⟨b.led, b.plain, b.dum, hup, by rw [hes]; exact hps, hsm, hnd, .inl ⟨m, by rw [hes]; (first | lia | omega)⟩⟩⟩
    · refine .inl ⟨by rw [m]; simp; (first | lia | omega), ⟨b.led, b.plain, b.dum, hup, by rw [hes]; exact hps, hsm, hnd, .inr ⟨m, by rw [hes]; (first | lia | omega), ?_⟩⟩⟩
      rw [hs_insert, SetTable.toList_insertAt, e, hjm m]
theorem tb_new (led : Bool) : Tb led #[] (.fresh 0 0 led) := ⟨rfl, rfl, rfl, fun a b _ h => absurd h (Nat.not_lt_zero _), rfl, fun e h => absurd h (by simp), List.nodup_nil, .inl ⟨rfl, by decide⟩⟩
end SS
end L2

namespace L2
open PySem PySem.Spec PyProof.Rows
namespace SS
def Nums (es : Array (Int × Value)) : Prop := ∀ e ∈ es.toList, ∃ (k : Nat) (t : Tok), k < 32 ∧ e = ((k : Int), .int (k : Int) t)
def SetG (h : Heap) (a : Addr) (led : Bool) (ks : List Nat) : Prop :=
  ∃ o es ep t, h.get? a = some o ∧ o.ExactSet ∧ o.data = .set es ep t ∧ Nums es ∧ Tb led es t ∧ ∀ k, k ∈ hsOf es ↔ k ∈ ks
theorem hash_small {k : Nat} (h : k < 32) : hashInt (k : Int) = (k : Int) := by
  have all : ∀ k : Nat, k < 32 → hashInt (k : Int) = (k : Int) := by decide
  exact all k h
theorem Nums.elems {P : Program} {w : World} {es : Array (Int × Value)} (n : Nums es) : ElemsOf (intKind P w) es.toList := fun e he => by
  obtain ⟨k, t, hk, rfl⟩ := n e he
  exact ⟨⟨(k : Int), intKind_is _ _ _ _, (hash_small hk).symm⟩, rfl⟩
theorem Nums.mem {P : Program} {w : World} {es : Array (Int × Value)} (n : Nums es) {k : Nat} : (∃ e ∈ es.toList, (intKind P w).is (k : Int) e.2 = true) ↔ k ∈ hsOf es := by
  constructor
  · rintro ⟨e, he, hq⟩
    obtain ⟨k', t, hk, rfl⟩ := n e he
    have z : ((k' : Int) == (k : Int)) = true := hq
    have z : (k' : Int) = (k : Int) := by simpa using z
    refine List.mem_map.mpr ⟨_, he, ?_⟩
    show ((k' : Int)).toNat = k
    (first | lia | omega)
  · intro h
    obtain ⟨e, he, q⟩ := List.mem_map.mp h
    obtain ⟨k', t, hk, rfl⟩ := n e he
    have z : ((k' : Int)).toNat = k := q
    have z : (k' : Int) = (k : Int) := by (first | lia | omega)
    exact ⟨_, he, by rw [z]; exact intKind_is _ _ _ _⟩
theorem SetG.few {h : Heap} {a : Addr} {led : Bool} {ks : List Nat} {es : Array (Int × Value)} {t : SetTable} (b : Tb led es t) (hm : ∀ k, k ∈ hsOf es ↔ k ∈ ks) : es.size ≤ ks.length := by
  have z := b.nd.length_le_of_subset (l₂ := ks) fun k hk => (hm k).mp hk
  simpa [hsOf] using z
section
variable {P : Program} {w : World} {A : Around} {E : Value → Shared → Prop} {s : Shared}
theorem add_G {a : Addr} {led : Bool} {ks : List Nat} {k : Nat} {tk : Tok} {Q : Bool → Shared → Prop} (g : SetG s.heap a led ks) (hk : k < 32) (hl : ks.length < 18)
    (q : ∀ (b : Bool) (h' : Heap), Heap.SameBut a s.heap h' → SetG h' a led (ks ++ [k]) → Q b { s with heap := h' }) : wpAny (model P w) A (setAddHashed a (.int (k : Int) tk) (k : Int)) Q E s := by
  obtain ⟨o, es, ep, t, ho, hex, hd, nums, tb, hm⟩ := g
  have hfew := SetG.few (h := s.heap) (a := a) tb hm
  have el : ElemsOf (intKind P w) es.toList := nums.elems
  have hkey : (intKind P w).is (k : Int) (.int (k : Int) tk) = true := intKind_is _ _ _ _
  unfold setAddHashed setAddHashedIn
  refine wpAny_holding (wpAny_bind (wpAny_setState_of ho hd tb.fits ?_))
  show wpAny _ _ (if byScan _ _ = true then _ else _) _ _ s
  rw [if_pos (byScan_of (knd := intKind P w) rfl (show es.size < scanBound by unfold scanBound; (first | lia | omega)) el)]
  refine wpAny_bind ?_
  unfold setAddByScan
  refine wpAny_bind (wpAny_rule ?_)
  have scan := wpAny_setScan_of (A := A) (E := E) (adding := true) (Q := fun r s' => s' = s ∧ ((∃ j, r = .found j ∧ k ∈ hsOf es) ∨ (r = .absent ∧ k ∉ hsOf es))) hkey ho hd tb.fits el (by
    cases hr : List.findIdx? (fun e => (intKind P w).is (k : Int) e.2) es.toList with
    | some j =>
      obtain ⟨hj, hp, _⟩ := List.findIdx?_eq_some_iff_getElem.mp hr
      exact ⟨rfl, .inl ⟨_, rfl, nums.mem.mp ⟨es.toList[j], List.getElem_mem hj, hp⟩⟩⟩
    | none =>
      refine ⟨rfl, .inr ⟨rfl, fun z => ?_⟩⟩
      obtain ⟨e, he, hp⟩ := (nums.mem (P := P) (w := w)).mpr z
      rw [List.findIdx?_eq_none_iff.mp hr e he] at hp
      cases hp)
  have hh : (intKind P w).hash (k : Int) = (k : Int) := hash_small hk
  rw [hh] at scan
  refine wpAny_bind (wpAny_mono scan (fun r s' y => ?_) fun _ _ y => y)
  obtain ⟨rfl, y⟩ := y
  rcases y with ⟨j, rfl, hin⟩ | ⟨rfl, hout⟩
  · refine wpAny_pure (wpAny_pure ?_)
    have z := q false s'.heap (Heap.SameBut.refl a s'.heap) ⟨o, es, ep, t, ho, hex, hd, nums, tb, fun k' => by
      rw [hm k', List.mem_append, List.mem_singleton]
      exact ⟨.inl, fun z => z.elim id fun e => e ▸ (hm k).mp hin⟩⟩
    exact z
  · obtain ⟨es1, t2, hlay, hpl, hled, hfit, hperm, hrest⟩ := tb_add tb (.int (k : Int) tk) hk hout (by (first | lia | omega))
    have hsz : es1.size = es.size + 1 := by
      have z := hperm.length_eq
      simpa using z
    have nums1 : ∀ {es' : Array (Int × Value)}, es'.toList.Perm es1.toList → Nums es' := fun {es'} p e he => by
      rcases List.mem_append.mp (hperm.mem_iff.mp (p.mem_iff.mp he)) with z | z
      · exact nums e z
      · rw [List.mem_singleton] at z
        exact ⟨k, tk, hk, z⟩
    have mem1 : ∀ {es' : Array (Int × Value)}, es'.toList.Perm es1.toList → ∀ k', k' ∈ hsOf es' ↔ k' ∈ ks ++ [k] := fun {es'} p k' => by
      have z : (hsOf es').Perm (hsOf es ++ [k]) := by
        have z := (p.trans hperm).map fun e : Int × Value => e.1.toNat
        rw [List.map_append] at z
        exact z
      rw [z.mem_iff, List.mem_append, List.mem_append, hm k']
    dsimp only
    rw [hlay]
    dsimp only
    refine wpAny_bind (m := pure ()) (wpAny_pure ?_)
    rw [hpl]
    simp only [↓reduceIte]
    refine wpAny_bind ?_
    rw [hashByValue_scannable 8 rfl]
    refine wpAny_pure ?_
    have hpk : plainKind (Value.int (k : Int) tk) = true := rfl
    rw [hpk]
    simp only [↓reduceIte]
    refine wpAny_bind (wpAny_storeSet_of ho hd ?_ (fits_of_scanBound (by rw [hsz]; unfold scanBound; (first | lia | omega))))
    have e1 : Obj.putSet es1 t2 o = { o with data := .set es1 (ep + 1) t2 } := putSet_of es1 t2 hd
    have g1 : (s'.heap.update a (Obj.putSet es1 t2)).get? a = some { o with data := .set es1 (ep + 1) t2 } := by
      have z := Heap.get?_update_self (Obj.putSet es1 t2) ho (by rw [e1]; rfl)
      rw [e1] at z
      exact z
    have sb1 := Heap.SameBut.update s'.heap a (Obj.putSet es1 t2)
    rcases hrest with ⟨hf, tb1⟩ | ⟨hf, es2, t3, hrel, tb3⟩
    · rw [hf]
      refine wpAny_pure (wpAny_pure ?_)
      exact q true _ sb1 ⟨_, es1, ep + 1, t2, g1, hex, rfl, nums1 (.refl _), tb1, mem1 (.refl _)⟩
    · rw [hf]
      simp only [Bool.not_false, Bool.and_self, ↓reduceIte]
      have hp2 : es2.toList.Perm es1.toList := by
        have z := relayAll_perm t2 es1 (SetTable.grown es1.size)
        rw [hrel] at z
        exact z
      have hsz2 : es2.size = es1.size := by
        have z := hp2.length_eq
        simpa using z
      rw [hrel]
      dsimp only
      refine wpAny_bind (m := pure ()) (wpAny_pure ?_)
      refine wpAny_bind (wpAny_storeSet_of g1 rfl ?_ (fits_of_scanBound (by rw [hsz2, hsz]; unfold scanBound; (first | lia | omega))))
      refine wpAny_pure (wpAny_pure ?_)
      have e2 : Obj.putSet es2 t3 { o with data := .set es1 (ep + 1) t2 } = { o with data := .set es2 (ep + 2) t3 } := putSet_of es2 t3 rfl
      refine q true _ (sb1.trans (Heap.SameBut.update _ a _)) ⟨{ o with data := .set es2 (ep + 2) t3 }, es2, ep + 2, t3, ?_, hex, rfl, nums1 hp2, tb3, mem1 hp2⟩
      have z := Heap.get?_update_self (Obj.putSet es2 t3) g1 (by rw [e2]; rfl)
      rw [e2] at z
      exact z
theorem SetG.at {h h' : Heap} {a : Addr} {led : Bool} {ks : List Nat} (g : SetG h a led ks) (e : ∀ o, h.get? a = some o → h'.get? a = some o) : SetG h' a led ks :=
  let ⟨o, es, ep, t, ho, r⟩ := g
  ⟨o, es, ep, t, e o ho, r⟩
end
section
variable {P : Program} {w : World} {A : Around} {R : Result → Shared → Prop} {I : Addr} {fp wr : List Addr} {G : Array GenState → Array GenState → Prop} {n : Nat} {Pv : Nat → Value → Prop} {St : Nat → Shared → Prop}
theorem loop_G (W : WalksS P w A.in1 I fp wr G n Pv St) (S : Addr) (hSf : S ∉ fp) {led : Bool} (val : Nat → Nat) (hval : ∀ i v, Pv i v → ∃ t, v = .int (val i : Int) t) (hs : ∀ i, i < n → val i < 32) (hn : n ≤ 18) :
    ∀ (d i : Nat) (s : Shared), n - i = d → i ≤ n → St i s → SetG s.heap S led ((List.range i).map val) →
      (∀ s', Moved (S :: wr) G s s' → SetG s'.heap S led ((List.range n).map val) → R (.ok (.ret .none)) s') →
      codeAny (model P w) A (.builtin "set.update.loop" ⟨[.ref S, .ref I], []⟩) R s
  | 0, i, s, hd, hi, st, g, q => by
    have e : i = n := by (first | lia | omega)
    subst e
    refine codeAny_builtin PyProof.Rows.F.entry_set_update_loop ?_
    rw [Around.under_plainId PyProof.Rows.F.plain_set_update_loop _]
    refine wpAny_bind (m := pyNext (.ref I)) (W.done s _ _ st fun s' mv => ?_)
    exact wpAny_pure (q s' (mv.mono fun b hb => List.mem_cons_of_mem _ hb) (g.at fun o ho => mv.heap S o (fun z => hSf (W.sub _ z)) ho))
  | d + 1, i, s, hd, hi, st, g, q => by
    have lt : i < n := by (first | lia | omega)
    refine codeAny_builtin PyProof.Rows.F.entry_set_update_loop ?_
    rw [Around.under_plainId PyProof.Rows.F.plain_set_update_loop _]
    refine wpAny_bind (m := pyNext (.ref I)) (W.item i s _ _ lt st fun v s' hv st' mv => ?_)
    obtain ⟨t, rfl⟩ := hval i v hv
    have g' : SetG s'.heap S led ((List.range i).map val) := g.at fun o ho => mv.heap S o (fun z => hSf (W.sub _ z)) ho
    refine wpAny_bind (m := holding [Value.int (val i : Int) t] (setAdd S (.int (val i : Int) t))) (wpAny_holding ?_)
    unfold setAdd
    refine wpAny_holding (wpAny_bind ((intKind P w).pyHash (k := (val i : Int)) (intKind_is _ _ _ _) ?_))
    have hh : (intKind P w).hash (val i : Int) = (val i : Int) := hash_small (hs i lt)
    rw [hh]
    refine add_G (s := { s' with toks := s'.toks + 1 }) g' (hs i lt) (by rw [List.length_map, List.length_range]; (first | lia | omega)) fun b h' sb g2 => ?_
    have e2 : (List.range i).map val ++ [val i] = (List.range (i + 1)).map val := by rw [List.range_succ, List.map_append]; rfl
    rw [e2] at g2
    refine wpAny_pure ⟨plainId_quiet PyProof.Rows.F.plain_set_update_loop _, loop_G W S hSf val hval hs hn d (i + 1) _ (by (first | lia | omega)) lt (W.frame _ s' _ _ st' (Nat.le_succ _) fun b hb o e => ?_) g2 fun s2 mv2 g3 => ?_⟩
    · rw [sb.2 b fun z => hSf (z ▸ hb)]
      exact e
    · refine q s2 (Moved.trans W.gtrans ((mv.mono fun b hb => List.mem_cons_of_mem _ hb).then_heap (Nat.le_succ _) fun b o hb e => ?_) mv2) g3
      rw [sb.2 b fun z => hb (z ▸ List.mem_cons_self ..)]
      exact e
end
section
variable {P : Program} {w : World} {A : Around} {E : Value → Shared → Prop} {s : Shared}
theorem new_G (a : Value) {Q : Value → Shared → Prop} (q : Q (.ref s.heap.objs.size) { s with heap := s.heap.push { cls := .type "set", dict := none, data := .set #[] 0 (.fresh 0 0 (!w.params.followText "set-order")) } }) :
    codeAny (model P w) A (.call (.builtin "set.__new__") ⟨[.type "set", a], []⟩) (wants Q E) s := by
  refine codeAny_of_tree ?_
  show wpAny _ A.in1 (checkBuiltinCall "set.__new__" ⟨[.type "set", a], []⟩ >>= fun _ => again (.builtin "set.__new__" ⟨[.type "set", a], []⟩)) _ _ s
  refine wpAny_bind (wpAny_of_eq (PySem.F.newCall_set_1 a) (wpAny_pure ⟨plainId_quiet PySem.F.plain_set_new _, codeAny_builtin PySem.F.entry_set_new ?_⟩))
  rw [Around.under_plainId PySem.F.plain_set_new _]
  unfold Builtin.«set.__new__» Builtin.Frozenset.newClass
  have hsub := sub_set_self
  obtain ⟨h0, g0, d0, t0, o0⟩ := s
  dsimp only
  wp_walk
  refine wpAny_askSetting (wpAny_pure ?_)
  dsimp only
  simp only [newObj]
  exact wpAny_bind (wpAny_alloc (wpAny_pure (wpAny_pure q)))
set_option maxHeartbeats 3000000 in
theorem call_G {l : Addr} {items : Array Value} {ks : List Nat} {Q : Value → Shared → Prop} (hh : A.handled = none) (hl : s.heap.IsList l items) (hi : ∀ (i : Nat) (v : Value), items[i]? = some v → ∃ t, v = Value.int ((ks.getD i 0 : Nat) : Int) t) (hz : items.size = ks.length)
    (hs : ∀ k ∈ ks, k < 32) (hn : ks.length ≤ 18)
    (q : ∀ (h' : Heap) (tk : Nat), SetG h' s.heap.objs.size (!w.params.followText "set-order") ks → (∀ b o, b < s.heap.objs.size → s.heap.get? b = some o → h'.get? b = some o) → Q (.ref s.heap.objs.size) { s with heap := h', toks := tk }) :
    wpAny (model P w) A (call (.type "set") [.ref l]) Q E s := by
  have hks : (List.range items.size).map (fun i => ks.getD i 0) = ks := by
    rw [hz]
    apply List.ext_getElem
    · simp
    · intro i h1 h2
      simp [List.getD, h2]
  obtain ⟨c0, tl0, f0⟩ := PySem.F.called_set.mro
  have f1 := PySem.F.called_set.made; have f2 := PySem.F.called_set.sub; have f3 := PySem.F.called_set.notType; have f4 := PySem.F.called_set.canCreate; have f5 := PySem.F.typeCall_set_1 (.ref l)
  refine wpAny_call (codeAny_of_tree (wpAny_pure ⟨Code.quiet_builtin _ (by decide +kernel), codeAny_builtin PySem.F.entry_type_call ?_⟩))
  rw [Around.under_plain (weight_type_call_type "set" [.ref l] []) rfl]
  repeat (any_goals (first | assumption | wp_step))
  refine codeAny_mono (new_G (.ref l) (E := E) (Q := fun x s1 => x = .ref s.heap.objs.size ∧ s1 = { s with heap := s.heap.push { cls := .type "set", dict := none, data := .set #[] 0 (.fresh 0 0 (!w.params.followText "set-order")) } }) ⟨rfl, rfl⟩) fun r s1 hr => ?_
  cases r with
  | error e => exact hr
  | ok fl =>
    cases fl with
    | ret obj =>
      obtain ⟨rfl, rfl⟩ := hr
      have gN : (s.heap.push { cls := .type "set", dict := none, data := .set #[] 0 (.fresh 0 0 (!w.params.followText "set-order")) }).get? s.heap.objs.size = some { cls := .type "set", dict := none, data := .set #[] 0 (.fresh 0 0 (!w.params.followText "set-order")) } := Heap.get?_push_size _ rfl
      have tN : Shared.TypeIs { s with heap := s.heap.push { cls := .type "set", dict := none, data := .set #[] 0 (.fresh 0 0 (!w.params.followText "set-order")) } } (.ref s.heap.objs.size) "set" := ⟨_, gN, rfl⟩
      have f6 := PySem.F.called_set.init.lookup; have f7 := PySem.F.called_set.init.bind (.ref s.heap.objs.size)
      repeat (any_goals (first | assumption | wp_step))
      refine codeAny_mono (codeAny_call_builtin (R := wants (fun r s2 => r = .none ∧ ∃ h' tk, s2 = { s with heap := h', toks := tk } ∧ SetG h' s.heap.objs.size (!w.params.followText "set-order") ks ∧
        (∀ b o, b < s.heap.objs.size → s.heap.get? b = some o → h'.get? b = some o)) E) PySem.F.called_set.init.plain PySem.F.entry_set_init (PySem.check_set_init_1 tN ?_)) fun r2 s2 hr2 => ?_
      · have hl1 : (s.heap.push { cls := .type "set", dict := none, data := .set #[] 0 (.fresh 0 0 (!w.params.followText "set-order")) }).IsList l items := hl.push _
        obtain ⟨ol, gl, cl, nl, dl⟩ := hl
        have lt : l < s.heap.objs.size := Heap.lt_size gl
        have gl1 : (s.heap.push { cls := .type "set", dict := none, data := .set #[] 0 (.fresh 0 0 (!w.params.followText "set-order")) }).get? l = some ol := Heap.get?_push_of_some _ gl
        obtain ⟨ocls, odict, odata, oslots⟩ := ol
        simp only at cl dl
        subst cl
        subst dl
        have k1 := PySem.F.sub_list_set; have k2 := PySem.F.sub_list_frozenset
        have k3 : (Value.type "list" == Value.type "dict") = false := by decide
        unfold Builtin.«set.__init__» noKeywords Builtin.Frozenset.updateFrom
        generalize hgen : pyIter = gen
        wp_walk
        subst hgen
        refine wpAny_pyIter_list hl1 (wpAny_bind (wpAny_runValue ?_))
        have hn2 : l ≠ (s.heap.push { cls := .type "set", dict := none, data := .set #[] 0 (.fresh 0 0 (!w.params.followText "set-order")) }).objs.size := by rw [Heap.size_push]; exact Nat.ne_of_lt (Nat.lt_succ_of_lt lt)
        have hh3 : A.in1.in1.in1.handled = none := by simp [hh]
        refine loop_G ((Walks.list hh3 _ l hn2 items).toS) s.heap.objs.size ?_ (led := !w.params.followText "set-order") (fun i => ks.getD i 0) (fun i v hv => hi i v hv) (fun i hi' => ?_) (by rw [hz]; exact hn) items.size 0 _ (Nat.sub_zero _) (Nat.zero_le _)
          ⟨⟨_, Heap.get?_push_size _ rfl, rfl, rfl⟩, hl1.push _⟩ ?_ ?_
        · rw [Heap.size_push]
          simp only [List.mem_cons, List.not_mem_nil, or_false, not_or]
          exact ⟨Nat.ne_of_lt (Nat.lt_succ_self _), Nat.ne_of_gt lt⟩
        · have h2 : i < ks.length := by (first | lia | omega)
          rw [List.getD_eq_getElem?_getD, List.getElem?_eq_getElem h2]
          exact hs _ (List.getElem_mem h2)
        · exact ⟨{ cls := .type "set", dict := none, data := .set #[] 0 (.fresh 0 0 (!w.params.followText "set-order")) }, #[], 0, _, Heap.get?_push_of_some _ gN, ⟨rfl, rfl, rfl⟩, rfl, fun e he => absurd he (by simp), tb_new _, fun k => by simp [hsOf]⟩
        · intro s3 mv g3
          rw [hks] at g3
          obtain ⟨h3, y1, y2, y3, y4⟩ := s3
          have e1 : y1 = s.gens := mv.gens
          have e2 : y2 = s.drawn := mv.drawn
          have e3 : y4 = s.os := mv.os
          subst e1
          subst e2
          subst e3
          refine wpAny_pure (wpAny_pure ⟨rfl, h3, y3, rfl, g3, fun b o hb e => mv.heap b o ?_ (Heap.get?_push_of_some _ (Heap.get?_push_of_some _ e))⟩)
          rw [Heap.size_push]
          simp only [List.mem_cons, List.not_mem_nil, or_false, not_or]
          exact ⟨Nat.ne_of_lt hb, Nat.ne_of_lt (Nat.lt_succ_of_lt hb)⟩
      · cases r2 with
        | error e => exact hr2
        | ok fl2 =>
          cases fl2 with
          | ret r =>
            obtain ⟨rfl, h', tk, rfl, g', k'⟩ := hr2
            repeat (any_goals (first | assumption | wp_step))
            exact q _ _ g' k'
          | _ => exact hr2.elim
    | _ => exact hr.elim
end
end SS
end L2

namespace L2
open PySem PySem.Spec PyProof.Rows
namespace SS
theorem owner_si : Manifest.owners.lookup (String.ofList ['r', 'o', 't', 'a', 'r', 'e', 't', 'i', '_', 't', 'e', 's'].reverse) = some Manifest.sig_set_iterator := by kernel_rfl
theorem slot_si_next : Slot "set_iterator" "__next__" "set_iterator.__next__" := .of (owner := "set_iterator") (n := "__next__") (by rw [typeLookup_type, builtinLookup_eq_fast]; kernel_rfl) (by decide +kernel) (by decide +kernel) (by decide +kernel) (by first | exact .inl (by decide +kernel) | exact .inr (by decide +kernel)) (by rw [isSubtype_type]; kernel_rfl)
theorem slot_si_iter : Slot "set_iterator" "__iter__" "set_iterator.__iter__" := .of (owner := "set_iterator") (n := "__iter__") (by rw [typeLookup_type, builtinLookup_eq_fast]; kernel_rfl) (by decide +kernel) (by decide +kernel) (by decide +kernel) (by first | exact .inl (by decide +kernel) | exact .inr (by decide +kernel)) (by rw [isSubtype_type]; kernel_rfl)
theorem entry_si_next : entryFor table "set_iterator.__next__" = some Builtin.«set_iterator.__next__» := entryFor_of_tree (by kernel_rfl)
theorem entry_si_iter : entryFor table "set_iterator.__iter__" = some Builtin.«dict_keyiterator.__iter__» := entryFor_alias (id' := "dict_keyiterator.__iter__") (by kernel_rfl) rfl (by decide +kernel) (by kernel_rfl)
theorem entry_s_iter : entryFor table "set.__iter__" = some Builtin.«frozenset.__iter__» := entryFor_alias (id' := "frozenset.__iter__") (by kernel_rfl) rfl (by decide +kernel) (by kernel_rfl)
theorem args_si_next (a : Value) : argsOk "set_iterator.__next__" ⟨[a], []⟩ := by
  unfold argsOk; rw [signature?_of (id := "set_iterator.__next__") (n := ['_', '_', 't', 'x', 'e', 'n', '_', '_']) (o := ['r', 'o', 't', 'a', 'r', 'e', 't', 'i', '_', 't', 'e', 's']) (by kernel_rfl) owner_si]; kernel_rfl
theorem args_si_iter (a : Value) : argsOk "set_iterator.__iter__" ⟨[a], []⟩ := by
  unfold argsOk; rw [signature?_of (id := "set_iterator.__iter__") (n := ['_', '_', 'r', 'e', 't', 'i', '_', '_']) (o := ['r', 'o', 't', 'a', 'r', 'e', 't', 'i', '_', 't', 'e', 's']) (by kernel_rfl) owner_si]; kernel_rfl
def SetIs (h : Heap) (a : Addr) (es : Array (Int × Value)) (ep : Nat) (t : SetTable) : Prop := ∃ o, h.get? a = some o ∧ o.ExactSet ∧ o.data = .set es ep t
theorem SetIs.at {h h' : Heap} {a : Addr} {es : Array (Int × Value)} {ep : Nat} {t : SetTable} (x : SetIs h a es ep t) (e : ∀ o, h.get? a = some o → h'.get? a = some o) : SetIs h' a es ep t :=
  let ⟨o, ho, r⟩ := x
  ⟨o, e o ho, r⟩
def walkOf (w : World) (a : Addr) (es : Array (Int × Value)) (ep : Nat) : Array (Int × Value) := if w.params.followText "set-order" = true then pickOrder (w.params.setOrder a ep) es else es
theorem pick_perm {α : Type} (f : Nat → Nat) : ∀ (n k : Nat) (left : List α) (out : Array α), left.length = n → (pickOrder.go f n k left out).toList.Perm (out.toList ++ left)
  | 0, k, left, out, h => by
    have e : left = [] := List.eq_nil_of_length_eq_zero h
    subst e
    unfold pickOrder.go
    rw [List.append_nil]
  | n + 1, k, left, out, h => by
    unfold pickOrder.go
    have hlt : f k % left.length < left.length := Nat.mod_lt _ (by (first | lia | omega))
    rw [List.getElem?_eq_getElem hlt]
    dsimp only
    refine (pick_perm f n (k + 1) _ _ (by rw [List.length_eraseIdx_of_lt hlt]; (first | lia | omega))).trans ?_
    rw [Array.toList_push, List.append_assoc]
    refine List.Perm.append_left _ ?_
    rw [List.eraseIdx_eq_take_drop_succ]
    have e : left = left.take (f k % left.length) ++ left[f k % left.length] :: left.drop (f k % left.length + 1) := by
      rw [← List.drop_eq_getElem_cons hlt, List.take_append_drop]
    refine List.Perm.trans ?_ (List.Perm.of_eq e.symm)
    rw [List.singleton_append]
    exact List.perm_middle.symm
theorem walk_perm (w : World) (a : Addr) (es : Array (Int × Value)) (ep : Nat) : (walkOf w a es ep).toList.Perm es.toList := by
  unfold walkOf
  split
  · have z := pick_perm (w.params.setOrder a ep) es.size 0 es.toList #[] (by simp)
    exact z
  · exact .refl _
theorem walk_size (w : World) (a : Addr) (es : Array (Int × Value)) (ep : Nat) : (walkOf w a es ep).size = es.size := by
  have z := (walk_perm w a es ep).length_eq
  simpa using z
def slotAt (w : World) (t : SetTable) (i : Nat) : Nat := if w.params.followText "set-order" = true then 0 else match i with
  | 0 => 0
  | i + 1 => t.place.getD i 0 + 1
def IsSI (h : Heap) (it : Addr) (slot i : Nat) (a : Addr) (n ep : Nat) : Prop := ∃ o, h.get? it = some o ∧ o.cls = .type "set_iterator" ∧ o.data = .fields #[rawInt slot, rawInt i, .ref a, rawInt n, rawInt ep]
theorem IsSI.at {h h' : Heap} {it a : Addr} {slot i n ep : Nat} (x : IsSI h it slot i a n ep) (e : ∀ o, h.get? it = some o → h'.get? it = some o) : IsSI h' it slot i a n ep :=
  let ⟨o, ho, r⟩ := x
  ⟨o, e o ho, r⟩
section
variable {P : Program} {w : World} {A : Around} {E : Value → Shared → Prop} {s : Shared} {a it : Addr} {es : Array (Int × Value)} {ep : Nat} {t : SetTable}
theorem iter_G {Q : Value → Shared → Prop} (g : SetIs s.heap a es ep t) (tb : Tb (!w.params.followText "set-order") es t)
    (q : Q (.ref s.heap.objs.size) { s with heap := s.heap.push { cls := .type "set_iterator", data := .fields #[rawInt 0, rawInt 0, .ref a, rawInt es.size, rawInt ep] } }) : wpAny (model P w) A (pyIter (.ref a)) Q E s := by
  obtain ⟨o, ho, hex, hd⟩ := g
  have hT : s.TypeIs (.ref a) "set" := ⟨o, ho, hex.1⟩
  refine wpAny_pyIter_slot hT PySem.F.slot_set_iter (wpAny_call_entry PySem.F.slot_set_iter hT entry_s_iter ?_ (PySem.F.args_set_iter_1 _))
  unfold Builtin.«frozenset.__iter__»
  refine wpAny_bind (m := Builtin.Frozenset.slot0 _ _) (wpAny_bind (wpAny_pure (wpAny_pure ?_)))
  refine wpAny_bind (m := Builtin.Frozenset.sizeOf _) (wpAny_bind (wpAny_setEntries_of ho hd tb.fits (wpAny_pure ?_)))
  refine wpAny_bind (wpAny_bind (wpAny_setState_of ho hd tb.fits ?_))
  refine wpAny_bind (m := setsByText) (wpAny_bind (wpAny_askSetting (wpAny_pure ?_)))
  refine wpAny_pure ?_
  refine wpAny_ite_split (fun hab => absurd (show (!w.params.followText "set-order" && (!t.plain && decide (es.size > 1))) = true from hab) (by rw [tb.plain]; simp)) fun _ => ?_
  refine wpAny_bind (wpAny_pure ?_)
  refine wpAny_bind (wpAny_setEpoch_of ho hd tb.fits ?_)
  refine wpAny_bind (wpAny_newObj_type (wpAny_pure ⟨_, rfl, "set_iterator", _, ⟨_, Heap.get?_push_size _ rfl, rfl⟩, slot_si_next.lookup, ?_⟩))
  exact q
theorem self_G {Q : Value → Shared → Prop} {slot i n : Nat} (g : IsSI s.heap it slot i a n ep) (q : Q (.ref it) s) : wpAny (model P w) A (pyIter (.ref it)) Q E s := by
  obtain ⟨o, ho, hc, hd⟩ := g
  have hT : s.TypeIs (.ref it) "set_iterator" := ⟨o, ho, hc⟩
  refine wpAny_pyIter_slot hT slot_si_iter (wpAny_call_entry slot_si_iter hT entry_si_iter ?_ (args_si_iter _))
  exact wpAny_pure ⟨_, rfl, "set_iterator", _, hT, slot_si_next.lookup, q⟩
theorem next_G {i : Nat} {Q : Option (Value × Nat) → Shared → Prop} (ho : SetIs s.heap a es ep t) (tb : Tb (!w.params.followText "set-order") es t) (hi : i ≤ es.size)
    (q : Q (((walkOf w a es ep)[i]?).map fun e => (e.2, slotAt w t (i + 1))) s) : wpAny (model P w) A (setNext a (slotAt w t i) i ep) Q E s := by
  obtain ⟨o, ho, hex, hd⟩ := ho
  unfold setNext
  refine wpAny_bind (wpAny_setState_of ho hd tb.fits ?_)
  dsimp only
  refine wpAny_bind (m := setsByText) (wpAny_bind (wpAny_askSetting (wpAny_pure ?_)))
  cases hf : w.params.followText "set-order" with
  | true =>
    have e1 : walkOf w a es ep = pickOrder (w.params.setOrder a ep) es := by unfold walkOf; rw [if_pos hf]
    have e2 : ∀ i, slotAt w t i = 0 := fun i => by unfold slotAt; rw [if_pos hf]
    rw [e1, e2] at q
    rw [e2]
    show wpAny _ _ (if w.params.followText "set-order" = true then _ else _) _ _ s
    rw [if_pos hf, if_neg (by simp)]
    refine wpAny_bind (m := setWalk a) ?_
    unfold setWalk
    refine wpAny_bind (wpAny_setState_of ho hd tb.fits ?_)
    dsimp only
    refine wpAny_bind (m := setsByText) (wpAny_bind (wpAny_askSetting (wpAny_pure ?_)))
    show wpAny _ _ (if w.params.followText "set-order" = true then _ else _) _ _ s
    rw [if_pos hf]
    exact wpAny_bind (wpAny_askSetting (wpAny_pure (wpAny_pure q)))
  | false =>
    have hw : walkOf w a es ep = es := by unfold walkOf; rw [if_neg (by rw [hf]; simp)]
    have hb : SetTable.below t.place (slotAt w t i) = i := by
      unfold slotAt
      rw [if_neg (by rw [hf]; simp)]
      cases i with
      | zero => exact below_zero tb.up
      | succ i => exact below_next tb.up (by rw [tb.size]; (first | lia | omega))
    show wpAny _ _ (if w.params.followText "set-order" = true then _ else _) _ _ s
    rw [if_neg (by rw [hf]; simp)]
    refine wpAny_ite_split (fun hab => absurd (show (!t.plain && decide (es.size > 1)) = true from hab) (by rw [tb.plain]; simp)) fun _ => ?_
    refine wpAny_bind (wpAny_ite_split (fun hab => absurd (show (!t.led && !es.isEmpty) = true from hab) (by rw [tb.led, hf]; simp)) fun _ => wpAny_pure ?_)
    rw [hb]
    rw [hw] at q
    by_cases hlt : i < es.size
    · have hlt2 : i < t.place.size := by rw [tb.size]; exact hlt
      have e1 : slotAt w t (i + 1) = t.place[i] + 1 := by
        unfold slotAt
        rw [if_neg (by rw [hf]; simp)]
        simp [Array.getD, hlt2]
      rw [Array.getElem?_eq_getElem hlt] at q ⊢
      rw [Array.getElem?_eq_getElem hlt2]
      rw [e1] at q
      exact wpAny_pure q
    · rw [Array.getElem?_eq_none (by (first | lia | omega))] at q ⊢
      exact wpAny_pure q
theorem IsSI.typeIs {slot i n : Nat} (g : IsSI s.heap it slot i a n ep) : s.TypeIs (.ref it) "set_iterator" :=
  let ⟨o, ho, hc, _⟩ := g
  ⟨o, ho, hc⟩
theorem item_G {i : Nat} {e : Int × Value} {Q : Option Value → Shared → Prop} (g : IsSI s.heap it (slotAt w t i) i a es.size ep) (gs : SetIs s.heap a es ep t) (tb : Tb (!w.params.followText "set-order") es t) (he : (walkOf w a es ep)[i]? = some e)
    (q : ∀ h', IsSI h' it (slotAt w t (i + 1)) (i + 1) a es.size ep → Heap.SameBut it s.heap h' → Q (some e.2) { s with heap := h' }) : wpAny (model P w) A (pyNext (.ref it)) Q E s := by
  have hT := g.typeIs
  obtain ⟨oi, hi, hc, hd⟩ := g
  obtain ⟨o, ho, hex, hds⟩ := id gs
  have hlt : i < es.size := by
    rw [← walk_size w a es ep]
    exact (Array.getElem?_eq_some_iff.mp he).1
  unfold pyNext
  refine wpAny_bind (wpAny_attempt (wpAny_callSpecial?_slot (name := Str.ofString "__next__") hT slot_si_next (wpAny_call_entry slot_si_next hT entry_si_next ?_ (args_si_next _))))
  unfold Builtin.«set_iterator.__next__»
  refine wpAny_bind (m := slotArgs _ _ _) (wpAny_pure ?_)
  refine wpAny_bind (wpAny_fieldsOf hi hd ?_)
  refine wpAny_bind (m := setEntries a) (wpAny_setEntries_of ho hds tb.fits ?_)
  refine wpAny_ite_split (fun hab => absurd hab (by simp)) fun _ => ?_
  refine wpAny_bind (m := setNext a (slotAt w t i) i ep) (next_G gs tb (Nat.le_of_lt hlt) ?_)
  rw [he]
  refine wpAny_bind (m := setField (.ref it) 0 (rawInt ((slotAt w t (i + 1) : Nat) : Int))) (wpAny_setField hi hd (by simp) ?_)
  have d1 := Obj.data_mapFields hd (·.setIfInBounds 0 (rawInt ((slotAt w t (i + 1) : Nat) : Int)))
  have g1 := Heap.get?_update_self (Obj.mapFields (·.setIfInBounds 0 (rawInt ((slotAt w t (i + 1) : Nat) : Int)))) hi (Obj.isFreed_of_fields d1)
  refine wpAny_bind (m := setField (.ref it) 1 (rawInt ((i : Int) + 1))) (wpAny_setField g1 d1 (by simp) ?_)
  have d2 := Obj.data_mapFields d1 (·.setIfInBounds 1 (rawInt ((i : Int) + 1)))
  have g2 := Heap.get?_update_self (Obj.mapFields (·.setIfInBounds 1 (rawInt ((i : Int) + 1)))) g1 (Obj.isFreed_of_fields d2)
  refine wpAny_pure ⟨_, rfl, wpAny_pure (q _ ⟨_, g2, ?_, ?_⟩ ((Heap.SameBut.update ..).trans (Heap.SameBut.update ..)))⟩
  · rw [Obj.cls_mapFields, Obj.cls_mapFields]
    exact hc
  · rw [d2]
    simp [rawInt]
theorem done_G {Q : Option Value → Shared → Prop} (hh : A.handled = none) (g : IsSI s.heap it (slotAt w t es.size) es.size a es.size ep) (gs : SetIs s.heap a es ep t) (tb : Tb (!w.params.followText "set-order") es t)
    (q : ∀ h', Heap.ExtBut it s.heap h' → Q none { s with heap := h' }) : wpAny (model P w) A (pyNext (.ref it)) Q E s := by
  have hT := g.typeIs
  obtain ⟨oi, hi, hc, hd⟩ := g
  obtain ⟨o, ho, hex, hds⟩ := id gs
  have he : (walkOf w a es ep)[es.size]? = none := Array.getElem?_eq_none (by rw [walk_size]; exact Nat.le_refl _)
  unfold pyNext
  refine wpAny_bind (wpAny_attempt (wpAny_callSpecial?_slot (name := Str.ofString "__next__") hT slot_si_next (wpAny_call_entry slot_si_next hT entry_si_next ?_ (args_si_next _))))
  unfold Builtin.«set_iterator.__next__»
  refine wpAny_bind (m := slotArgs _ _ _) (wpAny_pure ?_)
  refine wpAny_bind (wpAny_fieldsOf hi hd ?_)
  refine wpAny_bind (m := setEntries a) (wpAny_setEntries_of ho hds tb.fits ?_)
  refine wpAny_ite_split (fun hab => absurd hab (by simp)) fun _ => ?_
  refine wpAny_bind (m := setNext a (slotAt w t es.size) es.size ep) (next_G gs tb (Nat.le_refl _) ?_)
  rw [he]
  refine wpAny_bind (m := setField (.ref it) 2 .none) (wpAny_setField hi hd (by simp) ?_)
  refine wpAny_bind (m := newExc (.type "StopIteration") []) ?_
  simp only [newExc, newTuple]
  refine wpAny_bind (wpAny_newObj_type (wpAny_bind (m := firstArgMember _ _) (wpAny_of_eq (a := Value.none) (by first | rfl | (simp only [firstArgMember]; rfl)) (wpAny_newObj_type ?_ (by size_fits)))) (by size_fits))
  simp only [raiseNew]
  refine wpAny_bind (wpAny_handled ?_)
  rw [show A.in1.handled = none from hh]
  refine wpAny_bind (wpAny_pure (wpAny_throw ?_))
  refine wpAny_bind (wpAny_isInstance (T := "StopIteration") (b := true) ⟨_, Heap.get?_push_size _ rfl, rfl⟩ isSubtype_stop (wpAny_pure ?_))
  exact q _ (((Heap.SameBut.update ..).extBut.push _).push _)
theorem walks_G (hh : A.handled = none) (I : Addr) (hne : a ≠ I) (tb : Tb (!w.params.followText "set-order") es t) :
    Walks P w A I [I, a] [I] es.size (fun i v => ∃ e, (walkOf w a es ep)[i]? = some e ∧ v = e.2) (fun i h => IsSI h I (slotAt w t i) i a es.size ep ∧ SetIs h a es ep t) where
  sub := fun b hb => by simp at hb; simp [hb]
  frame := fun _ _ _ st hk => ⟨st.1.at fun o e => hk I (by simp) o e, st.2.at fun o e => hk a (by simp) o e⟩
  item := fun i s Q E hi st q => by
    have hlt : i < (walkOf w a es ep).size := by rw [walk_size]; exact hi
    refine item_G st.1 st.2 tb (Array.getElem?_eq_getElem hlt) fun h' g' sb => ?_
    exact q _ h' s.toks ⟨_, Array.getElem?_eq_getElem hlt, rfl⟩ ⟨g', st.2.at fun o e => (sb.2 a hne).trans e⟩ fun b o hb e => (sb.2 b fun z => hb (by simp [z])).trans e
  done := fun s Q E st q => done_G hh st.1 st.2 tb fun h' eb => q h' s.toks fun b o hb e => eb b o (fun z => hb (by simp [z])) e
  self := fun _ _ _ _ st q => self_G st.1 q
theorem hint_G {Q : Bool → Shared → Prop} (hT : s.TypeIs (.ref a) "set") (q : Q false s) : wpAny (model P w) A (Builtin.List.listLengthHint (.ref a)) Q E s := by
  unfold Builtin.List.listLengthHint
  refine wpAny_bind (wpAny_specialOf hT PySem.F.slot_set_len.lookup ?_)
  generalize hid : ("set.__len__" : String) = id0
  wp_delta
  rw [show splitId id0 = some ("set", "__len__") from by subst hid; decide +kernel]
  subst hid
  refine wpAny_bind (wpAny_isInstance (T := "set") (b := true) hT (by rw [isSubtype_type]; kernel_rfl) (wpAny_ite_split (fun hab => absurd hab (by decide)) fun _ => ?_))
  exact wpAny_ite_split (fun _ => wpAny_bind (wpAny_typeOf hT (wpAny_pure q))) fun hab => absurd (by decide +kernel) hab
theorem src_G (tb : Tb (!w.params.followText "set-order") es t) : PySem.W.KdlSrc P w "set" a a es.size (fun i v => ∃ e, (walkOf w a es ep)[i]? = some e ∧ v = e.2) (fun h => SetIs h a es ep t) where
  type := fun _ ⟨o, ho, hex, _⟩ => ⟨o, ho, hex.1⟩
  there := fun _ ⟨_, ho, _⟩ => ⟨Heap.lt_size ho, Heap.lt_size ho⟩
  keep := fun _ _ g hk => g.at fun o e => hk a (.inl rfl) o e
  notList := by decide
  notTuple := by decide
  hint := fun _ _ _ _ ⟨o, ho, hex, _⟩ q => hint_G ⟨o, ho, hex.1⟩ q
  iter := fun A s hh g => ⟨_, _, fun _ _ q => iter_G g tb q, walks_G hh _ (let ⟨_, ho, _⟩ := g; Nat.ne_of_lt (Heap.lt_size ho)) tb, ⟨⟨_, Heap.get?_push_size _ rfl, rfl, by
    have e : slotAt w t 0 = 0 := by unfold slotAt; split <;> rfl
    rw [e]
    rfl⟩, g.at fun o e => Heap.get?_push_of_some _ e⟩⟩
end
end SS
def SetO (w : World) (a : Addr) (ks : List Nat) : HO := .ext fun h => SS.SetG h a (!w.params.followText "set-order") ks
theorem setO_ok {P : Program} {w : World} {H : Hp} {h : Heap} {a : Addr} {ks : List Nat} (g : SS.SetG h a (!w.params.followText "set-order") ks) : ObjOk P w H h a (SetO w a ks) :=
  ⟨g, let ⟨o, _, _, _, e, _⟩ := g; ⟨o, e⟩, fun _ _ g1 k => SS.SetG.at g1 k⟩
section
variable {X : Cx}
theorem setS (K : PySem.W.Frag) (hc : X.calm = true) (hK : X.K = K := by rfl) : CallR X (.type "set") (fun xs H Q => ∃ (p : Addr) (ks : List Nat), xs = [.ref p] ∧ SqL K H p (ks.map fun k : Nat => V.int (k : Int)) ∧ (∀ k ∈ ks, k < 32) ∧ ks.length ≤ 18 ∧
    ∀ l : Addr, H l = none → Q (.ref l) (upd H l (SetO X.w l ks))) := by
  subst hK
  intro pins s σ H xs us Q I r h
  obtain ⟨p, ks, rfl, hq, hs, hn, q⟩ := h
  obtain ⟨u, rfl, rx⟩ := vals1 r
  cases rx
  obtain ⟨its, rv, pl, hz⟩ := I.list hq
  have hl := rv.length
  rw [List.length_map] at hl
  have rv2 : Vals ((ks.map fun k : Nat => (k : Int)).map V.int) its := by rw [List.map_map]; exact rv
  have hi := intsAre_of rv2
  refine SS.call_G (I.ok.hd hc) pl.isList (ks := ks) (fun i v hv => ?_) (by rw [List.size_toArray]; (first | lia | omega)) hs hn fun h' tk g hk => ?_
  · obtain ⟨t, e⟩ := PyProof.Rows.IntsAre.int_at hi i v (by simpa using hv)
    refine ⟨t, e.trans ?_⟩
    have hlt : i < ks.length := by
      have z := (Array.getElem?_eq_some_iff.mp hv).1
      rw [List.size_toArray] at z
      (first | lia | omega)
    simp [List.getD, hlt]
  · exact ⟨.ref s.heap.objs.size, _, I.laid (t' := tk) (o := SetO X.w s.heap.objs.size ks) (fun b o e => hk b o (Heap.lt_size e) e) (Nat.le_refl _) (setO_ok g), rfl, q _ I.fresh⟩
theorem sortedS (hc : X.calm = true) : CallR X (.builtin "sorted") (fun xs H Q => ∃ (p : Addr) (ks : List Nat), xs = [.ref p] ∧ H p = some (SetO X.w p ks) ∧
    ∀ (l : Addr) (ms : List Nat), H l = none → ms.Pairwise (· < ·) → (∀ k, k ∈ ms ↔ k ∈ ks) → Q (.ref l) (upd H l (.lst (ms.map fun k : Nat => V.int (k : Int))))) := by
  intro pins s σ H xs us Q I r h
  obtain ⟨p, ks, rfl, hp, q⟩ := h
  obtain ⟨u, rfl, rx⟩ := vals1 r
  cases rx
  obtain ⟨⟨o, es, ep, t, ho, hex, hd, nums, tb, hm⟩, _⟩ := (show ObjOk X.prog X.w H s.heap p (SetO X.w p ks) from I.hok p _ hp)
  have hsz : es.size ≤ 18 := by
    rcases tb.mask with ⟨_, z⟩ | ⟨_, z, _⟩ <;> (first | lia | omega)
  refine Calls.call_function_entry kind_sorted plain_sorted entry_sorted (args_sorted1 _) ?_
  unfold Builtin.«sorted»
  refine wpAny_bind (m := checkCount "sorted" 1 1 _) (wpAny_pure ?_)
  refine wpAny_bind (collect_src (A := X.A.in1) (SS.src_G (ep := ep) tb) (I.ok.hd hc) ⟨o, ho, hex, hd⟩ (by rw [sizeLine_eq]; (first | lia | omega)) fun h1 tk acc hk hlt1 hacc => ?_)
  have hperm := SS.walk_perm X.w p es ep
  have hl : acc.toList.length = es.size := by rw [Array.length_toList]; exact hacc.1
  have hws : (SS.walkOf X.w p es ep).toList.length = es.size := by rw [Array.length_toList, SS.walk_size]
  have hI : IntsAre acc.toList ((SS.walkOf X.w p es ep).toList.map fun e => ((e.1.toNat : Nat) : Int)) := by
    have gen : ∀ (vs : List Value) (ws : List (Int × Value)), vs.length = ws.length → (∀ (j : Nat) (v : Value), vs[j]? = some v → ∃ e, ws[j]? = some e ∧ v = e.2) → (∀ e ∈ ws, ∃ (k : Nat) (t : Tok), k < 32 ∧ e = ((k : Int), .int (k : Int) t)) → IntsAre vs (ws.map fun e => ((e.1.toNat : Nat) : Int)) := by
      intro vs
      induction vs with
      | nil => intro ws h1 _ _; cases ws with
        | nil => exact .nil
        | cons a r => simp at h1
      | cons v r ih => intro ws h1 h2 h3; cases ws with
        | nil => simp at h1
        | cons a r' =>
          obtain ⟨e, e1, e2⟩ := h2 0 v rfl
          cases e1
          obtain ⟨k, t, _, rfl⟩ := h3 _ (List.mem_cons_self ..)
          rw [e2]
          exact .cons (k : Int) t (ih r' (by simpa using h1) (fun j v hj => h2 (j + 1) v hj) fun e he => h3 e (List.mem_cons_of_mem _ he))
    refine gen _ _ (by rw [hl, hws]) (fun j v hj => ?_) fun e he => nums e (hperm.mem_iff.mp he)
    obtain ⟨e, e1, e2⟩ := hacc.2 j v (by rw [← Array.getElem?_toList]; exact hj)
    exact ⟨e, by rw [Array.getElem?_toList]; exact e1, e2⟩
  refine wpAny_bind (wpAny_newList ?_ (by rw [hl, sizeLine_eq]; (first | lia | omega)))
  have hoL : (h1.push (seqObj "list" acc.toList.toArray 0)).get? h1.objs.size = some (seqObj "list" acc.toList.toArray 0) := Heap.get?_push_size _ rfl
  refine wpAny_bind (wpAny_holding (wpAny_call_entry slot_list_sort ⟨_, hoL, rfl⟩ entry_list_sort (list_sort_tree hoL hI (by (first | lia | omega)) fun out ns' a1 a2 a3 => ⟨_, rfl, ?_⟩) (args_list_sort _)))
  refine wpAny_pure ⟨_, rfl, ?_⟩
  have hle : s.heap.objs.size ≤ h1.objs.size := Nat.le_of_lt hlt1
  obtain ⟨e, he⟩ := sortedHeap_at (out := out) hoL
  have hfr : H h1.objs.size = none := I.hok.fresh hle
  -- the numbers
  have hp2 : ns'.Perm ((SS.hsOf es).map fun k : Nat => (k : Int)) := by
    refine a2.trans ?_
    have z := hperm.map fun e : Int × Value => ((e.1.toNat : Nat) : Int)
    unfold SS.hsOf
    rw [List.map_map]
    exact z
  have hback : (ns'.map Int.toNat).map (fun k : Nat => (k : Int)) = ns' := by
    rw [List.map_map]
    refine (List.map_congr_left fun x hx => ?_).trans (List.map_id _)
    obtain ⟨k, _, rfl⟩ := List.mem_map.mp (hp2.mem_iff.mp hx)
    show (((k : Int).toNat : Nat) : Int) = (k : Int)
    (first | lia | omega)
  have hp3 : (ns'.map Int.toNat).Perm (SS.hsOf es) := by
    have z := hp2.map Int.toNat
    rw [List.map_map] at z
    exact z.trans (List.Perm.of_eq ((List.map_congr_left fun k _ => by show ((k : Int)).toNat = k; (first | lia | omega)).trans (List.map_id _)))
  have hnd : (ns'.map Int.toNat).Nodup := hp3.nodup_iff.mpr tb.nd
  have hpw : (ns'.map Int.toNat).Pairwise (· < ·) := by
    have w1 : (ns'.map Int.toNat).Pairwise (· ≤ ·) := List.pairwise_map.mpr (a3.imp fun {a b} hab => Int.toNat_le_toNat hab)
    exact (w1.and hnd).imp fun {a b} z => Nat.lt_of_le_of_ne z.1 z.2
  refine ⟨.ref h1.objs.size, _, I.laid (t' := tk) (fun b o hb => ?_) hle ?_, rfl, q _ (ns'.map Int.toNat) hfr hpw fun k => (hp3.mem_iff).trans (hm k)⟩
  · have hb1 := hk b o hb
    have hlt := Heap.lt_size hb1
    rw [sortedHeap_old (Nat.ne_of_lt hlt) (by rw [size_push']; exact Nat.lt_succ_of_lt hlt), Heap.get?_push_ne _ _ _ (Nat.ne_of_lt hlt)]
    exact hb1
  · have hv : (ns'.map Int.toNat).map (fun k : Nat => V.int (k : Int)) = ns'.map V.int := by
      have z := congrArg (List.map V.int) hback
      rw [List.map_map] at z
      exact z
    rw [hv]
    refine ⟨?_, out.toList, e, valsInts a1, ?_⟩
    · rw [List.length_map, hp2.length_eq, List.length_map]
      have z : (SS.hsOf es).length = es.size := by simp [SS.hsOf]
      rw [z, sizeLine_eq]
      (first | lia | omega)
    · have : out.toList.toArray = out := by simp
      rw [this]
      exact he
end
end L2

namespace L2
open PySem
theorem for_range' {lo : Int} {n : Nat} {g : TG} {tb : TS} {D : Ends} {σ : St} {H : Hp} (Pv : Nat → St → Hp → Prop) (h0 : Pv 0 σ H)
    (hs : ∀ i, let D' : Ends := { D with nx := Pv (i + 1), ct := Pv (i + 1), bk := D.nx }; ∀ σ H, i < n → Pv i σ H → g (.int (lo + i)) σ H fun σ2 H2 => tb D' σ2 H2) (hd : ∀ σ H, Pv n σ H → D.nx σ H) :
    ∃ W : Nat → Nat → St → Hp → Prop, (∃ m, W 0 m σ H) ∧ ∀ i m σ H, W i m σ H →
      ((Itr lo n).stop i H ∧ D.nx σ H) ∨ ((Itr lo n).go i H ∧ ∃ N : St → Hp → Prop, (∀ σ' H', N σ' H' → ∃ m', m' < m ∧ W (i + 1) m' σ' H') ∧ ∀ x H', (Itr lo n).yld i H x H' → g x σ H' fun σ2 H2 => tb { D with nx := N, ct := N, bk := D.nx } σ2 H2) :=
  for_range Pv h0 (fun i σ H hi p => hs i σ H hi p) hd
theorem for_list' {K : PySem.W.Frag} {a : Addr} {xs : List V} {g : TG} {tb : TS} {D : Ends} {σ : St} {H : Hp} (Pv : Nat → St → Hp → Prop) (h0 : Pv 0 σ H) (hl : ∀ i σ H, i ≤ xs.length → Pv i σ H → SqL K H a xs)
    (hs : ∀ i x, let D' : Ends := { D with nx := Pv (i + 1), ct := Pv (i + 1), bk := D.nx }; ∀ σ H, xs[i]? = some x → Pv i σ H → g x σ H fun σ2 H2 => tb D' σ2 H2) (hd : ∀ σ H, Pv xs.length σ H → D.nx σ H) :
    ∃ W : Nat → Nat → St → Hp → Prop, (∃ m, W 0 m σ H) ∧ ∀ i m σ H, W i m σ H →
      ((Itl K a).stop i H ∧ D.nx σ H) ∨ ((Itl K a).go i H ∧ ∃ N : St → Hp → Prop, (∀ σ' H', N σ' H' → ∃ m', m' < m ∧ W (i + 1) m' σ' H') ∧ ∀ x H', (Itl K a).yld i H x H' → g x σ H' fun σ2 H2 => tb { D with nx := N, ct := N, bk := D.nx } σ2 H2) :=
  for_list Pv h0 hl (fun i x σ H hi p => hs i x σ H hi p) hd
theorem bmK {X : Cx} {e : Expr} {T : String} {r : V → List V → Hp → VK → Prop} {to : TE} {t : TA} (K : PySem.W.Frag) (p : PE X e (tBM X.K T r to t)) (h : X.K = K := by rfl) : PE X e (tBM K T r to t) := by subst h; exact p
end L2

namespace L2
open PySem
theorem ixq {K : PySem.W.Frag} {H : Hp} {a : Addr} {xs : List V} {k : Int} {v : V} {R : V → Prop} (hs : SqT K H a xs) (ha : atI xs k = some v) (q : R v) : ∃ p ys k' w, V.ref a = .ref p ∧ V.int k = .int k' ∧ SqT K H p ys ∧ atI ys k' = some w ∧ R w := ⟨a, xs, k, v, rfl, rfl, hs, ha, q⟩
theorem ixl {K : PySem.W.Frag} {H : Hp} {a : Addr} {xs : List V} {k : Int} {v : V} {R : V → Prop} (hs : SqL K H a xs) (ha : atI xs k = some v) (q : R v) : ∃ p ys k' w, V.ref a = .ref p ∧ V.int k = .int k' ∧ SqL K H p ys ∧ atI ys k' = some w ∧ R w := ⟨a, xs, k, v, rfl, rfl, hs, ha, q⟩
theorem ijq {i j : Int} {R : Int → Int → Prop} (h : R i j) : ∃ i' j', V.int i = .int i' ∧ V.int j = .int j' ∧ R i' j' := ⟨i, j, rfl, rfl, h⟩
end L2
namespace L2
open PySem
theorem lnq {K : PySem.W.Frag} {H : Hp} {a : Addr} {xs : List V} {E : Addr → Prop} {R : List V → Prop} (e : E a) (h : SqL K H a xs ∨ SqT K H a xs) (q : R xs) : ∃ p ys, E p ∧ (SqL K H p ys ∨ SqT K H p ys) ∧ R ys := ⟨a, xs, e, h, q⟩
theorem exq {α : Type} {A R : α → Prop} {x : α} (h : A x) (r : R x) : ∃ x, A x ∧ R x := ⟨x, h, r⟩
end L2

namespace L2
open PySem PySem.Spec PyProof.Rows
section
variable {P : Program} {w : World} {K : PySem.W.Frag} {mg : Str → Option Value} {base : Heap}
end
end L2

set_option Elab.async false
set_option maxRecDepth 100000
set_option maxHeartbeats 4000000
namespace K15
open PySem L2 Ring
def top (i : Nat) : Stmt := PySem.Challenge.pw_ringbase_k15_sides_or_rings.main.body.getD i (.Pass ⟨0, 0, 0, 0⟩)
abbrev s_has_tie : Stmt := top 15
theorem sc_has_tie : FnScope ["tie_set", "tie"] ["tie_set", "tie"] (defScope s_has_tie) := ⟨rfl, rfl, rfl, by decide +kernel, rfl, by decide +kernel, by decide +kernel⟩
abbrev s_ties_in : Stmt := top 16
theorem sc_ties_in : FnScope ["tie_set"] ["tie_set"] (defScope s_ties_in) := ⟨rfl, rfl, rfl, by decide +kernel, rfl, by decide +kernel, by decide +kernel⟩
abbrev s_set_of : Stmt := top 17
theorem sc_set_of : FnScope ["web", "ties", "found", "tie"] ["web", "ties"] (defScope s_set_of) := ⟨rfl, rfl, rfl, by decide +kernel, rfl, by decide +kernel, by decide +kernel⟩
theorem hd_set_of {sa0 sa1 sa2 sa3 : TS} {sc0 : TT} {si0 : TI} {sg0 : TG} {D : Ends} {σ : St} {H : Hp} (h : let zz0 : TS := sa0; let zz1 : TS := sa1; let zz2 : TS := sa2; let zz3 : TS := (tSeq (tIfS sc0 zz2 tNext) zz1); let zz4 : TS := (tSeq (tFor si0 sg0 zz3) zz0); (tSeq sa3 zz4) D σ H) : (tSeq sa3 (tSeq (tFor si0 sg0 (tSeq (tIfS sc0 sa2 tNext) sa1)) sa0)) D σ H := h
abbrev s_all_ties : Stmt := top 18
theorem sc_all_ties : FnScope ["web"] ["web"] (defScope s_all_ties) := ⟨rfl, rfl, rfl, by decide +kernel, rfl, by decide +kernel, by decide +kernel⟩
abbrev s_is_set : Stmt := top 19
theorem sc_is_set : FnScope ["web", "number"] ["web", "number"] (defScope s_is_set) := ⟨rfl, rfl, rfl, by decide +kernel, rfl, by decide +kernel, by decide +kernel⟩
abbrev s_check_set : Stmt := top 20
theorem sc_check_set : FnScope ["web", "tie_set"] ["web", "tie_set"] (defScope s_check_set) := ⟨rfl, rfl, rfl, by decide +kernel, rfl, by decide +kernel, by decide +kernel⟩
theorem hd_check_set {sa0 : TS} {sc0 : TT} {D : Ends} {σ : St} {H : Hp} (h : let zz0 : TS := sa0; (tIfS sc0 zz0 tNext) D σ H) : (tIfS sc0 sa0 tNext) D σ H := h
abbrev s_drawn_together : Stmt := top 21
theorem sc_drawn_together : FnScope ["leasts", "one", "other", "low", "high"] ["leasts", "one", "other"] (defScope s_drawn_together) := ⟨rfl, rfl, rfl, by decide +kernel, rfl, by decide +kernel, by decide +kernel⟩
theorem hd_drawn_together {sa0 sa1 sa2 : TS} {D : Ends} {σ : St} {H : Hp} (h : let zz0 : TS := sa0; let zz1 : TS := (tSeq sa1 zz0); (tSeq sa2 zz1) D σ H) : (tSeq sa2 (tSeq sa1 sa0)) D σ H := h
abbrev s_forest_trails : Stmt := top 23
theorem sc_forest_trails : FnScope ["web", "leasts", "trails", "tie", "one", "other", "bridge", "moved"] ["web"] (defScope s_forest_trails) := ⟨rfl, rfl, rfl, by decide +kernel, rfl, by decide +kernel, by decide +kernel⟩
theorem hd_forest_trails {sa0 sa1 sa2 sa3 sa4 sa5 sa6 sa7 sa8 : TS} {sc0 : TT} {si0 : TI} {sg0 : TG} {D : Ends} {σ : St} {H : Hp} (h : let zz0 : TS := sa0; let zz1 : TS := sa1; let zz2 : TS := (tSeq sa2 zz1); let zz3 : TS := (tSeq sa3 zz2); let zz4 : TS := (tSeq sa4 zz3); let zz5 : TS := (tIfS sc0 zz4 tNext); let zz6 : TS := (tSeq sa5 zz5); let zz7 : TS := (tSeq sa6 zz6); let zz8 : TS := (tSeq (tFor si0 sg0 zz7) zz0); let zz9 : TS := (tSeq sa7 zz8); (tSeq sa8 zz9) D σ H) : (tSeq sa8 (tSeq sa7 (tSeq (tFor si0 sg0 (tSeq sa6 (tSeq sa5 (tIfS sc0 (tSeq sa4 (tSeq sa3 (tSeq sa2 sa1))) tNext)))) sa0))) D σ H := h
abbrev s_forest : Stmt := top 24
theorem sc_forest : FnScope ["web", "found", "trail"] ["web"] (defScope s_forest) := ⟨rfl, rfl, rfl, by decide +kernel, rfl, by decide +kernel, by decide +kernel⟩
theorem hd_forest {sa0 sa1 sa2 : TS} {si0 : TI} {sg0 : TG} {D : Ends} {σ : St} {H : Hp} (h : let zz0 : TS := sa0; let zz1 : TS := sa1; let zz2 : TS := (tSeq (tFor si0 sg0 zz1) zz0); (tSeq sa2 zz2) D σ H) : (tSeq sa2 (tSeq (tFor si0 sg0 sa1) sa0)) D σ H := h
abbrev s_chords : Stmt := top 25
theorem sc_chords : FnScope ["web"] ["web"] (defScope s_chords) := ⟨rfl, rfl, rfl, by decide +kernel, rfl, by decide +kernel, by decide +kernel⟩
abbrev s_ring_closed : Stmt := top 26
theorem sc_ring_closed : FnScope ["web", "trails", "chord", "tie"] ["web", "trails", "chord"] (defScope s_ring_closed) := ⟨rfl, rfl, rfl, by decide +kernel, rfl, by decide +kernel, by decide +kernel⟩
theorem hd_ring_closed {sa0 sa1 : TS} {D : Ends} {σ : St} {H : Hp} (h : let zz0 : TS := sa0; (tSeq sa1 zz0) D σ H) : (tSeq sa1 sa0) D σ H := h
abbrev s_chord_ring : Stmt := top 27
theorem sc_chord_ring : FnScope ["web", "tie"] ["web", "tie"] (defScope s_chord_ring) := ⟨rfl, rfl, rfl, by decide +kernel, rfl, by decide +kernel, by decide +kernel⟩
theorem hd_chord_ring {sa0 sa1 : TS} {sc0 : TT} {D : Ends} {σ : St} {H : Hp} (h : let zz0 : TS := sa0; let zz1 : TS := sa1; (tSeq (tIfS sc0 zz1 tNext) zz0) D σ H) : (tSeq (tIfS sc0 sa1 tNext) sa0) D σ H := h
abbrev s_common : Stmt := top 29
theorem sc_common : FnScope ["one", "other"] ["one", "other"] (defScope s_common) := ⟨rfl, rfl, rfl, by decide +kernel, rfl, by decide +kernel, by decide +kernel⟩
abbrev s_bears_oddly : Stmt := top 30
theorem sc_bears_oddly : FnScope ["tie_set", "marks"] ["tie_set", "marks"] (defScope s_bears_oddly) := ⟨rfl, rfl, rfl, by decide +kernel, rfl, by decide +kernel, by decide +kernel⟩
abbrev s_is_side : Stmt := top 31
theorem sc_is_side : FnScope ["web", "side", "ahead", "point"] ["web", "side"] (defScope s_is_side) := ⟨rfl, rfl, rfl, by decide +kernel, rfl, by decide +kernel, by decide +kernel⟩
theorem hd_is_side {sa0 sa1 sa2 sa3 : TS} {sc0 : TT} {si0 : TI} {sg0 : TG} {D : Ends} {σ : St} {H : Hp} (h : let zz0 : TS := sa0; let zz1 : TS := sa1; let zz2 : TS := sa2; let zz3 : TS := (tSeq (tIfS sc0 zz2 tNext) zz1); let zz4 : TS := (tSeq (tFor si0 sg0 zz3) zz0); (tSeq sa3 zz4) D σ H) : (tSeq sa3 (tSeq (tFor si0 sg0 (tSeq (tIfS sc0 sa2 tNext) sa1)) sa0)) D σ H := h
abbrev s_cut_of : Stmt := top 32
theorem sc_cut_of : FnScope ["web", "side"] ["web", "side"] (defScope s_cut_of) := ⟨rfl, rfl, rfl, by decide +kernel, rfl, by decide +kernel, by decide +kernel⟩
theorem hd_cut_of {sa0 sa1 : TS} {sc0 : TT} {D : Ends} {σ : St} {H : Hp} (h : let zz0 : TS := sa0; let zz1 : TS := sa1; (tSeq (tIfS sc0 zz1 tNext) zz0) D σ H) : (tSeq (tIfS sc0 sa1 tNext) sa0) D σ H := h
abbrev s_side_of : Stmt := top 33
theorem sc_side_of : FnScope ["web", "tie_set", "trails", "side", "amiss"] ["web", "tie_set"] (defScope s_side_of) := ⟨rfl, rfl, rfl, by decide +kernel, rfl, by decide +kernel, by decide +kernel⟩
theorem hd_side_of {sa0 sa1 sa2 sa3 sa4 sa5 : TS} {sc0 : TT} {D : Ends} {σ : St} {H : Hp} (h : let zz0 : TS := sa0; let zz1 : TS := sa1; let zz2 : TS := (tSeq (tIfS sc0 zz1 tNext) zz0); let zz3 : TS := (tSeq sa2 zz2); let zz4 : TS := (tSeq sa3 zz3); let zz5 : TS := (tSeq sa4 zz4); (tSeq sa5 zz5) D σ H) : (tSeq sa5 (tSeq sa4 (tSeq sa3 (tSeq sa2 (tSeq (tIfS sc0 sa1 tNext) sa0))))) D σ H := h
abbrev s_law_cell : Stmt := top 35
theorem sc_law_cell : FnScope ["script", "k"] ["script", "k"] (defScope s_law_cell) := ⟨rfl, rfl, rfl, by decide +kernel, rfl, by decide +kernel, by decide +kernel⟩
theorem hd_law_cell {sa0 sa1 : TS} {sc0 : TT} {D : Ends} {σ : St} {H : Hp} (h : let zz0 : TS := sa0; let zz1 : TS := sa1; (tSeq (tIfS sc0 zz1 tNext) zz0) D σ H) : (tSeq (tIfS sc0 sa1 tNext) sa0) D σ H := h
abbrev s_law_turn : Stmt := top 36
theorem sc_law_turn : FnScope ["cell", "stir"] ["cell"] (defScope s_law_turn) := ⟨rfl, rfl, rfl, by decide +kernel, rfl, by decide +kernel, by decide +kernel⟩
theorem hd_law_turn {sa0 sa1 : TS} {D : Ends} {σ : St} {H : Hp} (h : let zz0 : TS := sa0; (tSeq sa1 zz0) D σ H) : (tSeq sa1 sa0) D σ H := h
abbrev s_law_whole : Stmt := top 37
theorem sc_law_whole : FnScope ["found"] ["found"] (defScope s_law_whole) := ⟨rfl, rfl, rfl, by decide +kernel, rfl, by decide +kernel, by decide +kernel⟩
abbrev s_law_tie : Stmt := top 38
theorem sc_law_tie : FnScope ["cell", "points", "way", "number", "one", "other"] ["cell", "points", "way"] (defScope s_law_tie) := ⟨rfl, rfl, rfl, by decide +kernel, rfl, by decide +kernel, by decide +kernel⟩
theorem hd_law_tie {sa0 sa1 sa2 sa3 sa4 sa5 : TS} {sc0 : TT} {D : Ends} {σ : St} {H : Hp} (h : let zz0 : TS := sa0; let zz1 : TS := (tSeq sa1 zz0); let zz2 : TS := (tSeq sa2 zz1); let zz3 : TS := (tSeq sa3 zz2); let zz4 : TS := sa4; let zz5 : TS := (tSeq (tIfS sc0 zz4 tNext) zz3); (tSeq sa5 zz5) D σ H) : (tSeq sa5 (tSeq (tIfS sc0 sa4 tNext) (tSeq sa3 (tSeq sa2 (tSeq sa1 sa0))))) D σ H := h
abbrev s_law_web : Stmt := top 39
theorem sc_law_web : FnScope ["script", "most", "head", "points", "cells"] ["script", "most"] (defScope s_law_web) := ⟨rfl, rfl, rfl, by decide +kernel, rfl, by decide +kernel, by decide +kernel⟩
theorem hd_law_web {sa0 sa1 sa2 sa3 sa4 : TS} {sc0 : TT} {D : Ends} {σ : St} {H : Hp} (h : let zz0 : TS := sa0; let zz1 : TS := sa1; let zz2 : TS := (tSeq (tIfS sc0 zz1 tNext) zz0); let zz3 : TS := (tSeq sa2 zz2); let zz4 : TS := (tSeq sa3 zz3); (tSeq sa4 zz4) D σ H) : (tSeq sa4 (tSeq sa3 (tSeq sa2 (tSeq (tIfS sc0 sa1 tNext) sa0)))) D σ H := h
abbrev s_law_kinds : Stmt := top 40
theorem sc_law_kinds : FnScope ["e", "found"] ["e"] (defScope s_law_kinds) := ⟨rfl, rfl, rfl, by decide +kernel, rfl, by decide +kernel, by decide +kernel⟩
theorem hd_law_kinds {sa0 sa1 sa2 sa3 sa4 : TS} {sc0 : TT} {D : Ends} {σ : St} {H : Hp} (h : let zz0 : TS := sa0; let zz1 : TS := sa1; let zz2 : TS := (tSeq (tIfS sc0 zz1 tNext) zz0); let zz3 : TS := (tSeq sa2 zz2); let zz4 : TS := (tSeq sa3 zz3); (tSeq sa4 zz4) D σ H) : (tSeq sa4 (tSeq sa3 (tSeq sa2 (tSeq (tIfS sc0 sa1 tNext) sa0)))) D σ H := h
abbrev s_law_in : Stmt := top 41
theorem sc_law_in : FnScope ["some"] ["some"] (defScope s_law_in) := ⟨rfl, rfl, rfl, by decide +kernel, rfl, by decide +kernel, by decide +kernel⟩
abbrev s_law_reached : Stmt := top 42
theorem sc_law_reached : FnScope ["web", "some", "point", "inside", "again", "tie", "one", "other", "length"] ["web", "some", "point"] (defScope s_law_reached) := ⟨rfl, rfl, rfl, by decide +kernel, rfl, by decide +kernel, by decide +kernel⟩
theorem hd_law_reached {sa0 sa1 sa2 sa3 : TS} {sc0 : TT} {si0 si1 : TI} {sg0 sg1 : TG} {D : Ends} {σ : St} {H : Hp} (h : let zz0 : TS := sa0; let zz1 : TS := sa1; let zz2 : TS := (tIfS sc0 zz1 tNext); let zz3 : TS := (tSeq sa2 zz2); let zz4 : TS := (tFor si1 sg1 zz3); let zz5 : TS := (tSeq (tFor si0 sg0 zz4) zz0); (tSeq sa3 zz5) D σ H) : (tSeq sa3 (tSeq (tFor si0 sg0 (tFor si1 sg1 (tSeq sa2 (tIfS sc0 sa1 tNext)))) sa0)) D σ H := h
abbrev s_law_is_ring : Stmt := top 43
theorem sc_law_is_ring : FnScope ["web", "some", "met", "point", "ends"] ["web", "some"] (defScope s_law_is_ring) := ⟨rfl, rfl, rfl, by decide +kernel, rfl, by decide +kernel, by decide +kernel⟩
theorem hd_law_is_ring {sa0 sa1 sa2 sa3 sa4 sa5 : TS} {sc0 sc1 sc2 : TT} {si0 : TI} {sg0 : TG} {D : Ends} {σ : St} {H : Hp} (h : let zz0 : TS := sa0; let zz1 : TS := sa1; let zz2 : TS := (tIfS sc0 zz1 tNext); let zz3 : TS := sa2; let zz4 : TS := (tSeq (tIfS sc1 zz3 tNext) zz2); let zz5 : TS := (tSeq sa3 zz4); let zz6 : TS := (tSeq (tFor si0 sg0 zz5) zz0); let zz7 : TS := (tSeq sa4 zz6); let zz8 : TS := sa5; (tSeq (tIfS sc2 zz8 tNext) zz7) D σ H) : (tSeq (tIfS sc2 sa5 tNext) (tSeq sa4 (tSeq (tFor si0 sg0 (tSeq sa3 (tSeq (tIfS sc1 sa2 tNext) (tIfS sc0 sa1 tNext)))) sa0))) D σ H := h
abbrev s_law_cut : Stmt := top 44
theorem sc_law_cut : FnScope ["web", "side", "found", "tie", "one", "other", "length"] ["web", "side"] (defScope s_law_cut) := ⟨rfl, rfl, rfl, by decide +kernel, rfl, by decide +kernel, by decide +kernel⟩
theorem hd_law_cut {sa0 sa1 sa2 sa3 : TS} {sc0 : TT} {si0 : TI} {sg0 : TG} {D : Ends} {σ : St} {H : Hp} (h : let zz0 : TS := sa0; let zz1 : TS := sa1; let zz2 : TS := (tIfS sc0 zz1 tNext); let zz3 : TS := (tSeq sa2 zz2); let zz4 : TS := (tSeq (tFor si0 sg0 zz3) zz0); (tSeq sa3 zz4) D σ H) : (tSeq sa3 (tSeq (tFor si0 sg0 (tSeq sa2 (tIfS sc0 sa1 tNext))) sa0)) D σ H := h
abbrev s_law_side : Stmt := top 45
theorem sc_law_side : FnScope ["web", "number"] ["web", "number"] (defScope s_law_side) := ⟨rfl, rfl, rfl, by decide +kernel, rfl, by decide +kernel, by decide +kernel⟩
abbrev s_law_ones : Stmt := top 47
theorem sc_law_ones : FnScope ["number", "many"] ["number"] (defScope s_law_ones) := ⟨rfl, rfl, rfl, by decide +kernel, rfl, by decide +kernel, by decide +kernel⟩
theorem hd_law_ones {sa0 sa1 sa2 sa3 : TS} {sc0 : TT} {D : Ends} {σ : St} {H : Hp} (h : let zz0 : TS := sa0; let zz1 : TS := sa1; let zz2 : TS := (tSeq sa2 zz1); let zz3 : TS := (tSeq (tWhile sc0 zz2) zz0); (tSeq sa3 zz3) D σ H) : (tSeq sa3 (tSeq (tWhile sc0 (tSeq sa2 sa1)) sa0)) D σ H := h
abbrev s_law_answer_good : Stmt := top 48
theorem sc_law_answer_good : FnScope ["web", "some", "found", "point"] ["web", "some", "found"] (defScope s_law_answer_good) := ⟨rfl, rfl, rfl, by decide +kernel, rfl, by decide +kernel, by decide +kernel⟩
theorem hd_law_answer_good {sa0 sa1 sa2 sa3 sa4 sa5 sa6 : TS} {sc0 sc1 sc2 sc3 sc4 sc5 : TT} {si0 : TI} {sg0 : TG} {D : Ends} {σ : St} {H : Hp} (h : let zz0 : TS := sa0; let zz1 : TS := sa1; let zz2 : TS := (tIfS sc0 zz1 tNext); let zz3 : TS := sa2; let zz4 : TS := (tSeq (tIfS sc1 zz3 tNext) zz2); let zz5 : TS := (tSeq (tFor si0 sg0 zz4) zz0); let zz6 : TS := sa3; let zz7 : TS := (tSeq (tIfS sc2 zz6 tNext) zz5); let zz8 : TS := sa4; let zz9 : TS := sa5; let zz10 : TS := (tSeq (tIfS sc4 zz9 tNext) zz8); let zz11 : TS := (tSeq (tIfS sc3 zz10 tNext) zz7); let zz12 : TS := sa6; (tSeq (tIfS sc5 zz12 tNext) zz11) D σ H) : (tSeq (tIfS sc5 sa6 tNext) (tSeq (tIfS sc3 (tSeq (tIfS sc4 sa5 tNext) sa4) tNext) (tSeq (tIfS sc2 sa3 tNext) (tSeq (tFor si0 sg0 (tSeq (tIfS sc1 sa2 tNext) (tIfS sc0 sa1 tNext))) sa0)))) D σ H := h
abbrev s_law_told_anew : Stmt := top 49
theorem sc_law_told_anew : FnScope ["web", "some", "found"] ["web", "some"] (defScope s_law_told_anew) := ⟨rfl, rfl, rfl, by decide +kernel, rfl, by decide +kernel, by decide +kernel⟩
theorem hd_law_told_anew {sa0 sa1 sa2 sa3 : TS} {sc0 sc1 : TT} {D : Ends} {σ : St} {H : Hp} (h : let zz0 : TS := sa0; let zz1 : TS := sa1; let zz2 : TS := (tSeq (tIfS sc0 zz1 tNext) zz0); let zz3 : TS := sa2; let zz4 : TS := (tSeq (tIfS sc1 zz3 tNext) zz2); (tSeq sa3 zz4) D σ H) : (tSeq sa3 (tSeq (tIfS sc1 sa2 tNext) (tSeq (tIfS sc0 sa1 tNext) sa0))) D σ H := h
abbrev s_law_refused : Stmt := top 50
theorem sc_law_refused : FnScope ["web", "some", "found", "e"] ["web", "some"] (defScope s_law_refused) := ⟨rfl, rfl, rfl, by decide +kernel, rfl, by decide +kernel, by decide +kernel⟩
theorem hd_law_refused {sa0 sa1 sa2 : TS} {D : Ends} {σ : St} {H : Hp} (h : let zz0 : TS := sa0; let zz1 : TS := (tSeq sa1 zz0); (tSeq sa2 zz1) D σ H) : (tSeq sa2 (tSeq sa1 sa0)) D σ H := h
abbrev s_law : Stmt := top 51
theorem sc_law : FnScope ["script", "web", "many", "cell", "turn", "cut"] ["script"] (defScope s_law) := ⟨rfl, rfl, rfl, by decide +kernel, rfl, by decide +kernel, by decide +kernel⟩
theorem hd_law {sa0 sa1 sa2 sa3 sa4 sa5 sa6 sa7 sa8 : TS} {sc0 sc1 sc2 sc3 : TT} {si0 : TI} {sg0 : TG} {D : Ends} {σ : St} {H : Hp} (h : let zz0 : TS := sa0; let zz1 : TS := sa1; let zz2 : TS := (tIfS sc0 zz1 tNext); let zz3 : TS := sa2; let zz4 : TS := (tSeq (tIfS sc1 zz3 tNext) zz2); let zz5 : TS := sa3; let zz6 : TS := (tSeq (tIfS sc2 zz5 tNext) zz4); let zz7 : TS := sa4; let zz8 : TS := (tSeq (tIfS sc3 zz7 tNext) zz6); let zz9 : TS := (tSeq sa5 zz8); let zz10 : TS := (tSeq sa6 zz9); let zz11 : TS := (tSeq (tFor si0 sg0 zz10) zz0); let zz12 : TS := (tSeq sa7 zz11); (tSeq sa8 zz12) D σ H) : (tSeq sa8 (tSeq sa7 (tSeq (tFor si0 sg0 (tSeq sa6 (tSeq sa5 (tSeq (tIfS sc3 sa4 tNext) (tSeq (tIfS sc2 sa3 tNext) (tSeq (tIfS sc1 sa2 tNext) (tIfS sc0 sa1 tNext))))))) sa0))) D σ H := h
set_option genInjectivity false
set_option genSizeOf false
structure Adr where
  f_has_tie : Addr
  d_has_tie : FuncData
  f_ties_in : Addr
  d_ties_in : FuncData
  f_set_of : Addr
  d_set_of : FuncData
  f_all_ties : Addr
  d_all_ties : FuncData
  f_is_set : Addr
  d_is_set : FuncData
  f_check_set : Addr
  d_check_set : FuncData
  f_drawn_together : Addr
  d_drawn_together : FuncData
  f_forest_trails : Addr
  d_forest_trails : FuncData
  f_forest : Addr
  d_forest : FuncData
  f_chords : Addr
  d_chords : FuncData
  f_ring_closed : Addr
  d_ring_closed : FuncData
  f_chord_ring : Addr
  d_chord_ring : FuncData
  f_common : Addr
  d_common : FuncData
  f_bears_oddly : Addr
  d_bears_oddly : FuncData
  f_is_side : Addr
  d_is_side : FuncData
  f_cut_of : Addr
  d_cut_of : FuncData
  f_side_of : Addr
  d_side_of : FuncData
  f_law_cell : Addr
  d_law_cell : FuncData
  f_law_turn : Addr
  d_law_turn : FuncData
  f_law_whole : Addr
  d_law_whole : FuncData
  f_law_tie : Addr
  d_law_tie : FuncData
  f_law_web : Addr
  d_law_web : FuncData
  f_law_kinds : Addr
  d_law_kinds : FuncData
  f_law_in : Addr
  d_law_in : FuncData
  f_law_reached : Addr
  d_law_reached : FuncData
  f_law_is_ring : Addr
  d_law_is_ring : FuncData
  f_law_cut : Addr
  d_law_cut : FuncData
  f_law_side : Addr
  d_law_side : FuncData
  f_law_ones : Addr
  d_law_ones : FuncData
  f_law_answer_good : Addr
  d_law_answer_good : FuncData
  f_law_told_anew : Addr
  d_law_told_anew : FuncData
  f_law_refused : Addr
  d_law_refused : FuncData
  f_law : Addr
  d_law : FuncData
  c_RingError : Addr
  c_BadWeb : Addr
  c_BadSet : Addr
  c_BadPoint : Addr
  c_NotRing : Addr
  c_NoChord : Addr
  c_NoBase : Addr
  c_NoSuch : Addr
  c_TooMany : Addr
  c_BadRow : Addr
  c_NoDeed : Addr
  c_NotEven : Addr
  c_NoText : Addr
structure Txt (K : PySem.W.Frag) (mg : Str → Option Value) (a : Adr) : Prop where
  F_has_tie : Fun K "has_tie" "has_tie" s_has_tie a.f_has_tie a.d_has_tie
  m_has_tie : mg "has_tie" = some (.ref a.f_has_tie)
  b_has_tie : Binds K a.d_has_tie ["tie_set", "tie"] []
  F_ties_in : Fun K "ties_in" "ties_in" s_ties_in a.f_ties_in a.d_ties_in
  m_ties_in : mg "ties_in" = some (.ref a.f_ties_in)
  b_ties_in : Binds K a.d_ties_in ["tie_set"] []
  F_set_of : Fun K "set_of" "set_of" s_set_of a.f_set_of a.d_set_of
  m_set_of : mg "set_of" = some (.ref a.f_set_of)
  b_set_of : Binds K a.d_set_of ["web", "ties"] []
  F_all_ties : Fun K "all_ties" "all_ties" s_all_ties a.f_all_ties a.d_all_ties
  m_all_ties : mg "all_ties" = some (.ref a.f_all_ties)
  b_all_ties : Binds K a.d_all_ties ["web"] []
  F_is_set : Fun K "is_set" "is_set" s_is_set a.f_is_set a.d_is_set
  m_is_set : mg "is_set" = some (.ref a.f_is_set)
  b_is_set : Binds K a.d_is_set ["web", "number"] []
  F_check_set : Fun K "check_set" "check_set" s_check_set a.f_check_set a.d_check_set
  m_check_set : mg "check_set" = some (.ref a.f_check_set)
  b_check_set : Binds K a.d_check_set ["web", "tie_set"] []
  F_drawn_together : Fun K "drawn_together" "drawn_together" s_drawn_together a.f_drawn_together a.d_drawn_together
  m_drawn_together : mg "drawn_together" = some (.ref a.f_drawn_together)
  b_drawn_together : Binds K a.d_drawn_together ["leasts", "one", "other"] []
  F_forest_trails : Fun K "forest_trails" "forest_trails" s_forest_trails a.f_forest_trails a.d_forest_trails
  m_forest_trails : mg "forest_trails" = some (.ref a.f_forest_trails)
  b_forest_trails : Binds K a.d_forest_trails ["web"] []
  F_forest : Fun K "forest" "forest" s_forest a.f_forest a.d_forest
  m_forest : mg "forest" = some (.ref a.f_forest)
  b_forest : Binds K a.d_forest ["web"] []
  F_chords : Fun K "chords" "chords" s_chords a.f_chords a.d_chords
  m_chords : mg "chords" = some (.ref a.f_chords)
  b_chords : Binds K a.d_chords ["web"] []
  F_ring_closed : Fun K "ring_closed" "ring_closed" s_ring_closed a.f_ring_closed a.d_ring_closed
  m_ring_closed : mg "ring_closed" = some (.ref a.f_ring_closed)
  b_ring_closed : Binds K a.d_ring_closed ["web", "trails", "chord"] []
  F_chord_ring : Fun K "chord_ring" "chord_ring" s_chord_ring a.f_chord_ring a.d_chord_ring
  m_chord_ring : mg "chord_ring" = some (.ref a.f_chord_ring)
  b_chord_ring : Binds K a.d_chord_ring ["web", "tie"] []
  F_common : Fun K "common" "common" s_common a.f_common a.d_common
  m_common : mg "common" = some (.ref a.f_common)
  b_common : Binds K a.d_common ["one", "other"] []
  F_bears_oddly : Fun K "bears_oddly" "bears_oddly" s_bears_oddly a.f_bears_oddly a.d_bears_oddly
  m_bears_oddly : mg "bears_oddly" = some (.ref a.f_bears_oddly)
  b_bears_oddly : Binds K a.d_bears_oddly ["tie_set", "marks"] []
  F_is_side : Fun K "is_side" "is_side" s_is_side a.f_is_side a.d_is_side
  m_is_side : mg "is_side" = some (.ref a.f_is_side)
  b_is_side : Binds K a.d_is_side ["web", "side"] []
  F_cut_of : Fun K "cut_of" "cut_of" s_cut_of a.f_cut_of a.d_cut_of
  m_cut_of : mg "cut_of" = some (.ref a.f_cut_of)
  b_cut_of : Binds K a.d_cut_of ["web", "side"] []
  F_side_of : Fun K "side_of" "side_of" s_side_of a.f_side_of a.d_side_of
  m_side_of : mg "side_of" = some (.ref a.f_side_of)
  b_side_of : Binds K a.d_side_of ["web", "tie_set"] []
  F_law_cell : Fun K "_law_cell" "_law_cell" s_law_cell a.f_law_cell a.d_law_cell
  m_law_cell : mg "_law_cell" = some (.ref a.f_law_cell)
  b_law_cell : Binds K a.d_law_cell ["script", "k"] []
  F_law_turn : Fun K "_law_turn" "_law_turn" s_law_turn a.f_law_turn a.d_law_turn
  m_law_turn : mg "_law_turn" = some (.ref a.f_law_turn)
  b_law_turn : Binds K a.d_law_turn ["cell"] []
  F_law_whole : Fun K "_law_whole" "_law_whole" s_law_whole a.f_law_whole a.d_law_whole
  m_law_whole : mg "_law_whole" = some (.ref a.f_law_whole)
  b_law_whole : Binds K a.d_law_whole ["found"] []
  F_law_tie : Fun K "_law_tie" "_law_tie" s_law_tie a.f_law_tie a.d_law_tie
  m_law_tie : mg "_law_tie" = some (.ref a.f_law_tie)
  b_law_tie : Binds K a.d_law_tie ["cell", "points", "way"] []
  F_law_web : Fun K "_law_web" "_law_web" s_law_web a.f_law_web a.d_law_web
  m_law_web : mg "_law_web" = some (.ref a.f_law_web)
  b_law_web : Binds K a.d_law_web ["script", "most"] []
  F_law_kinds : Fun K "_law_kinds" "_law_kinds" s_law_kinds a.f_law_kinds a.d_law_kinds
  m_law_kinds : mg "_law_kinds" = some (.ref a.f_law_kinds)
  b_law_kinds : Binds K a.d_law_kinds ["e"] []
  F_law_in : Fun K "_law_in" "_law_in" s_law_in a.f_law_in a.d_law_in
  m_law_in : mg "_law_in" = some (.ref a.f_law_in)
  b_law_in : Binds K a.d_law_in ["some"] []
  F_law_reached : Fun K "_law_reached" "_law_reached" s_law_reached a.f_law_reached a.d_law_reached
  m_law_reached : mg "_law_reached" = some (.ref a.f_law_reached)
  b_law_reached : Binds K a.d_law_reached ["web", "some", "point"] []
  F_law_is_ring : Fun K "_law_is_ring" "_law_is_ring" s_law_is_ring a.f_law_is_ring a.d_law_is_ring
  m_law_is_ring : mg "_law_is_ring" = some (.ref a.f_law_is_ring)
  b_law_is_ring : Binds K a.d_law_is_ring ["web", "some"] []
  F_law_cut : Fun K "_law_cut" "_law_cut" s_law_cut a.f_law_cut a.d_law_cut
  m_law_cut : mg "_law_cut" = some (.ref a.f_law_cut)
  b_law_cut : Binds K a.d_law_cut ["web", "side"] []
  F_law_side : Fun K "_law_side" "_law_side" s_law_side a.f_law_side a.d_law_side
  m_law_side : mg "_law_side" = some (.ref a.f_law_side)
  b_law_side : Binds K a.d_law_side ["web", "number"] []
  F_law_ones : Fun K "_law_ones" "_law_ones" s_law_ones a.f_law_ones a.d_law_ones
  m_law_ones : mg "_law_ones" = some (.ref a.f_law_ones)
  b_law_ones : Binds K a.d_law_ones ["number"] []
  F_law_answer_good : Fun K "_law_answer_good" "_law_answer_good" s_law_answer_good a.f_law_answer_good a.d_law_answer_good
  m_law_answer_good : mg "_law_answer_good" = some (.ref a.f_law_answer_good)
  b_law_answer_good : Binds K a.d_law_answer_good ["web", "some", "found"] []
  F_law_told_anew : Fun K "_law_told_anew" "_law_told_anew" s_law_told_anew a.f_law_told_anew a.d_law_told_anew
  m_law_told_anew : mg "_law_told_anew" = some (.ref a.f_law_told_anew)
  b_law_told_anew : Binds K a.d_law_told_anew ["web", "some"] []
  F_law_refused : Fun K "_law_refused" "_law_refused" s_law_refused a.f_law_refused a.d_law_refused
  m_law_refused : mg "_law_refused" = some (.ref a.f_law_refused)
  b_law_refused : Binds K a.d_law_refused ["web", "some"] []
  F_law : Fun K "law" "law" s_law a.f_law a.d_law
  m_law : mg "law" = some (.ref a.f_law)
  b_law : Binds K a.d_law ["script"] []
  n_ValueError : mg "ValueError" = none
  n_bool : mg "bool" = none
  n_enumerate : mg "enumerate" = none
  n_int : mg "int" = none
  n_isinstance : mg "isinstance" = none
  n_len : mg "len" = none
  n_list : mg "list" = none
  n_max : mg "max" = none
  n_min : mg "min" = none
  n_range : mg "range" = none
  n_set : mg "set" = none
  n_sorted : mg "sorted" = none
  n_str : mg "str" = none
  n_tuple : mg "tuple" = none
  n_zip : mg "zip" = none
  g_RingError : mg "RingError" = some (.ref a.c_RingError)
  g_BadWeb : mg "BadWeb" = some (.ref a.c_BadWeb)
  g_BadSet : mg "BadSet" = some (.ref a.c_BadSet)
  g_BadPoint : mg "BadPoint" = some (.ref a.c_BadPoint)
  g_NotRing : mg "NotRing" = some (.ref a.c_NotRing)
  g_NoChord : mg "NoChord" = some (.ref a.c_NoChord)
  g_NoBase : mg "NoBase" = some (.ref a.c_NoBase)
  g_NoSuch : mg "NoSuch" = some (.ref a.c_NoSuch)
  g_TooMany : mg "TooMany" = some (.ref a.c_TooMany)
  g_BadRow : mg "BadRow" = some (.ref a.c_BadRow)
  g_NoDeed : mg "NoDeed" = some (.ref a.c_NoDeed)
  g_NotEven : mg "NotEven" = some (.ref a.c_NotEven)
  g_NoText : mg "NoText" = some (.ref a.c_NoText)
  x_BadSet : ∀ h : Heap, K.In h → h.Ns mainGlobals mg → PyProof.Rows.OwnCls "BadSet" a.c_BadSet [.type "ValueError", .type "Exception", .type "BaseException", .type "object"] "ValueError.__new__" mg h
  e_BadSet : ExcCls K a.c_BadSet
  h_BadSet : PySem.W.exmOne K (.ref a.c_BadSet) (.ref a.c_RingError) = some true
  qV_BadSet : PySem.W.kitOne K (.ref a.c_BadSet) (.type "ValueError") = some true
  q_BadSet_BadWeb : PySem.W.kitOne K (.ref a.c_BadSet) (.ref a.c_BadWeb) = some false
  q_BadSet_BadSet : PySem.W.kitOne K (.ref a.c_BadSet) (.ref a.c_BadSet) = some true
  q_BadSet_BadPoint : PySem.W.kitOne K (.ref a.c_BadSet) (.ref a.c_BadPoint) = some false
  q_BadSet_NotRing : PySem.W.kitOne K (.ref a.c_BadSet) (.ref a.c_NotRing) = some false
  q_BadSet_NoChord : PySem.W.kitOne K (.ref a.c_BadSet) (.ref a.c_NoChord) = some false
  q_BadSet_NoBase : PySem.W.kitOne K (.ref a.c_BadSet) (.ref a.c_NoBase) = some false
  q_BadSet_NoSuch : PySem.W.kitOne K (.ref a.c_BadSet) (.ref a.c_NoSuch) = some false
  q_BadSet_TooMany : PySem.W.kitOne K (.ref a.c_BadSet) (.ref a.c_TooMany) = some false
  q_BadSet_BadRow : PySem.W.kitOne K (.ref a.c_BadSet) (.ref a.c_BadRow) = some false
  q_BadSet_NoDeed : PySem.W.kitOne K (.ref a.c_BadSet) (.ref a.c_NoDeed) = some false
  q_BadSet_NotEven : PySem.W.kitOne K (.ref a.c_BadSet) (.ref a.c_NotEven) = some false
  q_BadSet_NoText : PySem.W.kitOne K (.ref a.c_BadSet) (.ref a.c_NoText) = some false
  x_NoChord : ∀ h : Heap, K.In h → h.Ns mainGlobals mg → PyProof.Rows.OwnCls "NoChord" a.c_NoChord [.type "ValueError", .type "Exception", .type "BaseException", .type "object"] "ValueError.__new__" mg h
section
variable {K : PySem.W.Frag} {mg : Str → Option Value} {a : Adr}
theorem Txt.k_has_tie (T : Txt K mg a) : PySem.W.keepIn K (.ref a.f_has_tie) = true := T.F_has_tie.kp
theorem Txt.k_ties_in (T : Txt K mg a) : PySem.W.keepIn K (.ref a.f_ties_in) = true := T.F_ties_in.kp
theorem Txt.k_set_of (T : Txt K mg a) : PySem.W.keepIn K (.ref a.f_set_of) = true := T.F_set_of.kp
theorem Txt.k_all_ties (T : Txt K mg a) : PySem.W.keepIn K (.ref a.f_all_ties) = true := T.F_all_ties.kp
theorem Txt.k_is_set (T : Txt K mg a) : PySem.W.keepIn K (.ref a.f_is_set) = true := T.F_is_set.kp
theorem Txt.k_check_set (T : Txt K mg a) : PySem.W.keepIn K (.ref a.f_check_set) = true := T.F_check_set.kp
theorem Txt.k_drawn_together (T : Txt K mg a) : PySem.W.keepIn K (.ref a.f_drawn_together) = true := T.F_drawn_together.kp
theorem Txt.k_forest_trails (T : Txt K mg a) : PySem.W.keepIn K (.ref a.f_forest_trails) = true := T.F_forest_trails.kp
theorem Txt.k_forest (T : Txt K mg a) : PySem.W.keepIn K (.ref a.f_forest) = true := T.F_forest.kp
theorem Txt.k_chords (T : Txt K mg a) : PySem.W.keepIn K (.ref a.f_chords) = true := T.F_chords.kp
theorem Txt.k_ring_closed (T : Txt K mg a) : PySem.W.keepIn K (.ref a.f_ring_closed) = true := T.F_ring_closed.kp
theorem Txt.k_chord_ring (T : Txt K mg a) : PySem.W.keepIn K (.ref a.f_chord_ring) = true := T.F_chord_ring.kp
theorem Txt.k_common (T : Txt K mg a) : PySem.W.keepIn K (.ref a.f_common) = true := T.F_common.kp
theorem Txt.k_bears_oddly (T : Txt K mg a) : PySem.W.keepIn K (.ref a.f_bears_oddly) = true := T.F_bears_oddly.kp
theorem Txt.k_is_side (T : Txt K mg a) : PySem.W.keepIn K (.ref a.f_is_side) = true := T.F_is_side.kp
theorem Txt.k_cut_of (T : Txt K mg a) : PySem.W.keepIn K (.ref a.f_cut_of) = true := T.F_cut_of.kp
theorem Txt.k_side_of (T : Txt K mg a) : PySem.W.keepIn K (.ref a.f_side_of) = true := T.F_side_of.kp
theorem Txt.k_law_cell (T : Txt K mg a) : PySem.W.keepIn K (.ref a.f_law_cell) = true := T.F_law_cell.kp
theorem Txt.k_law_turn (T : Txt K mg a) : PySem.W.keepIn K (.ref a.f_law_turn) = true := T.F_law_turn.kp
theorem Txt.k_law_whole (T : Txt K mg a) : PySem.W.keepIn K (.ref a.f_law_whole) = true := T.F_law_whole.kp
theorem Txt.k_law_tie (T : Txt K mg a) : PySem.W.keepIn K (.ref a.f_law_tie) = true := T.F_law_tie.kp
theorem Txt.k_law_web (T : Txt K mg a) : PySem.W.keepIn K (.ref a.f_law_web) = true := T.F_law_web.kp
theorem Txt.k_law_kinds (T : Txt K mg a) : PySem.W.keepIn K (.ref a.f_law_kinds) = true := T.F_law_kinds.kp
theorem Txt.k_law_in (T : Txt K mg a) : PySem.W.keepIn K (.ref a.f_law_in) = true := T.F_law_in.kp
theorem Txt.k_law_reached (T : Txt K mg a) : PySem.W.keepIn K (.ref a.f_law_reached) = true := T.F_law_reached.kp
theorem Txt.k_law_is_ring (T : Txt K mg a) : PySem.W.keepIn K (.ref a.f_law_is_ring) = true := T.F_law_is_ring.kp
theorem Txt.k_law_cut (T : Txt K mg a) : PySem.W.keepIn K (.ref a.f_law_cut) = true := T.F_law_cut.kp
theorem Txt.k_law_side (T : Txt K mg a) : PySem.W.keepIn K (.ref a.f_law_side) = true := T.F_law_side.kp
theorem Txt.k_law_ones (T : Txt K mg a) : PySem.W.keepIn K (.ref a.f_law_ones) = true := T.F_law_ones.kp
theorem Txt.k_law_answer_good (T : Txt K mg a) : PySem.W.keepIn K (.ref a.f_law_answer_good) = true := T.F_law_answer_good.kp
theorem Txt.k_law_told_anew (T : Txt K mg a) : PySem.W.keepIn K (.ref a.f_law_told_anew) = true := T.F_law_told_anew.kp
theorem Txt.k_law_refused (T : Txt K mg a) : PySem.W.keepIn K (.ref a.f_law_refused) = true := T.F_law_refused.kp
end
structure KindsOf (K : PySem.W.Frag) (a : Adr) (C : Addr) (j : Nat) : Prop where
  lt : j < 12
  e : ExcCls K C
  q0 : PySem.W.kitOne K (.ref C) (.ref a.c_BadWeb) = some (decide (0 = j))
  q1 : PySem.W.kitOne K (.ref C) (.ref a.c_BadSet) = some (decide (1 = j))
  q2 : PySem.W.kitOne K (.ref C) (.ref a.c_BadPoint) = some (decide (2 = j))
  q3 : PySem.W.kitOne K (.ref C) (.ref a.c_NotRing) = some (decide (3 = j))
  q4 : PySem.W.kitOne K (.ref C) (.ref a.c_NoChord) = some (decide (4 = j))
  q5 : PySem.W.kitOne K (.ref C) (.ref a.c_NoBase) = some (decide (5 = j))
  q6 : PySem.W.kitOne K (.ref C) (.ref a.c_NoSuch) = some (decide (6 = j))
  q7 : PySem.W.kitOne K (.ref C) (.ref a.c_TooMany) = some (decide (7 = j))
  q8 : PySem.W.kitOne K (.ref C) (.ref a.c_BadRow) = some (decide (8 = j))
  q9 : PySem.W.kitOne K (.ref C) (.ref a.c_NoDeed) = some (decide (9 = j))
  q10 : PySem.W.kitOne K (.ref C) (.ref a.c_NotEven) = some (decide (10 = j))
  q11 : PySem.W.kitOne K (.ref C) (.ref a.c_NoText) = some (decide (11 = j))
  qV : PySem.W.kitOne K (.ref C) (.type "ValueError") = some true
def sp_law_kinds (K : PySem.W.Frag) (a : Adr) (ea : Addr) : Sp := fun vs H Q _ => vs = [.ref ea] ∧ ∃ C j, H ea = some (ExcO ea (.ref C)) ∧ KindsOf K a C j ∧ ∀ D H', H D = none → Same H H' → H' D = some (.lst [.int (j : Int)]) → Q (.ref D) H'
theorem filter_one {j : Nat} (h : j < 12) : (List.range 12).filter (fun k => decide (k = j)) = [j] := by
  match j, h with
  | 0, _ | 1, _ | 2, _ | 3, _ | 4, _ | 5, _ | 6, _ | 7, _ | 8, _ | 9, _ | 10, _ | 11, _ => decide
  | n + 12, h => (first | lia | omega)
theorem kinds_get {j i : Nat} (h : i < 12) : ([.bl (decide (0 = j)), .bl (decide (1 = j)), .bl (decide (2 = j)), .bl (decide (3 = j)), .bl (decide (4 = j)), .bl (decide (5 = j)), .bl (decide (6 = j)), .bl (decide (7 = j)), .bl (decide (8 = j)), .bl (decide (9 = j)), .bl (decide (10 = j)), .bl (decide (11 = j))] : List V)[i]? = some (.bl (decide (i = j))) := by
  match i, h with
  | 0, _ | 1, _ | 2, _ | 3, _ | 4, _ | 5, _ | 6, _ | 7, _ | 8, _ | 9, _ | 10, _ | 11, _ => rfl
  | n + 12, h => (first | lia | omega)
section
variable {P : Program} {w : World} {K : PySem.W.Frag} {mg : Str → Option Value} {base : Heap} {a : Adr}
theorem G_law_kinds (T : Txt K mg a) (ea : Addr) : FnH ea P w K mg base 1 a.f_law_kinds a.d_law_kinds ["e"] (sp_law_kinds K a ea) := by
  refine T.F_law_kinds.okH sc_law_kinds (fun vs H Q E h => ?_) (fun cdv A outer s H vs Q E hr h => ?_)
  · obtain ⟨rfl, _⟩ := h
    rfl
  · obtain ⟨rfl, C, j, hx, kk, q⟩ := h
    refine ⟨_, (pss_cons (ps_set (i := 1) sc_law_kinds.nd rfl (Or.inr rfl) (pe_lst (pa_cons (pe_callB (isiX K) (by rfl) T.n_isinstance PyProof.Rows.boot_isinstance (pa_cons (pv 0) (pa_cons (pe_cls (by rfl) T.g_BadWeb) pa_nil))) (pa_cons (pe_callB (isiX K) (by rfl) T.n_isinstance PyProof.Rows.boot_isinstance (pa_cons (pv 0) (pa_cons (pe_cls (by rfl) T.g_BadSet) pa_nil))) (pa_cons (pe_callB (isiX K) (by rfl) T.n_isinstance PyProof.Rows.boot_isinstance (pa_cons (pv 0) (pa_cons (pe_cls (by rfl) T.g_BadPoint) pa_nil))) (pa_cons (pe_callB (isiX K) (by rfl) T.n_isinstance PyProof.Rows.boot_isinstance (pa_cons (pv 0) (pa_cons (pe_cls (by rfl) T.g_NotRing) pa_nil))) pa_nil))))))
      (pss_cons (ps_set (i := 1) sc_law_kinds.nd rfl (Or.inr rfl) (pe_op (catL K) (pv 1) (pe_lst (pa_cons (pe_callB (isiX K) (by rfl) T.n_isinstance PyProof.Rows.boot_isinstance (pa_cons (pv 0) (pa_cons (pe_cls (by rfl) T.g_NoChord) pa_nil))) (pa_cons (pe_callB (isiX K) (by rfl) T.n_isinstance PyProof.Rows.boot_isinstance (pa_cons (pv 0) (pa_cons (pe_cls (by rfl) T.g_NoBase) pa_nil))) (pa_cons (pe_callB (isiX K) (by rfl) T.n_isinstance PyProof.Rows.boot_isinstance (pa_cons (pv 0) (pa_cons (pe_cls (by rfl) T.g_NoSuch) pa_nil))) (pa_cons (pe_callB (isiX K) (by rfl) T.n_isinstance PyProof.Rows.boot_isinstance (pa_cons (pv 0) (pa_cons (pe_cls (by rfl) T.g_TooMany) pa_nil))) pa_nil)))))))
      (pss_cons (ps_set (i := 1) sc_law_kinds.nd rfl (Or.inr rfl) (pe_op (catL K) (pv 1) (pe_lst (pa_cons (pe_callB (isiX K) (by rfl) T.n_isinstance PyProof.Rows.boot_isinstance (pa_cons (pv 0) (pa_cons (pe_cls (by rfl) T.g_BadRow) pa_nil))) (pa_cons (pe_callB (isiX K) (by rfl) T.n_isinstance PyProof.Rows.boot_isinstance (pa_cons (pv 0) (pa_cons (pe_cls (by rfl) T.g_NoDeed) pa_nil))) (pa_cons (pe_callB (isiX K) (by rfl) T.n_isinstance PyProof.Rows.boot_isinstance (pa_cons (pv 0) (pa_cons (pe_cls (by rfl) T.g_NotEven) pa_nil))) (pa_cons (pe_callB (isiX K) (by rfl) T.n_isinstance PyProof.Rows.boot_isinstance (pa_cons (pv 0) (pa_cons (pe_cls (by rfl) T.g_NoText) pa_nil))) pa_nil)))))))
      (pss_cons (ps_if (pt_not (pt_val (pe_callB (isiX K) (by rfl) T.n_isinstance PyProof.Rows.boot_isinstance (pa_cons (pv 0) (pa_cons (pe_ty (T := "ValueError") (by rfl) T.n_ValueError (by decide +kernel)) pa_nil))))) (pss_one (ps_ret (pe_lst pa_nil))) pss_nil)
      (pss_one (ps_ret (pe_compX (own := ["k"]) (frees := ["found"]) (js := [1]) (compText_of (defScope s_law_kinds) ["e", "found"]) (pi_rangeH (C := .ref C) hr.hd rfl (by rfl) T.n_range (pa_cons pe_int pa_nil)) (fun _ _ _ _ => (pg_name (i := 0) (show (["k", "found"] : List Str).Nodup by decide +kernel) rfl (Or.inl rfl))) (fun _ _ _ _ => (pts_one (pt_val (pe_ix (ixL K) (pv 1) (pv 0) (fun _ _ => rfl))))) (fun _ _ _ _ => (pv 0))))))))), ?_⟩
    refine hd_law_kinds ?_
    intro zz0 zz1 zz2 zz3 zz4
    refine (exq rfl ⟨ea, _, C, _, _, rfl, rfl, hx, kk.e, kk.q0, _, rfl, ea, _, C, _, _, rfl, rfl, hx, kk.e, kk.q1, _, rfl, ea, _, C, _, _, rfl, rfl, hx, kk.e, kk.q2, _, rfl, ea, _, C, _, _, rfl, rfl, hx, kk.e, kk.q3, dl rfl, fun l1 h1 => ?_⟩)
    have s1 : Same H (upd H l1 (.lst [.bl (decide (0 = j)), .bl (decide (1 = j)), .bl (decide (2 = j)), .bl (decide (3 = j))])) := Same.new h1
    have g1 : upd H l1 (.lst [.bl (decide (0 = j)), .bl (decide (1 = j)), .bl (decide (2 = j)), .bl (decide (3 = j))]) l1 = some (.lst [.bl (decide (0 = j)), .bl (decide (1 = j)), .bl (decide (2 = j)), .bl (decide (3 = j))]) := upd_same
    generalize upd H l1 (.lst [.bl (decide (0 = j)), .bl (decide (1 = j)), .bl (decide (2 = j)), .bl (decide (3 = j))]) = H1 at s1 g1
    refine (exq rfl (exq rfl ⟨ea, _, C, _, _, rfl, rfl, (s1 _ _ hx), kk.e, kk.q4, _, rfl, ea, _, C, _, _, rfl, rfl, (s1 _ _ hx), kk.e, kk.q5, _, rfl, ea, _, C, _, _, rfl, rfl, (s1 _ _ hx), kk.e, kk.q6, _, rfl, ea, _, C, _, _, rfl, rfl, (s1 _ _ hx), kk.e, kk.q7, dl rfl, fun m2 k2 => ⟨l1, m2, _, _, rfl, rfl, SqL.of (Same.new k2 _ _ g1), SqL.of upd_same, dl rfl, fun l2 h2 => ?_⟩⟩))
    have s2 : Same H (upd (upd H1 m2 (.lst [.bl (decide (4 = j)), .bl (decide (5 = j)), .bl (decide (6 = j)), .bl (decide (7 = j))])) l2 (.lst ([.bl (decide (0 = j)), .bl (decide (1 = j)), .bl (decide (2 = j)), .bl (decide (3 = j))] ++ [.bl (decide (4 = j)), .bl (decide (5 = j)), .bl (decide (6 = j)), .bl (decide (7 = j))]))) := (s1.trans (Same.new k2)).trans (Same.new h2)
    have g2 : (upd (upd H1 m2 (.lst [.bl (decide (4 = j)), .bl (decide (5 = j)), .bl (decide (6 = j)), .bl (decide (7 = j))])) l2 (.lst ([.bl (decide (0 = j)), .bl (decide (1 = j)), .bl (decide (2 = j)), .bl (decide (3 = j))] ++ [.bl (decide (4 = j)), .bl (decide (5 = j)), .bl (decide (6 = j)), .bl (decide (7 = j))]))) l2 = some (.lst [.bl (decide (0 = j)), .bl (decide (1 = j)), .bl (decide (2 = j)), .bl (decide (3 = j)), .bl (decide (4 = j)), .bl (decide (5 = j)), .bl (decide (6 = j)), .bl (decide (7 = j))]) := upd_same
    generalize upd (upd H1 m2 (.lst [.bl (decide (4 = j)), .bl (decide (5 = j)), .bl (decide (6 = j)), .bl (decide (7 = j))])) l2 (.lst ([.bl (decide (0 = j)), .bl (decide (1 = j)), .bl (decide (2 = j)), .bl (decide (3 = j))] ++ [.bl (decide (4 = j)), .bl (decide (5 = j)), .bl (decide (6 = j)), .bl (decide (7 = j))])) = H2 at s2 g2
    refine (exq rfl (exq rfl ⟨ea, _, C, _, _, rfl, rfl, (s2 _ _ hx), kk.e, kk.q8, _, rfl, ea, _, C, _, _, rfl, rfl, (s2 _ _ hx), kk.e, kk.q9, _, rfl, ea, _, C, _, _, rfl, rfl, (s2 _ _ hx), kk.e, kk.q10, _, rfl, ea, _, C, _, _, rfl, rfl, (s2 _ _ hx), kk.e, kk.q11, dl rfl, fun m3 k3 => ⟨l2, m3, _, _, rfl, rfl, SqL.of (Same.new k3 _ _ g2), SqL.of upd_same, dl rfl, fun l3 h3 => ?_⟩⟩))
    have s3 : Same H (upd (upd H2 m3 (.lst [.bl (decide (8 = j)), .bl (decide (9 = j)), .bl (decide (10 = j)), .bl (decide (11 = j))])) l3 (.lst ([.bl (decide (0 = j)), .bl (decide (1 = j)), .bl (decide (2 = j)), .bl (decide (3 = j)), .bl (decide (4 = j)), .bl (decide (5 = j)), .bl (decide (6 = j)), .bl (decide (7 = j))] ++ [.bl (decide (8 = j)), .bl (decide (9 = j)), .bl (decide (10 = j)), .bl (decide (11 = j))]))) := (s2.trans (Same.new k3)).trans (Same.new h3)
    have g3 : (upd (upd H2 m3 (.lst [.bl (decide (8 = j)), .bl (decide (9 = j)), .bl (decide (10 = j)), .bl (decide (11 = j))])) l3 (.lst ([.bl (decide (0 = j)), .bl (decide (1 = j)), .bl (decide (2 = j)), .bl (decide (3 = j)), .bl (decide (4 = j)), .bl (decide (5 = j)), .bl (decide (6 = j)), .bl (decide (7 = j))] ++ [.bl (decide (8 = j)), .bl (decide (9 = j)), .bl (decide (10 = j)), .bl (decide (11 = j))]))) l3 = some (.lst [.bl (decide (0 = j)), .bl (decide (1 = j)), .bl (decide (2 = j)), .bl (decide (3 = j)), .bl (decide (4 = j)), .bl (decide (5 = j)), .bl (decide (6 = j)), .bl (decide (7 = j)), .bl (decide (8 = j)), .bl (decide (9 = j)), .bl (decide (10 = j)), .bl (decide (11 = j))]) := upd_same
    generalize upd (upd H2 m3 (.lst [.bl (decide (8 = j)), .bl (decide (9 = j)), .bl (decide (10 = j)), .bl (decide (11 = j))])) l3 (.lst ([.bl (decide (0 = j)), .bl (decide (1 = j)), .bl (decide (2 = j)), .bl (decide (3 = j)), .bl (decide (4 = j)), .bl (decide (5 = j)), .bl (decide (6 = j)), .bl (decide (7 = j))] ++ [.bl (decide (8 = j)), .bl (decide (9 = j)), .bl (decide (10 = j)), .bl (decide (11 = j))])) = H3 at s3 g3
    refine (exq rfl ⟨ea, _, C, _, _, rfl, rfl, s3 _ _ hx, kk.e, kk.qV, _, rfl, iteF ?_⟩)
    refine (exq rfl ⟨by decide, by decide, fun D hD => comp_rangeH (lo := 0) (m := 12) (Pick (fun k => decide (k = j)) H3 D) (.start hD) (fun i acc H4 _ p => p.len) (dl rfl) ?_ ?_⟩)
    · intro i acc H4 hi p
      rw [Int.zero_add]
      refine ⟨rfl, exq rfl (exq rfl (ixl (SqL.of (p.1 _ _ g3)) (atI_nat (j := i) (kinds_get hi)) (exq rfl (?_))))⟩
      cases hb : decide (i = j) with
      | true => exact (exq rfl (p.yes hD (Same.refl _) hb))
      | false => exact p.no (Same.refl _) hb
    · intro acc H4 p
      refine ⟨p.1 _ _ (s3 _ _ hx), q D H4 (s3.free hD) (s3.trans p.1) ?_⟩
      rw [p.2.1, p.2.2, filter_one kk.lt]
      rfl
end
section
variable {K : PySem.W.Frag} {mg : Str → Option Value} {a : Adr}
theorem kinds_BadSet (T : Txt K mg a) : KindsOf K a a.c_BadSet 1 := ⟨by decide, T.e_BadSet, T.q_BadSet_BadWeb, T.q_BadSet_BadSet, T.q_BadSet_BadPoint, T.q_BadSet_NotRing, T.q_BadSet_NoChord, T.q_BadSet_NoBase, T.q_BadSet_NoSuch, T.q_BadSet_TooMany, T.q_BadSet_BadRow, T.q_BadSet_NoDeed, T.q_BadSet_NotEven, T.q_BadSet_NoText, T.qV_BadSet⟩
end

def sp_has_tie : Sp := fun vs H Q _ => ∃ (S : Int) (k : Nat), vs = [.int S, .int (k : Int)] ∧ Q (.bl (bit S k)) H
def sp_ties_in : Sp := fun vs H Q _ => ∃ m : Nat, vs = [.int (m : Int)] ∧ Builtin.Int.intBits (m : Int) ≤ 1000 ∧ ∀ D H', H D = none → Same H H' → H' D = some (.lst (natsV (tiesOf (m : Int)))) → Q (.ref D) H'
def sp_all_ties : Sp := fun vs H Q _ => ∃ w p ts, vs = [.ref w] ∧ WebAt H w p ts ∧ Web p ts ∧ Q (.int (2 ^ ts.length - 1)) H
def sp_is_set : Sp := fun vs H Q _ => ∃ w p ts S, vs = [.ref w, .int S] ∧ WebAt H w p ts ∧ Web p ts ∧ Q (.bl (decide (0 ≤ S ∧ S < 2 ^ ts.length))) H
def OrBad (ts : List Tie) (S : Int) (bad : Prop) (R : Nat → Prop) : Prop := (∃ m : Nat, S = (m : Int) ∧ m < 2 ^ ts.length ∧ R m) ∨ ((S < 0 ∨ 2 ^ ts.length ≤ S) ∧ bad)
def sp_check_set (C : Addr) : Sp := fun vs H Q E => ∃ w p ts S, vs = [.ref w, .int S] ∧ WebAt H w p ts ∧ Web p ts ∧ OrBad ts S (E (.ref C) none H) fun _ => Q .non H
section
variable {P : Program} {w : World} {K : PySem.W.Frag} {mg : Str → Option Value} {base : Heap} {a : Adr}
theorem G_has_tie (T : Txt K mg a) : FnOk P w K mg base CX0 1 a.f_has_tie a.d_has_tie ["tie_set", "tie"] sp_has_tie := by
  refine T.F_has_tie.ok sc_has_tie (fun vs H Q E h => ?_) (fun cdv A outer s H vs Q E hr h => ?_)
  · obtain ⟨S, k, rfl, _⟩ := h
    rfl
  · obtain ⟨S, k, rfl, q⟩ := h
    refine ⟨_, (pss_one (ps_ret (pe_cmpR op_eq (pe_op op_and (pe_op op_shr (pv 0) (pv 1)) pe_int) pe_int (nomark _)))), ?_⟩
    refine (exq rfl (exq rfl (ijq ⟨(by (first | lia | omega)), ijq ⟨rfl, ?_⟩⟩)))
    rw [Int.toNat_natCast, has_eq]
    exact q
theorem G_ties_in (T : Txt K mg a) : FnOk P w K mg base CX0 2 a.f_ties_in a.d_ties_in ["tie_set"] sp_ties_in := by
  have G_has_tie : FnOk P w K mg base CX0 1 a.f_has_tie a.d_has_tie ["tie_set", "tie"] sp_has_tie := G_has_tie T
  refine T.F_ties_in.ok sc_ties_in (fun vs H Q E h => ?_) (fun cdv A outer s H vs Q E hr h => ?_)
  · obtain ⟨m, rfl, _⟩ := h
    rfl
  · obtain ⟨m, rfl, hm, k⟩ := h
    refine ⟨_, (pss_one (ps_ret (pe_comp (own := ["tie"]) (frees := ["tie_set"]) (js := [0]) (compText_of (defScope s_ties_in) ["tie_set"]) rfl (pi_range1 (by rfl) T.n_range (pa_cons (pe_bm0 PySem.F.plainAttrs_int PyProof.Rows.slot_int_bit_length PyProof.Rows.type_int_bit_length mt_bits (pv 0)) pa_nil)) (fun _ _ _ _ => (pg_name (i := 0) (show (["tie", "tie_set"] : List Str).Nodup by decide +kernel) rfl (Or.inl rfl))) (fun _ _ _ _ => (pts_one (pt_val (pe_call G_has_tie (hr.mono (by decide)) (by rfl) T.m_has_tie T.k_has_tie T.b_has_tie .nil pass0 (pa_cons (pv 1) (pa_cons (pv 0) pa_nil)))))) (fun _ _ _ _ => (pv 0))))), ?_⟩
    refine (exq rfl ⟨rfl, exq rfl ⟨rfl, exq rfl ⟨(by (first | lia | omega)), (by (first | lia | omega)), fun D hD => comp_range (lo := 0) (m := Builtin.Int.intBits (m : Int)) (Pick (bit (m : Int)) H D) (.start hD) (fun i acc H2 _ p => p.len) (dl (Nat.ble_eq.mpr hm)) ?_ ?_⟩⟩⟩)
    · intro i acc H2 hi p
      rw [Int.zero_add]
      refine ⟨rfl, exq rfl (exq rfl ⟨(m : Int), i, rfl, exq rfl (?_)⟩)⟩
      cases hb : bit (m : Int) i with
      | true => exact (exq rfl (p.yes hD (Same.refl _) hb))
      | false => exact p.no (Same.refl _) hb
    · intro acc H2 p
      exact k D H2 hD p.1 (by rw [p.2.1, p.2.2]; rfl)
theorem G_all_ties (T : Txt K mg a) : FnOk P w K mg base CX0 1 a.f_all_ties a.d_all_ties ["web"] sp_all_ties := by
  refine T.F_all_ties.ok sc_all_ties (fun vs H Q E h => ?_) (fun cdv A outer s H vs Q E hr h => ?_)
  · obtain ⟨w, p, ts, rfl, _⟩ := h
    rfl
  · obtain ⟨wb, p, ts, rfl, hw, W, q⟩ := h
    refine ⟨_, (pss_one (ps_ret (pe_op op_sub (pe_op op_shl pe_int (pe_callB (lenK K) (by rfl) T.n_len PySem.boot_len (pa_cons (pe_ix (ixT K) (pv 0) pe_int (fun _ _ => rfl)) pa_nil))) pe_int))), ?_⟩
    obtain ⟨b, xs, h1, h2, h3⟩ := hw.ex
    have hl := h3.length
    have wl := W.len
    refine (exq rfl (ixq (SqT.of h1) (atI_nat (j := 1) rfl) (lnq rfl (.inr (SqT.of h2)) (ijq ⟨⟨by (first | lia | omega), by (first | lia | omega), by decide⟩, ijq (?_)⟩))))
    rw [Int.toNat_natCast, hl, Int.one_mul]
    exact q
theorem G_is_set (T : Txt K mg a) : FnOk P w K mg base CX0 2 a.f_is_set a.d_is_set ["web", "number"] sp_is_set := by
  have G_all_ties : FnOk P w K mg base CX0 1 a.f_all_ties a.d_all_ties ["web"] sp_all_ties := G_all_ties T
  refine T.F_is_set.ok sc_is_set (fun vs H Q E h => ?_) (fun cdv A outer s H vs Q E hr h => ?_)
  · obtain ⟨w, p, ts, S, rfl, _⟩ := h
    rfl
  · obtain ⟨wb, p, ts, S, rfl, hw, W, q⟩ := h
    refine ⟨_, (pss_one (ps_ret (pe_and (pe_cmpR op_ge (pv 1) pe_int (nomark _)) (pe_one (pe_cmpR op_le (pv 1) (pe_call G_all_ties (hr.mono (by decide)) (by rfl) T.m_all_ties T.k_all_ties T.b_all_ties .nil pass0 (pa_cons (pv 0) pa_nil)) (nomark _)))))), ?_⟩
    refine (exq rfl (ijq (exq rfl (ite2 (fun hlt => ?_) (fun hlt => ?_)))))
    · have hlt : 0 ≤ S := of_decide_eq_true hlt
      refine (exq rfl (exq rfl ⟨wb, p, ts, rfl, hw, W, _, _, rfl, rfl, ?_⟩))
      have e : decide (S ≤ 2 ^ ts.length - 1) = decide (0 ≤ S ∧ S < 2 ^ ts.length) := decide_eq_decide.mpr ⟨fun z => ⟨hlt, by (first | lia | omega)⟩, fun z => by (first | lia | omega)⟩
      rw [← e] at q
      exact q
    · have hlt : ¬ 0 ≤ S := fun z => hlt (decide_eq_true z)
      rw [decide_eq_false (fun z => hlt z.1)] at q
      exact q
theorem G_check_set (T : Txt K mg a) : FnOk P w K mg base (CX1 P w) 3 a.f_check_set a.d_check_set ["web", "tie_set"] (sp_check_set a.c_BadSet) := by
  have G_is_set : FnOk P w K mg base CX0 2 a.f_is_set a.d_is_set ["web", "number"] sp_is_set := G_is_set T
  refine T.F_check_set.ok1 sc_check_set (fun vs H Q E h => ?_) (fun cdv A outer s H vs Q E hr h => ?_)
  · obtain ⟨w, p, ts, S, rfl, _⟩ := h
    rfl
  · obtain ⟨wb, p, ts, S, rfl, hw, W, q⟩ := h
    refine ⟨_, (pss_one (ps_if (pt_not (pt_val (pe_call G_is_set (hr.mono (by decide)) (by rfl) T.m_is_set T.k_is_set T.b_is_set .nil pass0 (pa_cons (pv 0) (pa_cons (pv 1) pa_nil))))) (pss_one (ps_raise out_of.thr rfl (by rfl) T.x_BadSet PySem.F.excBase_ValueError (pa_cons pe_str pa_nil))) pss_nil)), ?_⟩
    refine hd_check_set ?_
    intro zz0
    refine (exq rfl (exq rfl ⟨wb, p, ts, S, rfl, hw, W, ?_⟩))
    have h2 : ((2 : Int) ^ ts.length) = ((2 ^ ts.length : Nat) : Int) := by simp
    rcases q with ⟨m, rfl, hm, q⟩ | ⟨hS, q⟩
    · rw [decide_eq_true ⟨by (first | lia | omega), by (first | lia | omega)⟩]
      exact (exq rfl (iteF q))
    · rw [decide_eq_false (by (first | lia | omega))]
      exact (exq rfl (iteT ⟨dl rfl, q⟩))
end

section
variable {P : Program} {w : World} {K : PySem.W.Frag} {mg : Str → Option Value} {base : Heap} {a : Adr}
end

section
variable {P : Program} {w : World} {K : PySem.W.Frag} {mg : Str → Option Value} {base : Heap} {a : Adr}
end

def sp_drawn : Sp := fun vs H Q _ => ∃ (l : Addr) (L : Nat → Nat) (p u v : Nat), vs = [.ref l, .int (u : Int), .int (v : Int)] ∧ H l = some (.lst (mapV L p)) ∧ p ≤ 10 ∧ u < p ∧ v < p ∧
  ∀ D H', H D = none → Same H H' → H' D = some (.lst (mapV (RM.join L u v) p)) → Q (.ref D) H'
section
variable {P : Program} {w : World} {K : PySem.W.Frag} {mg : Str → Option Value} {base : Heap} {a : Adr}
theorem G_drawn_together (T : Txt K mg a) : FnOk P w K mg base CX0 1 a.f_drawn_together a.d_drawn_together ["leasts", "one", "other"] sp_drawn := by
  refine T.F_drawn_together.ok sc_drawn_together (fun vs H Q E h => ?_) (fun cdv A outer s H vs Q E hr h => ?_)
  · obtain ⟨l, L, p, u, v, rfl, _⟩ := h
    rfl
  · obtain ⟨l, L, p, u, v, rfl, hl, hp, hu, hv, q⟩ := h
    refine ⟨_, (pss_cons (ps_set (i := 3) sc_drawn_together.nd rfl (Or.inr rfl) (pe_callB (call_min2 rfl) (by rfl) T.n_min PyProof.Rows.boot_min (pa_cons (pe_ix (ixL K) (pv 0) (pv 1) (fun _ _ => rfl)) (pa_cons (pe_ix (ixL K) (pv 0) (pv 2) (fun _ _ => rfl)) pa_nil))))
      (pss_cons (ps_set (i := 4) sc_drawn_together.nd rfl (Or.inr rfl) (pe_callB (call_max2 rfl) (by rfl) T.n_max PyProof.Rows.boot_max (pa_cons (pe_ix (ixL K) (pv 0) (pv 1) (fun _ _ => rfl)) (pa_cons (pe_ix (ixL K) (pv 0) (pv 2) (fun _ _ => rfl)) pa_nil))))
      (pss_one (ps_ret (pe_comp (own := ["least"]) (frees := ["low", "high"]) (js := [3, 4]) (compText_of (defScope s_drawn_together) ["leasts", "one", "other", "low", "high"]) rfl (piL K (pv 0)) (fun _ _ _ _ => (pg_name (i := 0) (show (["least", "low", "high"] : List Str).Nodup by decide +kernel) rfl (Or.inl rfl))) (fun _ _ _ _ => pts_nil) (fun _ _ _ _ => (pe_ifExp (pt_cmpR op_eq (pv 0) (pv 2) (nomark _)) (pv 1) (pv 0)))))))), ?_⟩
    refine hd_drawn_together ?_
    intro zz0 zz1
    refine (exq rfl (exq rfl (ixl (SqL.of hl) (atI_nat (j := u) (mapV_get hu)) (exq rfl (exq rfl (ixl (SqL.of hl) (atI_nat (j := v) (mapV_get hv)) ⟨_, _, rfl, ?_⟩))))))
    refine (exq rfl (exq rfl (ixl (SqL.of hl) (atI_nat (j := u) (mapV_get hu)) (exq rfl (exq rfl (ixl (SqL.of hl) (atI_nat (j := v) (mapV_get hv)) ⟨_, _, rfl, ?_⟩))))))
    refine (exq rfl ⟨l, rfl, ⟨_, SqL.of hl⟩, fun D hD => comp_list (xs := mapV L p) (Mapd (RM.join L u v) H D) (.start hD) (fun i acc H2 _ pd => ⟨SqL.of (pd.1 _ _ hl), pd.len⟩) (by rw [mapV_len]; exact dl (Nat.ble_eq.mpr (by (first | lia | omega)))) ?_ ?_⟩)
    · intro i x acc H2 hx pd
      obtain ⟨hi, rfl⟩ := mapV_of hx
      refine ⟨rfl, exq rfl (exq rfl ⟨rfl, exq rfl (?_)⟩)⟩
      rw [max_int, dec_nat]
      by_cases hm : L i = max (L u) (L v)
      · rw [decide_eq_true hm]
        refine iteT (exq rfl (pd.next hD (Same.refl _) ?_))
        rw [min_int]
        unfold RM.join
        rw [if_pos hm]
      · rw [decide_eq_false hm]
        refine iteF (exq rfl (pd.next hD (Same.refl _) ?_))
        unfold RM.join
        rw [if_neg hm]
    · intro acc H2 pd
      rw [mapV_len] at pd
      exact q D H2 hD pd.1 (by rw [pd.2.1, pd.2.2])
end

section
variable {P : Program} {w : World} {K : PySem.W.Frag} {mg : Str → Option Value} {base : Heap} {a : Adr}
end

def sp_trails : Sp := fun vs H Q _ => ∃ w p ts, ∃ g : GoodWeb p ts, vs = [.ref w] ∧ WebAt H w p ts ∧ ∀ D H', H D = none → Same H H' → H' D = some (.lst (mapV ((netOf p ts g).trail ts.length) p)) → Q (.ref D) H'
def sp_forest : Sp := fun vs H Q _ => ∃ w p ts, ∃ g : GoodWeb p ts, vs = [.ref w] ∧ WebAt H w p ts ∧ ∀ H', Same H H' → Q (.int ((forestN p ts g : Nat) : Int)) H'
def sp_chords : Sp := fun vs H Q _ => ∃ w p ts, ∃ g : GoodWeb p ts, vs = [.ref w] ∧ WebAt H w p ts ∧ ∀ D H', H D = none → Same H H' → H' D = some (.lst (natsV (netOf p ts g).chords)) → Q (.ref D) H'
def sp_ring_closed : Sp := fun vs H Q _ => ∃ w p ts, ∃ g : GoodWeb p ts, ∃ (D : Addr) (c : Nat), vs = [.ref w, .ref D, .int (c : Int)] ∧ WebAt H w p ts ∧ H D = some (.lst (mapV ((netOf p ts g).trail ts.length) p)) ∧ c < ts.length ∧ Q (.int (((netOf p ts g).ring c : Nat) : Int)) H
section
variable {P : Program} {w : World} {K : PySem.W.Frag} {mg : Str → Option Value} {base : Heap} {a : Adr}
theorem tie_at {H : Hp} {xs : List V} {p : Nat} {ts : List Tie} {g : GoodWeb p ts} {k : Nat} (h3 : Paired (TupAt H) xs ts) (hk : k < ts.length) : ∃ c, xs[k]? = some (.ref c) ∧ H c = some (.tup [.int (((netOf p ts g).a k : Nat) : Int), .int (((netOf p ts g).b k : Nat) : Int), .int (tieAt ts k).2.2]) := by
  have hkx : k < xs.length := by rw [h3.length]; exact hk
  obtain ⟨t, ht, c, hc, hct⟩ := Paired.getP h3 (i := k) (x := xs[k]) (by simp [hkx])
  have htt : t = tieAt ts k := by
    have z := tieAt_get hk
    rw [ht] at z
    exact Option.some.inj z
  refine ⟨c, by rw [← hc]; simp [hkx], ?_⟩
  rw [hct, ← net_a hk, ← net_b hk, htt]
  rfl
theorem G_forest_trails (T : Txt K mg a) : FnOk P w K mg base CX0 2 a.f_forest_trails a.d_forest_trails ["web"] sp_trails := by
  have G_drawn_together : FnOk P w K mg base CX0 1 a.f_drawn_together a.d_drawn_together ["leasts", "one", "other"] sp_drawn := G_drawn_together T
  refine T.F_forest_trails.ok sc_forest_trails (fun vs H Q E h => ?_) (fun cdv A outer s H vs Q E hr h => ?_)
  · obtain ⟨w, p, ts, g, rfl, _⟩ := h
    rfl
  · obtain ⟨wb, p, ts, g, rfl, hw, q⟩ := h
    refine ⟨_, (pss_cons (ps_set (i := 1) sc_forest_trails.nd rfl (Or.inl rfl) (pe_callTy (listR rfl) (by rfl) T.n_list PyProof.Rows.boot_list (pa_cons (pe_callTy call_rng (by rfl) T.n_range PyProof.Rows.boot_range (pa_cons (pe_ix (ixT K) (pv 0) pe_int (fun _ _ => rfl)) pa_nil)) pa_nil)))
      (pss_cons (ps_set (i := 2) sc_forest_trails.nd rfl (Or.inl rfl) (pe_op op_rep (pe_lst (pa_cons pe_int pa_nil)) (pe_ix (ixT K) (pv 0) pe_int (fun _ _ => rfl))))
      (pss_cons (ps_for PassesOwn.never rfl (pi_range1 (by rfl) T.n_range (pa_cons (pe_callB (lenK K) (by rfl) T.n_len PySem.boot_len (pa_cons (pe_ix (ixT K) (pv 0) pe_int (fun _ _ => rfl)) pa_nil)) pa_nil)) (pg_name (i := 3) sc_forest_trails.nd rfl (Or.inl rfl))
      (pss_cons (ps_set (i := 4) sc_forest_trails.nd rfl (Or.inl rfl) (pe_ix (ixT K) (pe_ix (ixT K) (pe_ix (ixT K) (pv 0) pe_int (fun _ _ => rfl)) (pv 3) (fun _ _ => rfl)) pe_int (fun _ _ => rfl)))
      (pss_cons (ps_set (i := 5) sc_forest_trails.nd rfl (Or.inl rfl) (pe_ix (ixT K) (pe_ix (ixT K) (pe_ix (ixT K) (pv 0) pe_int (fun _ _ => rfl)) (pv 3) (fun _ _ => rfl)) pe_int (fun _ _ => rfl)))
      (pss_one (ps_if (pt_cmpR op_ne (pe_ix (ixL K) (pv 1) (pv 4) (fun _ _ => rfl)) (pe_ix (ixL K) (pv 1) (pv 5) (fun _ _ => rfl)) (nomark _)) (pss_cons (ps_set (i := 6) sc_forest_trails.nd rfl (Or.inr rfl) (pe_op op_xor (pe_op op_xor (pe_ix (ixL K) (pv 2) (pv 4) (fun _ _ => rfl)) (pe_ix (ixL K) (pv 2) (pv 5) (fun _ _ => rfl))) (pe_op op_shl pe_int (pv 3))))
      (pss_cons (ps_set (i := 7) sc_forest_trails.nd rfl (Or.inr rfl) (pe_callB (call_max2 rfl) (by rfl) T.n_max PyProof.Rows.boot_max (pa_cons (pe_ix (ixL K) (pv 1) (pv 4) (fun _ _ => rfl)) (pa_cons (pe_ix (ixL K) (pv 1) (pv 5) (fun _ _ => rfl)) pa_nil))))
      (pss_cons (ps_comp (i := 2) sc_forest_trails.nd rfl rfl (own := ["trail", "least"]) (frees := ["bridge", "moved"]) (js := [6, 7]) (compText_of (defScope s_forest_trails) ["web", "leasts", "trails", "tie", "one", "other", "bridge", "moved"]) rfl (pi_zip K (by rfl) T.n_zip (pa_cons (pv 2) (pa_cons (pv 1) pa_nil))) (fun _ _ _ _ => (pgT K (n := 2) rfl (pgs_cons (pg_name (i := 0) (show (["trail", "least", "bridge", "moved"] : List Str).Nodup by decide +kernel) rfl (Or.inl rfl)) (pgs_cons (pg_name (i := 1) (show (["trail", "least", "bridge", "moved"] : List Str).Nodup by decide +kernel) rfl (Or.inl rfl)) pgs_nil)))) (fun _ _ _ _ => pts_nil) (fun _ _ _ _ => (pe_ifExp (pt_cmpR op_eq (pv 1) (pv 3) (nomark _)) (pe_op op_xor (pv 0) (pv 2)) (pv 0))))
      (pss_one (ps_set (i := 1) sc_forest_trails.nd rfl (Or.inl rfl) (pe_call G_drawn_together (hr.mono (by decide)) (by rfl) T.m_drawn_together T.k_drawn_together T.b_drawn_together .nil pass0 (pa_cons (pv 1) (pa_cons (pv 4) (pa_cons (pv 5) pa_nil))))))))) pss_nil)))))
      (pss_one (ps_ret (pv 2)))))), ?_⟩
    refine hd_forest_trails ?_
    intro zz0 zz1 zz2 zz3 zz4 zz5 zz6 zz7 zz8 zz9
    obtain ⟨bt, xs, h1, h2, h3⟩ := id hw.ex
    have wp := g.p2
    have wl := g.len
    have hxl := h3.length
    refine (exq rfl (ixq (SqT.of h1) (atI_nat (j := 0) rfl) (exq rfl (fun r hr => ⟨r, p, rfl, upd_same, by (first | lia | omega), fun l hl => ?_⟩))))
    have s1 : Same H (upd (upd H r (.rng 0 (p : Int))) l (.lst (rngV p))) := (Same.new hr).trans (Same.new hl)
    have hl1 : upd (upd H r (.rng 0 (p : Int))) l (.lst (rngV p)) l = some (.lst (mapV ((netOf p ts g).lab 0) p)) := upd_same
    generalize upd (upd H r (.rng 0 (p : Int))) l (.lst (rngV p)) = H1 at s1 hl1
    refine ⟨dl rfl, fun l0 hl0 => ?_⟩
    have s0 : Same H1 (upd H1 l0 (.lst [.int 0])) := Same.new hl0
    refine (exq rfl (ixq (SqT.of (s0 _ _ (s1 _ _ h1))) (atI_nat (j := 0) rfl) ⟨l0, (p : Int), exq rfl ⟨rfl, upd_same, by (first | lia | omega), by (first | lia | omega), (by rw [Int.toNat_natCast]; show 1 * p ≤ sizeLine; exact dl (Nat.ble_eq.mpr (by (first | lia | omega)))), fun e he => ?_⟩⟩))
    have s2 := s0.trans (Same.new (o := .lst (List.replicate (p : Int).toNat [V.int 0]).flatten) he)
    have he2 : upd (upd H1 l0 (.lst [.int 0])) e (.lst (List.replicate (p : Int).toNat [V.int 0]).flatten) e = some (.lst (mapV ((netOf p ts g).trail 0) p)) := by
      rw [upd_same, Int.toNat_natCast, rep_mapV]
      rfl
    generalize upd (upd H1 l0 (.lst [.int 0])) e (.lst (List.replicate (p : Int).toNat [V.int 0]).flatten) = H2 at s2 he2
    refine (exq rfl (ixq (SqT.of ((s1.trans s2) _ _ h1)) (atI_nat (j := 1) rfl) (lnq rfl (.inr (SqT.of ((s1.trans s2) _ _ h2))) (exq rfl ⟨(by (first | lia | omega)), (by (first | lia | omega)), ?_⟩))))
    refine for_range' (lo := 0) (n := (xs.length : Int).toNat) (fun k σ H3 => ∃ la ta v3 v4 v5 v6 v7, σ = [some (.ref wb), some (.ref la), some (.ref ta), v3, v4, v5, v6, v7] ∧ Same H H3 ∧ H3 la = some (.lst (mapV ((netOf p ts g).lab k) p)) ∧ H3 ta = some (.lst (mapV ((netOf p ts g).trail k) p)) ∧ H ta = none)
      ⟨l, e, none, none, none, none, none, rfl, s1.trans s2, s2 _ _ hl1, he2, s1.free (s0.free he)⟩ ?_ ?_
    · rintro k D' σ H3 hk ⟨la, ta, v3, v4, v5, v6, v7, rfl, s3, hla, hta, htn⟩
      rw [Int.toNat_natCast, hxl] at hk
      rw [Int.zero_add]
      obtain ⟨c, hxc, hct⟩ := tie_at (g := g) h3 hk
      have hA := (netOf p ts g).al k hk
      have hB := (netOf p ts g).bl k hk
      have hls := RM.lab_succ (N := netOf p ts g) k
      have hinF : (netOf p ts g).inF k = !decide ((netOf p ts g).lab k ((netOf p ts g).a k) = (netOf p ts g).lab k ((netOf p ts g).b k)) := rfl
      have htr : (netOf p ts g).trail (k + 1) = if (netOf p ts g).inF k = true then fun v => if (netOf p ts g).lab k v = max ((netOf p ts g).lab k ((netOf p ts g).a k)) ((netOf p ts g).lab k ((netOf p ts g).b k)) then (netOf p ts g).trail k v ^^^ ((netOf p ts g).trail k ((netOf p ts g).a k) ^^^ (netOf p ts g).trail k ((netOf p ts g).b k) ^^^ 2 ^ k) else (netOf p ts g).trail k v else (netOf p ts g).trail k := rfl
      generalize (netOf p ts g).a k = A0 at *
      generalize (netOf p ts g).b k = B0 at *
      refine (exq rfl (ixq (SqT.of (s3 _ _ h1)) (atI_nat (j := 1) rfl) (exq rfl (ixq (SqT.of (s3 _ _ h2)) (atI_nat (j := k) hxc) (ixq (SqT.of (s3 _ _ hct)) (atI_nat (j := 0) rfl) (?_))))))
      refine (exq rfl (ixq (SqT.of (s3 _ _ h1)) (atI_nat (j := 1) rfl) (exq rfl (ixq (SqT.of (s3 _ _ h2)) (atI_nat (j := k) hxc) (ixq (SqT.of (s3 _ _ hct)) (atI_nat (j := 1) rfl) (?_))))))
      refine (exq rfl (exq rfl (ixl (SqL.of hla) (atI_nat (j := A0) (mapV_get hA)) (exq rfl (exq rfl (ixl (SqL.of hla) (atI_nat (j := B0) (mapV_get hB)) ⟨rfl, exq rfl (?_)⟩))))))
      rw [dec_nat]
      by_cases he : (netOf p ts g).lab k A0 = (netOf p ts g).lab k B0
      · rw [decide_eq_true he] at hinF
        rw [hinF, if_neg (by decide)] at hls htr
        rw [decide_eq_true he]
        exact iteF ⟨la, ta, _, _, _, _, _, rfl, s3, by rw [hls]; exact hla, by rw [htr]; exact hta, htn⟩
      · rw [decide_eq_false he] at hinF
        rw [hinF, if_pos (by rfl)] at hls htr
        rw [decide_eq_false he]
        have hbr : Builtin.bitXor (Builtin.bitXor (((netOf p ts g).trail k A0 : Nat) : Int) (((netOf p ts g).trail k B0 : Nat) : Int)) (1 * 2 ^ (k : Int).toNat) = (((netOf p ts g).trail k A0 ^^^ (netOf p ts g).trail k B0 ^^^ 2 ^ k : Nat) : Int) := by
          rw [shl_int, xor_int, xor_int]
        refine iteT (exq rfl (exq rfl (ixl (SqL.of hta) (atI_nat (j := A0) (mapV_get hA)) (exq rfl (exq rfl (ixl (SqL.of hta) (atI_nat (j := B0) (mapV_get hB)) (ijq (exq rfl (ijq ⟨⟨by (first | lia | omega), by (first | lia | omega), by decide⟩, ijq (?_)⟩)))))))))
        refine (exq rfl (exq rfl (ixl (SqL.of hla) (atI_nat (j := A0) (mapV_get hA)) (exq rfl (exq rfl (ixl (SqL.of hla) (atI_nat (j := B0) (mapV_get hB)) ⟨_, _, rfl, ?_⟩))))))
        refine (exq rfl (exq rfl ⟨ta, la, rfl, ⟨_, SqL.of hta⟩, ⟨_, SqL.of hla⟩, fun D hD => comp_zip (xs := mapV ((netOf p ts g).trail k) p) (ys := mapV ((netOf p ts g).lab k) p) (by rw [mapV_len, mapV_len]) (Mapd ((netOf p ts g).trail (k + 1)) H3 D) (.start hD) (fun i acc H4 _ pd => ⟨SqL.of (pd.1 _ _ hta), SqL.of (pd.1 _ _ hla), pd.len⟩) (by rw [mapV_len]; exact dl (Nat.ble_eq.mpr (by (first | lia | omega)))) ?_ ?_⟩))
        · intro i x y T0 acc H4 hx hy pd hT
          obtain ⟨hi, rfl⟩ := mapV_of hx
          obtain ⟨_, rfl⟩ := mapV_of hy
          refine ⟨T0, _, rfl, SqT.of upd_same, rfl, _, _, rfl, _, _, rfl, rfl, rfl, exq rfl (exq rfl ⟨rfl, exq rfl (?_)⟩)⟩
          rw [max_int, dec_nat]
          by_cases hm : (netOf p ts g).lab k i = max ((netOf p ts g).lab k A0) ((netOf p ts g).lab k B0)
          · rw [decide_eq_true hm]
            refine iteT (exq rfl (exq rfl (ijq (pd.next hD (Same.new hT) ?_))))
            show V.int (Builtin.bitXor _ (Builtin.bitXor (Builtin.bitXor _ _) _)) = _
            rw [hbr, xor_int, htr]
            show _ = V.int (((if _ then _ else _ : Nat)) : Int)
            rw [if_pos hm]
          · rw [decide_eq_false hm]
            refine iteF (exq rfl (pd.next hD (Same.new hT) ?_))
            rw [htr]
            show _ = V.int (((if _ then _ else _ : Nat)) : Int)
            rw [if_neg hm]
        · intro acc H4 pd
          rw [mapV_len] at pd
          have hD4 : H4 D = some (.lst (mapV ((netOf p ts g).trail (k + 1)) p)) := by rw [pd.2.1, pd.2.2]
          refine (exq rfl (exq rfl (exq rfl ⟨la, (netOf p ts g).lab k, p, A0, B0, rfl, pd.1 _ _ hla, wp, hA, hB, fun D2 H5 hn5 s5 hD2 => ?_⟩)))
          exact ⟨D2, D, _, _, _, _, _, rfl, (s3.trans pd.1).trans s5, by rw [hls]; exact hD2, s5 _ _ hD4, s3.free hD⟩
    · rintro σ H3 ⟨la, ta, v3, v4, v5, v6, v7, rfl, s3, hla, hta, htn⟩
      rw [Int.toNat_natCast, hxl] at hta
      exact (exq rfl (q ta H3 htn s3 hta))
theorem G_forest (T : Txt K mg a) : FnOk P w K mg base CX0 3 a.f_forest a.d_forest ["web"] sp_forest := by
  have G_forest_trails : FnOk P w K mg base CX0 2 a.f_forest_trails a.d_forest_trails ["web"] sp_trails := G_forest_trails T
  refine T.F_forest.ok sc_forest (fun vs H Q E h => ?_) (fun cdv A outer s H vs Q E hr h => ?_)
  · obtain ⟨w, p, ts, g, rfl, _⟩ := h
    rfl
  · obtain ⟨wb, p, ts, g, rfl, hw, q⟩ := h
    refine ⟨_, (pss_cons (ps_set (i := 1) sc_forest.nd rfl (Or.inl rfl) pe_int)
      (pss_cons (ps_for PassesOwn.never rfl (piL K (pe_call G_forest_trails (hr.mono (by decide)) (by rfl) T.m_forest_trails T.k_forest_trails T.b_forest_trails .nil pass0 (pa_cons (pv 0) pa_nil))) (pg_name (i := 2) sc_forest.nd rfl (Or.inl rfl))
      (pss_one (ps_aug (i := 1) sc_forest.nd rfl (Or.inl rfl) (pv 2) iop_or)))
      (pss_one (ps_ret (pv 1))))), ?_⟩
    refine hd_forest ?_
    intro zz0 zz1 zz2
    refine (exq rfl ⟨wb, p, ts, g, rfl, hw, fun D H1 hDn s1 hD => ⟨D, rfl, ⟨_, SqL.of hD⟩, ?_⟩⟩)
    refine for_list' (K := K) (a := D) (xs := mapV ((netOf p ts g).trail ts.length) p) (fun i σ H2 => ∃ v2, σ = [some (.ref wb), some (.int ((orT ((netOf p ts g).trail ts.length) i : Nat) : Int)), v2] ∧ H2 = H1) ⟨none, rfl, rfl⟩ (fun i σ H2 _ ⟨_, _, z⟩ => by rw [z]; exact SqL.of hD) ?_ ?_
    · rintro i x D' σ H2 hx ⟨v2, rfl, rfl⟩
      obtain ⟨hi, rfl⟩ := mapV_of hx
      refine (exq rfl (exq rfl (ijq ⟨some (.int (((netOf p ts g).trail ts.length i : Nat) : Int)), ?_, rfl⟩)))
      show [_, some (V.int (Builtin.bitOr _ _)), _] = _
      rw [or_int]
      rfl
    · rintro σ H2 ⟨v2, rfl, rfl⟩
      rw [mapV_len, orT_forest]
      exact (exq rfl (q _ s1))
theorem G_chords (T : Txt K mg a) : FnOk P w K mg base CX0 4 a.f_chords a.d_chords ["web"] sp_chords := by
  have G_forest : FnOk P w K mg base CX0 3 a.f_forest a.d_forest ["web"] sp_forest := G_forest T
  have G_all_ties : FnOk P w K mg base CX0 1 a.f_all_ties a.d_all_ties ["web"] sp_all_ties := G_all_ties T
  have G_ties_in : FnOk P w K mg base CX0 2 a.f_ties_in a.d_ties_in ["tie_set"] sp_ties_in := G_ties_in T
  refine T.F_chords.ok sc_chords (fun vs H Q E h => ?_) (fun cdv A outer s H vs Q E hr h => ?_)
  · obtain ⟨w, p, ts, g, rfl, _⟩ := h
    rfl
  · obtain ⟨wb, p, ts, g, rfl, hw, q⟩ := h
    refine ⟨_, (pss_one (ps_ret (pe_call G_ties_in (hr.mono (by decide)) (by rfl) T.m_ties_in T.k_ties_in T.b_ties_in .nil pass0 (pa_cons (pe_op op_xor (pe_call G_all_ties (hr.mono (by decide)) (by rfl) T.m_all_ties T.k_all_ties T.b_all_ties .nil pass0 (pa_cons (pv 0) pa_nil)) (pe_call G_forest (hr.mono (by decide)) (by rfl) T.m_forest T.k_forest T.b_forest .nil pass0 (pa_cons (pv 0) pa_nil))) pa_nil)))), ?_⟩
    have wl := g.len
    refine (exq rfl ⟨wb, p, ts, rfl, hw, g.web, _, rfl, wb, p, ts, g, rfl, hw, fun H1 s1 => (ijq ⟨(2 ^ ts.length - 1) ^^^ forestN p ts g, ?_, ?_, fun D H2 hDn s2 hD => ?_⟩)⟩)
    · show [V.int (Builtin.bitXor _ _)] = _
      rw [pow_sub, xor_int]
    · exact Nat.le_trans (bits_le chordM_lt) (by (first | lia | omega))
    · rw [chordM_ties] at hD
      exact q D H2 (s1.free hDn) (s1.trans s2) hD
theorem G_ring_closed (T : Txt K mg a) : FnOk P w K mg base CX0 1 a.f_ring_closed a.d_ring_closed ["web", "trails", "chord"] sp_ring_closed := by
  refine T.F_ring_closed.ok sc_ring_closed (fun vs H Q E h => ?_) (fun cdv A outer s H vs Q E hr h => ?_)
  · obtain ⟨w, p, ts, g, D, c, rfl, _⟩ := h
    rfl
  · obtain ⟨wb, p, ts, g, D, c, rfl, hw, hD, hc, q⟩ := h
    refine ⟨_, (pss_cons (ps_set (i := 3) sc_ring_closed.nd rfl (Or.inl rfl) (pe_ix (ixT K) (pe_ix (ixT K) (pv 0) pe_int (fun _ _ => rfl)) (pv 2) (fun _ _ => rfl)))
      (pss_one (ps_ret (pe_op op_xor (pe_op op_xor (pe_ix (ixL K) (pv 1) (pe_ix (ixT K) (pv 3) pe_int (fun _ _ => rfl)) (fun _ _ => rfl)) (pe_ix (ixL K) (pv 1) (pe_ix (ixT K) (pv 3) pe_int (fun _ _ => rfl)) (fun _ _ => rfl))) (pe_op op_shl pe_int (pv 2)))))), ?_⟩
    refine hd_ring_closed ?_
    intro zz0
    obtain ⟨bt, xs, h1, h2, h3⟩ := id hw.ex
    have wl := g.len
    obtain ⟨b, hxc, hct⟩ := tie_at (g := g) h3 hc
    have hA := (netOf p ts g).al c hc
    have hB := (netOf p ts g).bl c hc
    refine (exq rfl (ixq (SqT.of h1) (atI_nat (j := 1) rfl) (exq rfl (ixq (SqT.of h2) (atI_nat (j := c) hxc) (?_)))))
    refine (exq rfl (exq rfl (ixq (SqT.of hct) (atI_nat (j := 0) rfl) (ixl (SqL.of hD) (atI_nat (j := (netOf p ts g).a c) (mapV_get hA)) (exq rfl (exq rfl (ixq (SqT.of hct) (atI_nat (j := 1) rfl) (ixl (SqL.of hD) (atI_nat (j := (netOf p ts g).b c) (mapV_get hB)) (ijq (exq rfl (ijq ⟨⟨by (first | lia | omega), by (first | lia | omega), by decide⟩, ijq (?_)⟩)))))))))))
    show Q (V.int (Builtin.bitXor (Builtin.bitXor _ _) _)) H
    rw [shl_int, xor_int, xor_int]
    exact q
end

def sp_chord_ring (C : Addr) : Sp := fun vs H Q E => ∃ w p ts, ∃ g : GoodWeb p ts, ∃ S, vs = [.ref w, .int S] ∧ WebAt H w p ts ∧
  ((∃ c : Nat, S = (c : Int) ∧ c ∈ (netOf p ts g).chords ∧ ∀ H', Same H H' → Q (.int (((netOf p ts g).ring c : Nat) : Int)) H') ∨ ((∀ c ∈ (netOf p ts g).chords, S ≠ ((c : Nat) : Int)) ∧ ∀ H', Same H H' → E (.ref C) none H'))
section
variable {P : Program} {w : World} {K : PySem.W.Frag} {mg : Str → Option Value} {base : Heap} {a : Adr}
theorem G_chord_ring (T : Txt K mg a) : FnOk P w K mg base (CX1 P w) 5 a.f_chord_ring a.d_chord_ring ["web", "tie"] (sp_chord_ring a.c_NoChord) := by
  have G_chords : FnOk P w K mg base CX0 4 a.f_chords a.d_chords ["web"] sp_chords := G_chords T
  have G_forest_trails : FnOk P w K mg base CX0 2 a.f_forest_trails a.d_forest_trails ["web"] sp_trails := G_forest_trails T
  have G_ring_closed : FnOk P w K mg base CX0 1 a.f_ring_closed a.d_ring_closed ["web", "trails", "chord"] sp_ring_closed := G_ring_closed T
  refine T.F_chord_ring.ok1 sc_chord_ring (fun vs H Q E h => ?_) (fun cdv A outer s H vs Q E hr h => ?_)
  · obtain ⟨w, p, ts, g, S, rfl, _⟩ := h
    rfl
  · obtain ⟨wb, p, ts, g, S, rfl, hw, q⟩ := h
    refine ⟨_, (pss_cons (ps_if (pt_cmpR (notInK K) (pv 1) (pe_call G_chords (hr.mono (by decide)) (by rfl) T.m_chords T.k_chords T.b_chords .nil pass0 (pa_cons (pv 0) pa_nil)) (by with_unfolding_all rfl)) (pss_one (ps_raise out_of.thr rfl (by rfl) T.x_NoChord PySem.F.excBase_ValueError (pa_cons pe_str pa_nil))) pss_nil)
      (pss_one (ps_ret (pe_call G_ring_closed (hr.mono (by decide)) (by rfl) T.m_ring_closed T.k_ring_closed T.b_ring_closed .nil pass0 (pa_cons (pv 0) (pa_cons (pe_call G_forest_trails (hr.mono (by decide)) (by rfl) T.m_forest_trails T.k_forest_trails T.b_forest_trails .nil pass0 (pa_cons (pv 0) pa_nil)) (pa_cons (pv 1) pa_nil))))))), ?_⟩
    refine hd_chord_ring ?_
    intro zz0 zz1
    refine (exq rfl (exq rfl ⟨wb, p, ts, g, rfl, hw, fun D H1 hDn s1 hD => (lnq rfl (.inl (SqL.of hD)) ⟨rfl, flat_nats _, _, rfl, ?_⟩)⟩))
    rcases q with ⟨c, rfl, hc, q⟩ | ⟨hS, q⟩
    · rw [inV_nats, decide_eq_true hc]
      refine iteF (exq rfl (exq rfl ⟨wb, p, ts, g, rfl, hw.same s1, fun D2 H2 hn2 s2 hD2 => (exq rfl ⟨wb, p, ts, g, D2, c, rfl, hw.same (s1.trans s2), hD2, (RM.chords_mem.mp hc).1, q _ (s1.trans s2)⟩)⟩))
    · rw [inV_no hS]
      exact iteT ⟨dl rfl, q _ s1⟩
end

def sp_common : Sp := fun vs H Q _ => ∃ S1 S2, ∃ a b : Nat, vs = [.int S1, .int S2] ∧ S1 = (a : Int) ∧ S2 = (b : Int) ∧ Builtin.Int.intBits ((a &&& b : Nat) : Int) ≤ 1000 ∧ ∀ H', Same H H' → Q (.int (((tiesOf ((a &&& b : Nat) : Int)).length : Nat) : Int)) H'
def sp_bears : Sp := fun vs H Q _ => ∃ S1 S2, ∃ a b : Nat, vs = [.int S1, .int S2] ∧ S1 = (a : Int) ∧ S2 = (b : Int) ∧ Builtin.Int.intBits ((a &&& b : Nat) : Int) ≤ 1000 ∧ ∀ H', Same H H' → Q (.bl (decide ((tiesOf ((a &&& b : Nat) : Int)).length % 2 = 1))) H'
structure Side (p : Nat) (xs : List Nat) : Prop where
  up : xs.Pairwise (· < ·)
  lt : ∀ x ∈ xs, x < p
def sp_is_side : Sp := fun vs H Q _ => ∃ w p ts, ∃ (l : Addr) (xs : List Nat), vs = [.ref w, .ref l] ∧ WebAt H w p ts ∧ H l = some (.lst (natsV xs)) ∧ Side p xs ∧ Q (.bl true) H
def sp_set_of : Sp := fun vs H Q _ => ∃ w p ts, ∃ (l : Addr) (ks : List Nat), vs = [.ref w, .ref l] ∧ WebAt H w p ts ∧ Web p ts ∧ H l = some (.lst (natsV ks)) ∧ (∀ k ∈ ks, k < ts.length) ∧ Q (.int ((orM ks : Nat) : Int)) H
def sp_cut_of : Sp := fun vs H Q _ => ∃ w p ts, ∃ g : GoodWeb p ts, ∃ (l : Addr) (xs : List Nat), vs = [.ref w, .ref l] ∧ WebAt H w p ts ∧ H l = some (.lst (natsV xs)) ∧ Side p xs ∧
  ∀ H', Same H H' → Q (.int (((netOf p ts g).cut (fun x => decide (x ∈ xs)) : Nat) : Int)) H'
theorem side_filter (p : Nat) (f : Nat → Bool) : Side p ((List.range p).filter f) := ⟨pair_range, fun x hx => List.mem_range.mp (List.mem_filter.mp hx).1⟩
theorem len_mod (n : Nat) : decide (V.int (((n : Nat) : Int) % 2) = V.int 1) = decide (n % 2 = 1) := decide_eq_decide.mpr ⟨fun z => by have := V.int.inj z; (first | lia | omega), fun z => congrArg V.int (by (first | lia | omega))⟩
section
variable {P : Program} {w : World} {K : PySem.W.Frag} {mg : Str → Option Value} {base : Heap} {a : Adr}
theorem G_common (T : Txt K mg a) : FnOk P w K mg base CX0 3 a.f_common a.d_common ["one", "other"] sp_common := by
  have G_ties_in : FnOk P w K mg base CX0 2 a.f_ties_in a.d_ties_in ["tie_set"] sp_ties_in := G_ties_in T
  refine T.F_common.ok sc_common (fun vs H Q E h => ?_) (fun cdv A outer s H vs Q E hr h => ?_)
  · obtain ⟨S1, S2, u, v, rfl, _⟩ := h
    rfl
  · obtain ⟨S1, S2, u, v, rfl, rfl, rfl, hb, q⟩ := h
    refine ⟨_, (pss_one (ps_ret (pe_callB (lenK K) (by rfl) T.n_len PySem.boot_len (pa_cons (pe_call G_ties_in (hr.mono (by decide)) (by rfl) T.m_ties_in T.k_ties_in T.b_ties_in .nil pass0 (pa_cons (pe_op op_and (pv 0) (pv 1)) pa_nil)) pa_nil)))), ?_⟩
    refine (exq rfl (exq rfl (ijq ⟨u &&& v, ?_, hb, fun D H1 hn s1 hD => (lnq rfl (.inl (SqL.of hD)) (?_))⟩)))
    · show [V.int (Builtin.bitAnd _ _)] = _
      rw [and_int]
    · rw [natsV_len]
      exact q H1 s1
theorem G_bears_oddly (T : Txt K mg a) : FnOk P w K mg base CX0 4 a.f_bears_oddly a.d_bears_oddly ["tie_set", "marks"] sp_bears := by
  have G_common : FnOk P w K mg base CX0 3 a.f_common a.d_common ["one", "other"] sp_common := G_common T
  refine T.F_bears_oddly.ok sc_bears_oddly (fun vs H Q E h => ?_) (fun cdv A outer s H vs Q E hr h => ?_)
  · obtain ⟨S1, S2, u, v, rfl, _⟩ := h
    rfl
  · obtain ⟨S1, S2, u, v, rfl, rfl, rfl, hb, q⟩ := h
    refine ⟨_, (pss_one (ps_ret (pe_cmpR op_eq (pe_op op_mod (pe_call G_common (hr.mono (by decide)) (by rfl) T.m_common T.k_common T.b_common .nil pass0 (pa_cons (pv 0) (pa_cons (pv 1) pa_nil))) pe_int) pe_int (nomark _)))), ?_⟩
    refine (exq rfl (exq rfl ⟨_, _, u, v, rfl, rfl, rfl, hb, fun H1 s1 => (ijq ⟨(modC rfl), rfl, ?_⟩)⟩))
    rw [len_mod]
    exact q H1 s1
theorem G_is_side (T : Txt K mg a) : FnOk P w K mg base CX0 1 a.f_is_side a.d_is_side ["web", "side"] sp_is_side := by
  refine T.F_is_side.ok sc_is_side (fun vs H Q E h => ?_) (fun cdv A outer s H vs Q E hr h => ?_)
  · obtain ⟨w, p, ts, l, xs, rfl, _⟩ := h
    rfl
  · obtain ⟨wb, p, ts, l, zs, rfl, hw, hl, sd, q⟩ := h
    refine ⟨_, (pss_cons (ps_set (i := 2) sc_is_side.nd rfl (Or.inl rfl) (pe_un un_neg pe_int))
      (pss_cons (ps_for PassesOwn.never rfl (piL K (pv 1)) (pg_name (i := 3) sc_is_side.nd rfl (Or.inl rfl))
      (pss_cons (ps_if (PW.pt (pw_or (pt_cmpR op_le (pv 3) (pv 2) (nomark _)) (pw_or1 (pt_cmpR op_ge (pv 3) (pe_ix (ixT K) (pv 0) pe_int (fun _ _ => rfl)) (nomark _))))) (pss_one (ps_ret pe_bl)) pss_nil)
      (pss_one (ps_set (i := 2) sc_is_side.nd rfl (Or.inl rfl) (pv 3)))))
      (pss_one (ps_ret pe_bl)))), ?_⟩
    refine hd_is_side ?_
    intro zz0 zz1 zz2 zz3 zz4
    obtain ⟨bt, xs, h1, h2, h3⟩ := id hw.ex
    refine (exq rfl (exq rfl ⟨l, rfl, ⟨_, SqL.of hl⟩, for_list (K := K) (a := l) (xs := natsV zs) (fun i σ H2 => ∃ z v3, σ = [some (.ref wb), some (.ref l), some (.int z), v3] ∧ H2 = H ∧ ∀ x ∈ zs.drop i, z < (x : Int)) ⟨_, none, rfl, rfl, fun x _ => by show (-1 : Int) < _; (first | lia | omega)⟩ (fun i σ H2 _ ⟨_, _, _, z, _⟩ => by rw [z]; exact SqL.of hl) ?_ ?_⟩))
    · rintro i y σ H2 hy ⟨z, v3, rfl, rfl, hz⟩
      obtain ⟨x, hx, rfl⟩ := natsV_get hy
      have hdr : zs.drop i = x :: zs.drop (i + 1) := by
        obtain ⟨hi, e⟩ := List.getElem?_eq_some_iff.mp hx
        rw [List.drop_eq_getElem_cons hi, e]
      have hzx := hz x (by rw [hdr]; exact List.mem_cons_self)
      have hxp := sd.lt x (List.mem_of_getElem? hx)
      refine (exq rfl (exq rfl (ijq (exq rfl (iteD (by (first | lia | omega)) (exq rfl (exq rfl (ixq (SqT.of h1) (atI_nat (j := 0) rfl) (ijq (exq rfl (iteD (by (first | lia | omega)) ?_)))))))))))
      refine (exq rfl ⟨(x : Int), exq rfl ⟨rfl, fun y hy => ?_⟩⟩)
      have pw : (zs.drop i).Pairwise (· < ·) := sd.up.sublist (List.drop_sublist _ _)
      rw [hdr] at pw
      have := (List.pairwise_cons.mp pw).1 y hy
      (first | lia | omega)
    · rintro σ H2 ⟨z, v3, rfl, rfl, _⟩
      exact q
theorem G_set_of (T : Txt K mg a) : FnOk P w K mg base CX0 1 a.f_set_of a.d_set_of ["web", "ties"] sp_set_of := by
  refine T.F_set_of.ok sc_set_of (fun vs H Q E h => ?_) (fun cdv A outer s H vs Q E hr h => ?_)
  · obtain ⟨w, p, ts, l, ks, rfl, _⟩ := h
    rfl
  · obtain ⟨wb, p, ts, l, ks, rfl, hw, W, hl, hk, q⟩ := h
    refine ⟨_, (pss_cons (ps_set (i := 2) sc_set_of.nd rfl (Or.inl rfl) pe_int)
      (pss_cons (ps_for PassesOwn.never rfl (piL K (pv 1)) (pg_name (i := 3) sc_set_of.nd rfl (Or.inl rfl))
      (pss_cons (ps_if (PW.pt (pw_or (pt_cmpR op_lt (pv 3) pe_int (nomark _)) (pw_or1 (pt_cmpR op_ge (pv 3) (pe_callB (lenK K) (by rfl) T.n_len PySem.boot_len (pa_cons (pe_ix (ixT K) (pv 0) pe_int (fun _ _ => rfl)) pa_nil)) (nomark _))))) pss_never pss_nil)
      (pss_one (ps_aug (i := 2) sc_set_of.nd rfl (Or.inl rfl) (pe_op op_shl pe_int (pv 3)) iop_or))))
      (pss_one (ps_ret (pv 2))))), ?_⟩
    refine hd_set_of ?_
    intro zz0 zz1 zz2 zz3 zz4
    obtain ⟨bt, xs, h1, h2, h3⟩ := id hw.ex
    have hxl := h3.length
    have wl := W.len
    refine (exq rfl ⟨l, rfl, ⟨_, SqL.of hl⟩, for_list (K := K) (a := l) (xs := natsV ks) (fun i σ H2 => ∃ v3, σ = [some (.ref wb), some (.ref l), some (.int ((orM (ks.take i) : Nat) : Int)), v3] ∧ H2 = H) ⟨none, rfl, rfl⟩ (fun i σ H2 _ ⟨_, _, z⟩ => by rw [z]; exact SqL.of hl) ?_ ?_⟩)
    · rintro i x σ H2 hx ⟨v3, rfl, rfl⟩
      obtain ⟨k, hki, rfl⟩ := natsV_get hx
      have hkn := hk k (List.mem_of_getElem? hki)
      refine (exq rfl (ijq (exq rfl (iteD (by (first | lia | omega)) (exq rfl (exq rfl (ixq (SqT.of h1) (atI_nat (j := 1) rfl) (lnq rfl (.inr (SqT.of h2)) (ijq (exq rfl (iteD (by (first | lia | omega)) ?_)))))))))))
      refine (exq rfl (exq rfl (ijq ⟨⟨by (first | lia | omega), by (first | lia | omega), by decide⟩, ijq ⟨some (.int (k : Int)), ?_, rfl⟩⟩)))
      show [_, _, some (V.int (Builtin.bitOr _ (1 * 2 ^ (k : Int).toNat))), _] = _
      rw [shl_int, or_int, List.take_add_one, hki]
      unfold Ring.orM
      rw [List.foldl_append]
      rfl
    · rintro σ H2 ⟨v3, rfl, rfl⟩
      rw [natsV_len, List.take_length]
      exact (exq rfl (q))
theorem G_cut_of (T : Txt K mg a) : FnOk P w K mg base CX0 2 a.f_cut_of a.d_cut_of ["web", "side"] sp_cut_of := by
  have G_is_side : FnOk P w K mg base CX0 1 a.f_is_side a.d_is_side ["web", "side"] sp_is_side := G_is_side T
  have G_set_of : FnOk P w K mg base CX0 1 a.f_set_of a.d_set_of ["web", "ties"] sp_set_of := G_set_of T
  refine T.F_cut_of.ok sc_cut_of (fun vs H Q E h => ?_) (fun cdv A outer s H vs Q E hr h => ?_)
  · obtain ⟨w, p, ts, g, l, xs, rfl, _⟩ := h
    rfl
  · obtain ⟨wb, p, ts, g, l, zs, rfl, hw, hl, sd, q⟩ := h
    refine ⟨_, (pss_cons (ps_if (pt_not (pt_val (pe_call G_is_side (hr.mono (by decide)) (by rfl) T.m_is_side T.k_is_side T.b_is_side .nil pass0 (pa_cons (pv 0) (pa_cons (pv 1) pa_nil))))) pss_never pss_nil)
      (pss_one (ps_ret (pe_call G_set_of (hr.mono (by decide)) (by rfl) T.m_set_of T.k_set_of T.b_set_of .nil pass0 (pa_cons (pv 0) (pa_cons (pe_comp (own := ["k", "tie"]) (frees := ["side"]) (js := [1]) (compText_of (defScope s_cut_of) ["web", "side"]) rfl (pi_enumT K (by rfl) T.n_enumerate (pa_cons (pe_ix (ixT K) (pv 0) pe_int (fun _ _ => rfl)) pa_nil)) (fun _ _ _ _ => (pgT K (n := 2) rfl (pgs_cons (pg_name (i := 0) (show (["k", "tie", "side"] : List Str).Nodup by decide +kernel) rfl (Or.inl rfl)) (pgs_cons (pg_name (i := 1) (show (["k", "tie", "side"] : List Str).Nodup by decide +kernel) rfl (Or.inl rfl)) pgs_nil)))) (fun _ _ _ _ => (pts_one (pt_cmpR op_ne (pe_cmpR (inK K) (pe_ix (ixT K) (pv 1) pe_int (fun _ _ => rfl)) (pv 2) (by with_unfolding_all rfl)) (pe_cmpR (inK K) (pe_ix (ixT K) (pv 1) pe_int (fun _ _ => rfl)) (pv 2) (by with_unfolding_all rfl)) (nomark _)))) (fun _ _ _ _ => (pv 0))) pa_nil)))))), ?_⟩
    refine hd_cut_of ?_
    intro zz0 zz1
    obtain ⟨bt, xs, h1, h2, h3⟩ := id hw.ex
    have hxl := h3.length
    have wl := g.len
    refine (exq rfl (exq rfl ⟨wb, p, ts, l, zs, rfl, hw, hl, sd, _, rfl, iteF ?_⟩))
    refine (exq rfl (exq rfl (ixq (SqT.of h1) (atI_nat (j := 1) rfl) ⟨bt, rfl, ⟨_, SqT.of h2⟩, fun D hD => comp_enumT (xs := xs) (Pick (fun k => decide ((netOf p ts g).a k ∈ zs) ^^ decide ((netOf p ts g).b k ∈ zs)) H D) (.start hD) (fun i acc H2 _ pk => ⟨SqT.of (pk.1 _ _ h2), pk.len⟩) (small24 (by (first | lia | omega))) ?_ ?_⟩)))
    · intro i x T0 acc H2 hx pk hT
      have hi : i < ts.length := by have := (List.getElem?_eq_some_iff.mp hx).1; (first | lia | omega)
      obtain ⟨b, hxb, hct⟩ := tie_at (g := g) h3 hi
      rw [hx] at hxb
      cases hxb
      have hct2 : upd H2 T0 (.tup [.int (i : Int), .ref b]) b = some _ := Same.new hT _ _ (pk.1 _ _ hct)
      have hl2 : upd H2 T0 (.tup [.int (i : Int), .ref b]) l = some _ := Same.new hT _ _ (pk.1 _ _ hl)
      refine ⟨T0, _, rfl, SqT.of upd_same, rfl, _, _, rfl, _, _, rfl, rfl, rfl, ?_⟩
      refine (exq rfl (ixq (SqT.of hct2) (atI_nat (j := 0) rfl) (exq rfl (lnq rfl (.inl (SqL.of hl2)) ⟨rfl, flat_nats _, _, rfl, ixq (SqT.of hct2) (atI_nat (j := 1) rfl) (exq rfl (lnq rfl (.inl (SqL.of hl2)) ⟨rfl, flat_nats _, rfl, exq rfl (?_)⟩))⟩))))
      rw [inV_nats, inV_nats]
      cases e1 : decide ((netOf p ts g).a i ∈ zs) <;> cases e2 : decide ((netOf p ts g).b i ∈ zs)
      · exact pk.no (Same.new hT) (by rw [e1, e2]; rfl)
      · exact (exq rfl (pk.yes hD (Same.new hT) (by rw [e1, e2]; rfl)))
      · exact (exq rfl (pk.yes hD (Same.new hT) (by rw [e1, e2]; rfl)))
      · exact pk.no (Same.new hT) (by rw [e1, e2]; rfl)
    · intro acc H2 pk
      refine ⟨wb, p, ts, D, _, rfl, hw.same pk.1, g.web, by rw [pk.2.1, pk.2.2], fun k hk => ?_, ?_⟩
      · have := List.mem_range.mp (List.mem_filter.mp hk).1
        (first | lia | omega)
      · rw [orM_filter, hxl]
        exact q H2 pk.1
end

def sideL (p : Nat) (ts : List Tie) (g : GoodWeb p ts) (m : Nat) : List Nat := (List.range p).filter fun x => (netOf p ts g).par ((netOf p ts g).trail ts.length x) m
def Told (p : Nat) (ts : List Tie) (g : GoodWeb p ts) (m : Nat) (H H' : Hp) (t : Addr) : Prop :=
  (m = (netOf p ts g).cut (fun x => decide (x ∈ sideL p ts g m)) ∧ ∃ l, H l = none ∧ H' t = some (.tup [.str "side", .ref l]) ∧ H' l = some (.lst (natsV (sideL p ts g m)))) ∨
  (∃ c, c ∈ (netOf p ts g).chords ∧ (netOf p ts g).par ((netOf p ts g).ring c) m = true ∧ H' t = some (.tup [.str "ring", .int (((netOf p ts g).ring c : Nat) : Int)]))
def sp_side_of (C : Addr) : Sp := fun vs H Q E => ∃ w p ts, ∃ g : GoodWeb p ts, ∃ S, vs = [.ref w, .int S] ∧ WebAt H w p ts ∧ OrBad ts S (E (.ref C) none H) fun m => ∀ t H', H t = none → Same H H' → Told p ts g m H H' t → Q (.ref t) H'
theorem side_cut {p : Nat} {ts : List Tie} {g : GoodWeb p ts} {m : Nat} : (netOf p ts g).cut (fun x => decide (x ∈ sideL p ts g m)) = (netOf p ts g).cut fun x => (netOf p ts g).par ((netOf p ts g).trail (netOf p ts g).n x) m := RM.cut_congr fun x hx => by
  unfold sideL
  rw [Bool.eq_iff_iff, decide_eq_true_eq, List.mem_filter, List.mem_range]
  exact ⟨fun z => z.2, fun z => ⟨hx, z⟩⟩
theorem ties_first {m : Nat} (h : m ≠ 0) : ∃ c, (tiesOf (m : Int))[0]? = some c ∧ m.testBit c = true := by
  obtain ⟨k, hk⟩ := Nat.exists_testBit_of_ne_zero h
  have hm : k ∈ tiesOf (m : Int) := by
    unfold tiesOf
    refine List.mem_filter.mpr ⟨List.mem_range.mpr (Nat.lt_of_not_le fun z => ?_), by rw [bit_nat]; exact hk⟩
    have := bit_high z
    rw [bit_nat, hk] at this
    cases this
  cases e : tiesOf (m : Int) with
  | nil =>
    rw [e] at hm
    cases hm
  | cons c r =>
    have hc : c ∈ tiesOf (m : Int) := by rw [e]; exact List.mem_cons_self
    unfold tiesOf at hc
    have := (List.mem_filter.mp hc).2
    rw [bit_nat] at this
    exact ⟨c, rfl, this⟩
theorem xor_zero_eq {u v : Nat} (h : u ^^^ v = 0) : u = v := by
  have := congrArg (fun x => x ^^^ v) h
  simpa [Nat.xor_assoc] using this
theorem dec_zero (n : Nat) : decide (V.int ((n : Nat) : Int) = V.int 0) = decide (n = 0) := decide_eq_decide.mpr ⟨fun z => by have := V.int.inj z; (first | lia | omega), fun z => by rw [z]; rfl⟩
section
variable {P : Program} {w : World} {K : PySem.W.Frag} {mg : Str → Option Value} {base : Heap} {a : Adr}
theorem G_side_of (T : Txt K mg a) : FnOk P w K mg base (CX1 P w) 6 a.f_side_of a.d_side_of ["web", "tie_set"] (sp_side_of a.c_BadSet) := by
  have G_check_set : FnOk P w K mg base (CX1 P w) 3 a.f_check_set a.d_check_set ["web", "tie_set"] (sp_check_set a.c_BadSet) := G_check_set T
  have G_forest_trails : FnOk P w K mg base CX0 2 a.f_forest_trails a.d_forest_trails ["web"] sp_trails := G_forest_trails T
  have G_bears_oddly : FnOk P w K mg base CX0 4 a.f_bears_oddly a.d_bears_oddly ["tie_set", "marks"] sp_bears := G_bears_oddly T
  have G_cut_of : FnOk P w K mg base CX0 2 a.f_cut_of a.d_cut_of ["web", "side"] sp_cut_of := G_cut_of T
  have G_ties_in : FnOk P w K mg base CX0 2 a.f_ties_in a.d_ties_in ["tie_set"] sp_ties_in := G_ties_in T
  have G_chord_ring : FnOk P w K mg base (CX1 P w) 5 a.f_chord_ring a.d_chord_ring ["web", "tie"] (sp_chord_ring a.c_NoChord) := G_chord_ring T
  refine T.F_side_of.ok1 sc_side_of (fun vs H Q E h => ?_) (fun cdv A outer s H vs Q E hr h => ?_)
  · obtain ⟨w, p, ts, g, S, rfl, _⟩ := h
    rfl
  · obtain ⟨wb, p, ts, g, S, rfl, hw, q⟩ := h
    refine ⟨_, (pss_cons (ps_expr (pe_call G_check_set (hr.mono (by decide)) (by rfl) T.m_check_set T.k_check_set T.b_check_set .nil out_of.passes (pa_cons (pv 0) (pa_cons (pv 1) pa_nil))))
      (pss_cons (ps_set (i := 2) sc_side_of.nd rfl (Or.inr rfl) (pe_call G_forest_trails (hr.mono (by decide)) (by rfl) T.m_forest_trails T.k_forest_trails T.b_forest_trails .nil pass0 (pa_cons (pv 0) pa_nil)))
      (pss_cons (ps_comp (i := 3) sc_side_of.nd rfl rfl (own := ["point"]) (frees := ["tie_set", "trails"]) (js := [1, 2]) (compText_of (defScope s_side_of) ["web", "tie_set", "trails", "side", "amiss"]) rfl (pi_range1 (by rfl) T.n_range (pa_cons (pe_ix (ixT K) (pv 0) pe_int (fun _ _ => rfl)) pa_nil)) (fun _ _ _ _ => (pg_name (i := 0) (show (["point", "tie_set", "trails"] : List Str).Nodup by decide +kernel) rfl (Or.inl rfl))) (fun _ _ _ _ => (pts_one (pt_val (pe_call G_bears_oddly (hr.mono (by decide)) (by rfl) T.m_bears_oddly T.k_bears_oddly T.b_bears_oddly .nil pass0 (pa_cons (pe_ix (ixL K) (pv 2) (pv 0) (fun _ _ => rfl)) (pa_cons (pv 1) pa_nil)))))) (fun _ _ _ _ => (pv 0)))
      (pss_cons (ps_set (i := 4) sc_side_of.nd rfl (Or.inl rfl) (pe_op op_xor (pv 1) (pe_call G_cut_of (hr.mono (by decide)) (by rfl) T.m_cut_of T.k_cut_of T.b_cut_of .nil pass0 (pa_cons (pv 0) (pa_cons (pv 3) pa_nil)))))
      (pss_cons (ps_if (pt_cmpR op_eq (pv 4) pe_int (nomark _)) (pss_one (ps_ret (pe_tup (pa_cons pe_str (pa_cons (pv 3) pa_nil))))) pss_nil)
      (pss_one (ps_ret (pe_tup (pa_cons pe_str (pa_cons (pe_call G_chord_ring (hr.mono (by decide)) (by rfl) T.m_chord_ring T.k_chord_ring T.b_chord_ring .nil out_of.passes (pa_cons (pv 0) (pa_cons (pe_ix (ixL K) (pe_call G_ties_in (hr.mono (by decide)) (by rfl) T.m_ties_in T.k_ties_in T.b_ties_in .nil pass0 (pa_cons (pv 4) pa_nil)) pe_int (fun _ _ => rfl)) pa_nil))) pa_nil)))))))))), ?_⟩
    refine hd_side_of ?_
    intro zz0 zz1 zz2 zz3 zz4 zz5
    obtain ⟨bt, xs, h1, h2, h3⟩ := id hw.ex
    have wl := g.len
    have wp := g.p2
    have W := g.web
    rcases q with ⟨m, rfl, hm, q⟩ | ⟨hS, q⟩
    case inr => exact (exq rfl (exq rfl ⟨wb, p, ts, _, rfl, hw, W, .inr ⟨hS, q⟩⟩))
    refine (exq rfl (exq rfl ⟨wb, p, ts, _, rfl, hw, W, .inl ⟨m, rfl, hm, ?_⟩⟩))
    refine (exq rfl ⟨wb, p, ts, g, rfl, hw, fun D H1 hn1 s1 hD => ?_⟩)
    refine (exq rfl (ixq (SqT.of (s1 _ _ h1)) (atI_nat (j := 0) rfl) (exq rfl ⟨(by (first | lia | omega)), (by (first | lia | omega)), fun C hC => comp_range (lo := 0) (m := (p : Int).toNat) (Pick (fun x => (netOf p ts g).par ((netOf p ts g).trail ts.length x) m) H1 C) (.start hC) (fun i acc H2 _ pk => pk.len) (small24 (by (first | lia | omega))) ?_ ?_⟩)))
    · intro i acc H2 hi pk
      rw [Int.toNat_natCast] at hi
      rw [Int.zero_add]
      have hbits : Builtin.Int.intBits (((netOf p ts g).trail ts.length i &&& m : Nat) : Int) ≤ 1000 := Nat.le_trans (bits_le (Nat.and_lt_two_pow _ hm)) (by (first | lia | omega))
      refine ⟨rfl, exq rfl (exq rfl (ixl (SqL.of (pk.1 _ _ hD)) (atI_nat (j := i) (mapV_get hi)) (exq rfl ⟨_, _, (netOf p ts g).trail ts.length i, m, rfl, rfl, rfl, hbits, fun H3 s3 => (exq rfl (?_))⟩)))⟩
      rw [par_len (g := g) hm]
      cases hb : (netOf p ts g).par ((netOf p ts g).trail ts.length i) m with
      | true => exact (exq rfl (pk.yes hC s3 hb))
      | false => exact pk.no s3 hb
    · intro acc H2 pk
      have hC2 : H2 C = some (.lst (natsV (sideL p ts g m))) := by rw [pk.2.1, pk.2.2, Int.toNat_natCast]; rfl
      have s12 := s1.trans pk.1
      refine (exq rfl (exq rfl (exq rfl ⟨wb, p, ts, g, C, _, rfl, hw.same s12, hC2, side_filter p _, fun H3 s3 => (ijq (?_))⟩)))
      have s13 := s12.trans s3
      dsimp only
      rw [xor_int, side_cut]
      have ac := fun k => RM.amiss_chord (N := netOf p ts g) (m := m) (k := k) hm
      have hlt : (m ^^^ (netOf p ts g).cut fun x => (netOf p ts g).par ((netOf p ts g).trail (netOf p ts g).n x) m) < 2 ^ ts.length := Nat.xor_lt_two_pow hm (RM.cut_lt _)
      have hz : (m ^^^ (netOf p ts g).cut fun x => (netOf p ts g).par ((netOf p ts g).trail (netOf p ts g).n x) m) = 0 → m = (netOf p ts g).cut (fun x => decide (x ∈ sideL p ts g m)) := fun z => by rw [side_cut]; exact xor_zero_eq z
      generalize (m ^^^ (netOf p ts g).cut fun x => (netOf p ts g).par ((netOf p ts g).trail (netOf p ts g).n x) m) = A at ac hlt hz
      refine (exq rfl ⟨rfl, exq rfl (?_)⟩)
      rw [dec_zero]
      by_cases hA : A = 0
      · rw [decide_eq_true hA]
        refine iteT (exq rfl ⟨dl rfl, fun t ht => q t _ (s13.free ht) (s13.trans (Same.new ht)) (.inl ⟨hz hA, C, s1.free hC, upd_same, Same.new ht _ _ (s3 _ _ hC2)⟩)⟩)
      · rw [decide_eq_false hA]
        obtain ⟨c, hc0, hcb⟩ := ties_first hA
        obtain ⟨hcn, hcf, hcp⟩ := ac c hcb
        refine iteF (exq rfl (exq rfl ⟨A, rfl, Nat.le_trans (bits_le hlt) (by (first | lia | omega)), fun D4 H4 hn4 s4 hD4 => (ixl (SqL.of hD4) (atI_nat (j := 0) (nats_at hc0)) ⟨wb, p, ts, g, _, rfl, hw.same (s13.trans s4), .inl ⟨c, rfl, RM.chords_mem.mpr ⟨hcn, hcf⟩, fun H5 s5 => ⟨dl rfl, fun t ht => ?_⟩⟩⟩)⟩))
        have s15 := (s13.trans s4).trans s5
        exact q t _ (s15.free ht) (s15.trans (Same.new ht)) (.inr ⟨c, RM.chords_mem.mpr ⟨hcn, hcf⟩, hcp, upd_same⟩)
end

def sp_cell (K : PySem.W.Frag) : Sp := fun vs H Q _ => ∃ (a : Addr) (ns : List Int) (k : Nat), vs = [.ref a, .int (k : Int)] ∧ SqL K H a (ns.map V.int) ∧ ∀ z, Q (.int z) H
def sp_turn : Sp := fun vs H Q _ => ∃ c, vs = [.int c] ∧ ∀ z, 0 ≤ z → z < 1000000007 → Q (.int z) H
def sp_tie : Sp := fun vs H Q _ => ∃ (c : Int) (p : Nat) (y : Int), vs = [.int c, .int (p : Int), .int y] ∧ 2 ≤ p ∧ p ≤ 10 ∧ ∀ t b H', Same H H' → GoodTie (p : Int) t → H' b = some (.tup (tieV t)) → Q (.ref b) H'
def sp_web (K : PySem.W.Frag) : Sp := fun vs H Q _ => ∃ (a : Addr) (ns : List Int), vs = [.ref a, .int 24] ∧ SqL K H a (ns.map V.int) ∧ ns.length ≤ 63 ∧ ∀ w p ts H', Same H H' → GoodWeb p ts → WebAt H' w p ts → Q (.ref w) H'
theorem pick3 (y : Int) : ∃ m, atI [V.int 9, .int 1, .int (10 ^ (30 : Int).toNat)] (y / 2 % 3) = some (.int m) ∧ 1 ≤ m ∧ m ≤ 1000000000000000000000000000000 := by
  obtain ⟨h0, h1⟩ := emod2 (y / 2) 3 (by decide)
  generalize y / 2 % 3 = i at h0 h1
  have hi : i = 0 ∨ i = 1 ∨ i = 2 := by (first | lia | omega)
  rcases hi with rfl | rfl | rfl
  · exact ⟨9, atI_nat (j := 0) rfl, by decide, by decide⟩
  · exact ⟨1, atI_nat (j := 1) rfl, by decide, by decide⟩
  · exact ⟨10 ^ (30 : Int).toNat, atI_nat (j := 2) rfl, by decide, by decide⟩
theorem pick8 (y : Int) : ∃ m : Nat, atI [V.int 1, .int 2, .int 3, .int 4, .int 5, .int 6, .int 4, .int 10] (y % 8) = some (.int (m : Int)) ∧ 1 ≤ m ∧ m ≤ 10 := by
  obtain ⟨h0, h1⟩ := emod2 y 8 (by decide)
  generalize y % 8 = i at h0 h1
  have hi : i = 0 ∨ i = 1 ∨ i = 2 ∨ i = 3 ∨ i = 4 ∨ i = 5 ∨ i = 6 ∨ i = 7 := by (first | lia | omega)
  rcases hi with rfl | rfl | rfl | rfl | rfl | rfl | rfl | rfl
  · exact ⟨1, atI_nat (j := 0) rfl, by decide, by decide⟩
  · exact ⟨2, atI_nat (j := 1) rfl, by decide, by decide⟩
  · exact ⟨3, atI_nat (j := 2) rfl, by decide, by decide⟩
  · exact ⟨4, atI_nat (j := 3) rfl, by decide, by decide⟩
  · exact ⟨5, atI_nat (j := 4) rfl, by decide, by decide⟩
  · exact ⟨6, atI_nat (j := 5) rfl, by decide, by decide⟩
  · exact ⟨4, atI_nat (j := 6) rfl, by decide, by decide⟩
  · exact ⟨10, atI_nat (j := 7) rfl, by decide, by decide⟩
section
variable {P : Program} {w : World} {K : PySem.W.Frag} {mg : Str → Option Value} {base : Heap} {a : Adr}
theorem G_law_cell (T : Txt K mg a) : FnOk P w K mg base CX0 1 a.f_law_cell a.d_law_cell ["script", "k"] (sp_cell K) := by
  refine T.F_law_cell.ok sc_law_cell (fun vs H Q E h => ?_) (fun cdv A outer s H vs Q E hr h => ?_)
  · obtain ⟨b, ns, k, rfl, _⟩ := h
    rfl
  · obtain ⟨b, ns, k, rfl, hS, q⟩ := h
    refine ⟨_, (pss_cons (ps_if (pt_cmpR op_lt (pv 1) (pe_callB (lenK K) (by rfl) T.n_len PySem.boot_len (pa_cons (pv 0) pa_nil)) (nomark _)) (pss_one (ps_ret (pe_ix (ixL K) (pv 0) (pv 1) (fun _ _ => rfl)))) pss_nil)
      (pss_one (ps_ret pe_int))), ?_⟩
    refine hd_law_cell ?_
    intro zz0 zz1
    refine (exq rfl (exq rfl ⟨b, _, rfl, .inl hS, _, _, rfl, rfl, exq rfl (ite2 (fun hlt => ?_) (fun _ => q 0))⟩))
    have hlt := of_decide_eq_true hlt
    rw [List.length_map] at hlt
    exact (exq rfl (exq rfl ⟨b, _, _, _, rfl, rfl, hS, atI_nat (j := k) (ints_at (by (first | lia | omega))), q _⟩))
theorem G_law_turn (T : Txt K mg a) : FnOk P w K mg base CX0 1 a.f_law_turn a.d_law_turn ["cell"] sp_turn := by
  refine T.F_law_turn.ok sc_law_turn (fun vs H Q E h => ?_) (fun cdv A outer s H vs Q E hr h => ?_)
  · obtain ⟨c, rfl, _⟩ := h
    rfl
  · obtain ⟨c, rfl, k⟩ := h
    refine ⟨_, (pss_cons (ps_set (i := 1) sc_law_turn.nd rfl (Or.inl rfl) (pe_op op_mod (pe_op op_mul (pe_op op_add (pe_op op_mod (pv 0) (pe_op op_pow pe_int pe_int)) pe_int) pe_int) pe_int))
      (pss_one (ps_ret (pe_op op_fdiv (pe_op op_mod (pe_op op_mul (pv 1) (pv 1)) pe_int) pe_int)))), ?_⟩
    refine hd_law_turn ?_
    intro zz0
    refine (exq rfl (ijq ⟨⟨by decide, by decide, by decide⟩, ijq ⟨(modC rfl), ijq (ijq ⟨.inr ⟨by decide, by decide⟩, ijq ⟨(modC rfl), ?_⟩⟩)⟩⟩))
    have h0 := emod2 ((c % 10 ^ (60 : Int).toNat + 1) * 69621) 2147483647 (by decide)
    refine (exq rfl (exq rfl (ijq ⟨.inl ⟨by have := h0.1; (first | lia | omega), by have := h0.2; (first | lia | omega)⟩, ijq ⟨(modC rfl), ijq ⟨⟨by decide, by decide⟩, ?_⟩⟩⟩)))
    have h1 := emod2 ((c % 10 ^ (60 : Int).toNat + 1) * 69621 % 2147483647 * ((c % 10 ^ (60 : Int).toNat + 1) * 69621 % 2147483647)) 1000000007 (by decide)
    exact k _ (Int.ediv_nonneg h1.1 (by decide)) (Int.lt_of_le_of_lt (Int.ediv_le_self _ h1.1) h1.2)
theorem G_law_tie (T : Txt K mg a) : FnOk P w K mg base CX0 2 a.f_law_tie a.d_law_tie ["cell", "points", "way"] sp_tie := by
  have G_law_turn : FnOk P w K mg base CX0 1 a.f_law_turn a.d_law_turn ["cell"] sp_turn := G_law_turn T
  refine T.F_law_tie.ok sc_law_tie (fun vs H Q E h => ?_) (fun cdv A outer s H vs Q E hr h => ?_)
  · obtain ⟨c, p, y, rfl, _⟩ := h
    rfl
  · obtain ⟨c, p, y, rfl, hp1, hp2, k⟩ := h
    refine ⟨_, (pss_cons (ps_set (i := 3) sc_law_tie.nd rfl (Or.inl rfl) (pv 0))
      (pss_cons (ps_if (pt_cmpR op_eq (pe_op op_mod (pv 2) pe_int) pe_int (nomark _)) (pss_one (ps_set (i := 3) sc_law_tie.nd rfl (Or.inl rfl) (pe_op op_add (pe_op op_mul (pe_call G_law_turn (hr.mono (by decide)) (by rfl) T.m_law_turn T.k_law_turn T.b_law_turn .nil pass0 (pa_cons (pv 0) pa_nil)) pe_int) (pe_call G_law_turn (hr.mono (by decide)) (by rfl) T.m_law_turn T.k_law_turn T.b_law_turn .nil pass0 (pa_cons (pe_op op_add (pv 0) pe_int) pa_nil))))) pss_nil)
      (pss_cons (ps_set (i := 4) sc_law_tie.nd rfl (Or.inl rfl) (pe_op op_mod (pv 3) (pv 1)))
      (pss_cons (ps_set (i := 5) sc_law_tie.nd rfl (Or.inl rfl) (pe_op op_mod (pe_op op_add (pe_op op_add (pv 4) pe_int) (pe_op op_mod (pe_op op_fdiv (pv 3) (pv 1)) (pe_op op_sub (pv 1) pe_int))) (pv 1)))
      (pss_cons (ps_set (i := 3) sc_law_tie.nd rfl (Or.inl rfl) (pe_op op_fdiv (pe_op op_fdiv (pv 3) (pv 1)) (pe_op op_sub (pv 1) pe_int)))
      (pss_one (ps_ret (pe_tup (pa_cons (pv 4) (pa_cons (pv 5) (pa_cons (pe_op op_add pe_int (pe_op op_mod (pv 3) (pe_ix (ixL K) (pe_lst (pa_cons pe_int (pa_cons pe_int (pa_cons (pe_op op_pow pe_int pe_int) pa_nil)))) (pe_op op_mod (pe_op op_fdiv (pv 2) pe_int) pe_int) (fun _ _ => rfl)))) pa_nil))))))))))), ?_⟩
    refine hd_law_tie ?_
    intro zz0 zz1 zz2 zz3 zz4 zz5
    obtain ⟨m, hat, m0, m1⟩ := pick3 y
    have p0 : (0 : Int) < (p : Int) := by (first | lia | omega)
    have p9 : (0 : Int) < (p : Int) - 1 := by (first | lia | omega)
    have hd : ∀ i, CDiv i (p : Int) := fun i => ⟨by (first | lia | omega), by (first | lia | omega)⟩
    have hd1 : ∀ i, CDiv i ((p : Int) - 1) := fun i => ⟨by (first | lia | omega), by (first | lia | omega)⟩
    have tie_ok : ∀ n : Int, GoodTie (p : Int) (n % p, (n % p + 1 + n / p % (p - 1)) % p, 1 + n / p / (p - 1) % m) := fun n => by
      obtain ⟨o1, o2, o3⟩ := other_ne (p := p) (o := n % p) (r := n / p % (p - 1)) (emod2 _ _ p0).1 (emod2 _ _ p0).2 (emod2 _ _ p9).1 (emod2 _ _ p9).2
      obtain ⟨h1, h2⟩ := emod2 (n / p / (p - 1)) m (by (first | lia | omega))
      exact ⟨(emod2 _ _ p0).1, (emod2 _ _ p0).2, o1, o2, o3, by show 1 ≤ 1 + n / p / (p - 1) % m; (first | lia | omega), by show 1 + n / p / (p - 1) % m ≤ _; (first | lia | omega)⟩
    refine (exq rfl (exq rfl (ijq ⟨(modC rfl), rfl, exq rfl (ite2 (fun _ => ?_) (fun _ => ?_))⟩)))
    · refine (exq rfl ⟨c, rfl, fun n1 _ _ => (ijq ⟨.inr ⟨by decide, by decide⟩, exq rfl (ijq (exq rfl (fun n2 _ _ => (ijq (?_)))))⟩)⟩)
      refine (exq rfl (exq rfl (ijq ⟨p0, ?_⟩)))
      refine (exq rfl (ijq (exq rfl (exq rfl (ijq ⟨hd _, _, rfl, ijq (ijq ⟨p9, _, _, rfl, rfl, exq rfl (ijq ⟨p0, ?_⟩)⟩)⟩)))))
      refine (exq rfl (exq rfl (ijq ⟨hd _, _, rfl, ijq (ijq ⟨hd1 _, ?_⟩)⟩)))
      refine (exq rfl (exq rfl (exq rfl (ijq ⟨⟨by decide, by decide, by decide⟩, (dl rfl), fun l hl => (exq rfl (ijq ⟨⟨by decide, by decide⟩, ijq ⟨(modC rfl), ixl (SqL.of upd_same) (hat) (ijq ⟨(by show 0 < m; (first | lia | omega)), ijq ⟨(dl rfl), fun b hb => ?_⟩⟩)⟩⟩))⟩))))
      exact k _ b _ ((Same.new hl).trans (Same.new hb)) (tie_ok _) upd_same
    · refine (exq rfl (exq rfl (ijq ⟨p0, ?_⟩)))
      refine (exq rfl (ijq (exq rfl (exq rfl (ijq ⟨hd _, _, rfl, ijq (ijq ⟨p9, _, _, rfl, rfl, exq rfl (ijq ⟨p0, ?_⟩)⟩)⟩)))))
      refine (exq rfl (exq rfl (ijq ⟨hd _, _, rfl, ijq (ijq ⟨hd1 _, ?_⟩)⟩)))
      refine (exq rfl (exq rfl (exq rfl (ijq ⟨⟨by decide, by decide, by decide⟩, (dl rfl), fun l hl => (exq rfl (ijq ⟨⟨by decide, by decide⟩, ijq ⟨(modC rfl), ixl (SqL.of upd_same) (hat) (ijq ⟨(by show 0 < m; (first | lia | omega)), ijq ⟨(dl rfl), fun b hb => ?_⟩⟩)⟩⟩))⟩))))
      exact k _ b _ ((Same.new hl).trans (Same.new hb)) (tie_ok _) upd_same
theorem G_law_web (T : Txt K mg a) : FnOk P w K mg base CX0 3 a.f_law_web a.d_law_web ["script", "most"] (sp_web K) := by
  have G_law_cell : FnOk P w K mg base CX0 1 a.f_law_cell a.d_law_cell ["script", "k"] (sp_cell K) := G_law_cell T
  have G_law_tie : FnOk P w K mg base CX0 2 a.f_law_tie a.d_law_tie ["cell", "points", "way"] sp_tie := G_law_tie T
  refine T.F_law_web.ok sc_law_web (fun vs H Q E h => ?_) (fun cdv A outer s H vs Q E hr h => ?_)
  · obtain ⟨b, ns, rfl, _⟩ := h
    rfl
  · obtain ⟨b, ns, rfl, hS, hn, k⟩ := h
    refine ⟨_, (pss_cons (ps_set (i := 2) sc_law_web.nd rfl (Or.inr rfl) (pe_call G_law_cell (hr.mono (by decide)) (by rfl) T.m_law_cell T.k_law_cell T.b_law_cell .nil pass0 (pa_cons (pv 0) (pa_cons pe_int pa_nil))))
      (pss_cons (ps_set (i := 3) sc_law_web.nd rfl (Or.inr rfl) (pe_ix (ixL K) (pe_lst (pa_cons pe_int (pa_cons pe_int (pa_cons pe_int (pa_cons pe_int (pa_cons pe_int (pa_cons pe_int (pa_cons pe_int (pa_cons pe_int pa_nil))))))))) (pe_op op_mod (pv 2) pe_int) (fun _ _ => rfl)))
      (pss_cons (ps_set (i := 4) sc_law_web.nd rfl (Or.inl rfl) (pe_slice (slL K) (pv 0) (po_some pe_int) (po_some (pe_op op_add pe_int (pv 1)))))
      (pss_cons (ps_if (pt_cmpR op_eq (pv 3) pe_int (nomark _)) (pss_one (ps_set (i := 4) sc_law_web.nd rfl (Or.inl rfl) (pe_lst pa_nil))) pss_nil)
      (pss_one (ps_ret (pe_tup (pa_cons (pv 3) (pa_cons (pe_callTy (tuplK K) (by rfl) T.n_tuple PyProof.Rows.boot_tuple (pa_cons (pe_comp (own := ["cell"]) (frees := ["head", "points"]) (js := [2, 3]) (compText_of (defScope s_law_web) ["script", "most", "head", "points", "cells"]) rfl (piL K (pv 4)) (fun _ _ _ _ => (pg_name (i := 0) (show (["cell", "head", "points"] : List Str).Nodup by decide +kernel) rfl (Or.inl rfl))) (fun _ _ _ _ => pts_nil) (fun _ _ _ _ => (pe_call G_law_tie (hr.mono (by decide)) (by rfl) T.m_law_tie T.k_law_tie T.b_law_tie .nil pass0 (pa_cons (pv 0) (pa_cons (pv 2) (pa_cons (pe_op op_mod (pe_op op_fdiv (pv 1) pe_int) pe_int) pa_nil)))))) pa_nil)) pa_nil))))))))), ?_⟩
    refine hd_law_web ?_
    intro zz0 zz1 zz2 zz3 zz4
    refine (exq rfl ⟨b, ns, 0, rfl, hS, fun z => ?_⟩)
    obtain ⟨p, hat, p1, p2⟩ := pick8 z
    refine ⟨(dl rfl), fun l1 hl1 => (exq rfl (ijq ⟨(modC rfl), ixl (SqL.of upd_same) (hat) (?_)⟩))⟩
    have s1 : Same H (upd H l1 (.lst [.int 1, .int 2, .int 3, .int 4, .int 5, .int 6, .int 4, .int 10])) := Same.new hl1
    generalize upd H l1 (.lst [.int 1, .int 2, .int 3, .int 4, .int 5, .int 6, .int 4, .int 10]) = H1 at s1
    refine (exq rfl (exq rfl (exq rfl (ijq (exq rfl ⟨b, _, rfl, s1.seq hS, fun c hc => ?_⟩)))))
    have turn : ∀ (Hs : Hp) (D : Addr) (ms : List Int), 2 ≤ p → Hs D = none → ∀ (i : Nat) (x : V) (acc : List V) (H2 : Hp), (ms.map V.int)[i]? = some x → Ties (p : Int) Hs D i H2 → H2 D = some (.lst acc) →
        sp_tie [x, .int (p : Int), .int (z / 8 % 6)] H2 (fun v H4 => H4 D = some (.lst acc) ∧ (Ties (p : Int) Hs D (i + 1) (upd H4 D (.lst (acc ++ [v]))) ∧ upd H4 D (.lst (acc ++ [v])) D = some (.lst (acc ++ [v])))) E0 := by
      intro Hs D ms hp hD i x acc H2 hx ht hd
      obtain ⟨y, rfl⟩ := ints_get hx
      refine ⟨y, p, _, rfl, hp, p2, fun t b H4 s4 gd hb => ?_⟩
      obtain ⟨acc', hd4, _, t5⟩ := ht.push hD s4 gd hb
      have e : acc' = acc := by
        have := s4 _ _ hd
        rw [hd4] at this
        cases this
        rfl
      subst e
      exact ⟨hd4, t5, upd_same⟩
    have fin : ∀ (Hs : Hp) (D : Addr) (n : Nat) (acc : List V) (H2 : Hp), Same H Hs → n ≤ 24 → Ties (p : Int) Hs D n H2 → H2 D = some (.lst acc) →
        ∀ l', H2 l' = none → ([V.int (p : Int), .ref l'] : List V).length ≤ sizeLine ∧ ∀ w', upd H2 l' (.tup acc) w' = none → Q (.ref w') (upd (upd H2 l' (.tup acc)) w' (.tup [.int (p : Int), .ref l'])) := by
      intro Hs D n acc H2 sH hn ht hd l' hl'
      obtain ⟨acc', ts, hd', hl, gt, z⟩ := ht.fin
      have e : acc' = acc := by rw [hd] at hd'; cases hd'; rfl
      subst e
      refine ⟨dl rfl, fun w' hw => ?_⟩
      obtain ⟨z1, z2⟩ := z l' hl' w' hw
      exact k w' p ts _ (sH.trans z1) ⟨p1, p2, by (first | lia | omega), gt⟩ z2
    refine (exq rfl ⟨rfl, exq rfl (ite2 (fun hp => ?_) (fun hp => ?_))⟩)
    · refine ⟨(dl rfl), fun c2 hc2 => ?_⟩
      have s3 : Same H (upd (upd H1 c (.lst (cutV (ns.map V.int) (some 1) (some (1 + 24))))) c2 (.lst [])) := (s1.trans (Same.new hc)).trans (Same.new hc2)
      refine (exq rfl (exq rfl ⟨c2, rfl, ⟨[], SqL.of upd_same⟩, fun D hD => comp_list (xs := []) (fun i acc H2 => Ties (p : Int) (upd (upd H1 c (.lst (cutV (ns.map V.int) (some 1) (some (1 + 24))))) c2 (.lst [])) D i H2 ∧ H2 D = some (.lst acc)) ⟨Ties.start hD, upd_same⟩ ?_ (by decide) ?_ ?_⟩))
      · rintro i acc H2 _ ⟨t, hd⟩
        obtain ⟨sx, acc', ts, hd', _, hl, _⟩ := id t
        rw [hd] at hd'
        cases hd'
        exact ⟨SqL.of (sx _ _ upd_same), hd, Nat.le_of_eq hl⟩
      · intro i x acc H2 hx hv
        cases hx
      · rintro acc H2 ⟨t, hd⟩
        exact ⟨D, acc, rfl, .inl ⟨SqL.of hd, fin _ D 0 acc H2 s3 (by decide) t hd⟩⟩
    · have hp2 : 2 ≤ p := by
        by_cases e : p = 1
        · subst e
          exact absurd (decide_eq_true (congrArg V.int rfl)) hp
        · (first | lia | omega)
      have hcut := ints_cut ns (some 1) (some (1 + 24))
      have s3 : Same H (upd H1 c (.lst (cutV (ns.map V.int) (some 1) (some (1 + 24))))) := s1.trans (Same.new hc)
      generalize hms : (ns.drop (HT.sIx ns.length 0 (some 1))).take (HT.sIx ns.length ns.length (some (1 + 24)) - HT.sIx ns.length 0 (some 1)) = ms at hcut
      have hml : ms.length ≤ 24 := by
        rw [← hms, List.length_take]
        have e1 : HT.sIx ns.length 0 (some 1) = min 1 ns.length := HT.sIx_nat _ _ 1
        have e2 : HT.sIx ns.length ns.length (some (1 + 24)) = min 25 ns.length := HT.sIx_nat _ _ 25
        rw [e1, e2, List.length_drop]
        (first | lia | omega)
      refine (exq rfl (exq rfl ⟨c, rfl, ⟨_, SqL.of upd_same⟩, fun D hD => comp_list (xs := ms.map V.int) (fun i acc H2 => Ties (p : Int) (upd H1 c (.lst (cutV (ns.map V.int) (some 1) (some (1 + 24))))) D i H2 ∧ H2 D = some (.lst acc)) ⟨Ties.start hD, upd_same⟩ ?_ (by rw [List.length_map]; exact small24 hml) ?_ ?_⟩))
      · rintro i acc H2 _ ⟨t, hd⟩
        obtain ⟨sx, acc', ts, hd', _, hl, _⟩ := id t
        rw [hd] at hd'
        cases hd'
        refine ⟨?_, hd, Nat.le_of_eq hl⟩
        rw [← hcut]
        exact SqL.of (sx _ _ upd_same)
      · rintro i x acc H2 hx ⟨t, hd⟩
        have hx' := hx
        obtain ⟨y, rfl⟩ := ints_get hx'
        exact ⟨rfl, exq rfl (exq rfl (exq rfl (ijq ⟨⟨by decide, by decide⟩, ijq ⟨(modC rfl), turn _ D ms hp2 hD i _ acc H2 hx t hd⟩⟩)))⟩
      · rintro acc H2 ⟨t, hd⟩
        exact ⟨D, acc, rfl, .inl ⟨SqL.of hd, fin _ D _ acc H2 s3 (by rw [List.length_map]; exact hml) t hd⟩⟩
end

def sp_whole : Sp := fun vs H Q _ => ∃ c, vs = [.int c] ∧ Q (.bl true) H
section
variable {P : Program} {w : World} {K : PySem.W.Frag} {mg : Str → Option Value} {base : Heap} {a : Adr}
theorem G_law_whole (T : Txt K mg a) : FnOk P w K mg base CX0 1 a.f_law_whole a.d_law_whole ["found"] sp_whole := by
  refine T.F_law_whole.ok sc_law_whole (fun vs H Q E h => ?_) (fun cdv A outer s H vs Q E hr h => ?_)
  · obtain ⟨c, rfl, _⟩ := h
    rfl
  · obtain ⟨c, rfl, k⟩ := h
    refine ⟨_, (pss_one (ps_ret (pe_and (pe_callB (isiK K) (by rfl) T.n_isinstance PyProof.Rows.boot_isinstance (pa_cons (pv 0) (pa_cons (pe_ty (by rfl) T.n_int PyProof.Rows.boot_int) pa_nil))) (pe_one (pe_not (pe_callB (isiK K) (by rfl) T.n_isinstance PyProof.Rows.boot_isinstance (pa_cons (pv 0) (pa_cons (pe_ty (by rfl) T.n_bool PyProof.Rows.boot_bool) pa_nil)))))))), ?_⟩
    exact (exq rfl ⟨_, _, _, _, _, rfl, rfl, .int c, kit_ii K, _, rfl, iteT (exq rfl ⟨_, _, _, _, _, rfl, rfl, .int c, kit_ib K, _, rfl, k⟩)⟩)
end

def SL (m : Nat) : Nat → Bool := fun k => m.testBit k
def sp_in : Sp := fun vs H Q _ => ∃ m : Nat, vs = [.int (m : Int)] ∧ m < 2 ^ 24 ∧ ∀ D H', H D = none → Same H H' → H' D = some (.lst (natsV (tiesOf (m : Int)))) → Q (.ref D) H'
def sp_reached : Sp := fun vs H Q _ => ∃ w p ts, ∃ g : GoodWeb p ts, ∃ m pt : Nat, vs = [.ref w, .int (m : Int), .int (pt : Int)] ∧ WebAt H w p ts ∧ m < 2 ^ ts.length ∧ pt < p ∧
  ∀ D H', H D = none → Same H H' → H' D = some (.lst (natsV (pieceOf (labOf p ts g m) p (labOf p ts g m pt)))) → Q (.ref D) H'
def sp_lcut : Sp := fun vs H Q _ => ∃ w p ts, ∃ g : GoodWeb p ts, ∃ (l : Addr) (xs : List Nat), vs = [.ref w, .ref l] ∧ WebAt H w p ts ∧ H l = some (.lst (natsV xs)) ∧ ∀ H', Same H H' → Q (.int (((netOf p ts g).cut (fun x => decide (x ∈ xs)) : Nat) : Int)) H'
def sp_lside : Sp := fun vs H Q _ => ∃ w p ts, ∃ g : GoodWeb p ts, ∃ S, ∃ z : Nat, vs = [.ref w, .int S] ∧ S = (z : Int) ∧ WebAt H w p ts ∧ ∀ D H', H D = none → Same H H' → H' D = some (.lst (natsV ((List.range p).filter fun x => z.testBit x))) → Q (.ref D) H'
def sp_ones : Sp := fun vs H Q _ => ∃ m : Nat, vs = [.int (m : Int)] ∧ ∀ k : Nat, (∀ n, m < 2 ^ n → k = RM.cnt (fun j => m.testBit j) n) → Q (.int (k : Int)) H
theorem Inr_to {N : RM.Net} {S : Nat → Bool} {pt r : Nat} {l : List Nat} : ∀ (d : Nat) {j : Nat}, RM.Inr N S pt r j l → (∀ k, j ≤ k → k < j + d → S k = false) → RM.Inr N S pt r (j + d) l
  | 0, _, h, _ => h
  | d + 1, j, h, hz => by
    have h1 := (Inr_to d h fun k h1 h2 => hz k h1 (by (first | lia | omega))).skip fun z => by rw [hz (j + d) (by (first | lia | omega)) (by (first | lia | omega))] at z; cases z
    exact h1
theorem sorted_filter (f : Nat → Bool) (n : Nat) : ((List.range n).filter f).Pairwise (· < ·) := List.Pairwise.filter _ List.pairwise_lt_range
theorem gap {f : Nat → Bool} {n i k : Nat} (hi : ∀ t, ((List.range n).filter f)[i]? = some t → k < t) (hk : k < n) (hj : ∀ j t, j < i → ((List.range n).filter f)[j]? = some t → t < k) : f k = false := by
  refine Bool.eq_false_iff.mpr fun z => ?_
  obtain ⟨j, e⟩ := List.getElem?_of_mem (List.mem_filter.mpr ⟨List.mem_range.mpr hk, z⟩)
  by_cases h1 : j < i
  · exact absurd (hj j k h1 e) (Nat.lt_irrefl _)
  · obtain ⟨hjl, ej⟩ := List.getElem?_eq_some_iff.mp e
    have hil : i < ((List.range n).filter f).length := by (first | lia | omega)
    have h2 := hi _ (List.getElem?_eq_getElem hil)
    by_cases h3 : i = j
    · subst h3
      rw [ej] at h2
      exact Nat.lt_irrefl _ h2
    · have := List.pairwise_iff_getElem.mp (sorted_filter f n) i j hil hjl (by (first | lia | omega))
      (first | lia | omega)
def nextT (L : List Nat) (n i : Nat) : Nat := (L[i]?).getD n
theorem tiesAt_dg {p : Nat} {ts : List Tie} {g : GoodWeb p ts} {m x : Nat} (hm : m < 2 ^ ts.length) : ((tiesOf (m : Int)).filter fun t => decide ((netOf p ts g).a t = x ∨ (netOf p ts g).b t = x)).length = (netOf p ts g).dg m x := by
  rw [← RM.tiesAt_len, ties_nat hm, List.filter_filter]
  unfold RM.Net.tiesAt
  congr 1
  refine List.filter_congr fun k _ => ?_
  rw [Bool.and_comm, Bool.decide_or]
theorem cut_two (u v z : V) : cutV [u, v, z] none (some 2) = [u, v] := rfl
theorem in_two (x u v : Nat) : inV (.int (x : Int)) [.int (u : Int), .int (v : Int)] = decide (u = x ∨ v = x) := by
  have e : ([.int (u : Int), .int (v : Int)] : List V) = natsV [u, v] := rfl
  rw [e, inV_nats]
  refine decide_eq_decide.mpr ?_
  simp [eq_comm]
theorem cnt_half (m n : Nat) : RM.cnt (fun j => m.testBit j) (n + 1) = m % 2 + RM.cnt (fun j => (m / 2).testBit j) n := by
  have e := RM.cnt_add (fun j => m.testBit j) 1 n
  rw [Nat.add_comm n 1, e]
  congr 1
  · show 0 + (if m.testBit 0 = true then 1 else 0) = _
    rw [Nat.testBit_zero]
    have := Nat.mod_two_eq_zero_or_one m
    rcases this with h | h <;> rw [h] <;> decide
  · refine RM.cnt_congr fun k _ => ?_
    rw [Nat.add_comm 1 k, Nat.testBit_succ]
section
variable {P : Program} {w : World} {K : PySem.W.Frag} {mg : Str → Option Value} {base : Heap} {a : Adr}
theorem G_law_in (T : Txt K mg a) : FnOk P w K mg base CX0 1 a.f_law_in a.d_law_in ["some"] sp_in := by
  refine T.F_law_in.ok sc_law_in (fun vs H Q E h => ?_) (fun cdv A outer s H vs Q E hr h => ?_)
  · obtain ⟨m, rfl, _⟩ := h
    rfl
  · obtain ⟨m, rfl, hm, k⟩ := h
    refine ⟨_, (pss_one (ps_ret (pe_comp (own := ["tie"]) (frees := ["some"]) (js := [0]) (compText_of (defScope s_law_in) ["some"]) rfl (pi_range1 (by rfl) T.n_range (pa_cons pe_int pa_nil)) (fun _ _ _ _ => (pg_name (i := 0) (show (["tie", "some"] : List Str).Nodup by decide +kernel) rfl (Or.inl rfl))) (fun _ _ _ _ => (pts_one (pt_cmpR op_eq (pe_op op_mod (pe_op op_shr (pv 1) (pv 0)) pe_int) pe_int (nomark _)))) (fun _ _ _ _ => (pv 0))))), ?_⟩
    refine (exq rfl ⟨(by decide), (by decide), fun D hD => comp_range (lo := 0) (m := 24) (Pick (fun j => m.testBit j) H D) (.start hD) (fun i acc H2 _ p => p.len) (small24 (by decide)) ?_ ?_⟩)
    · intro i acc H2 hi p
      rw [Int.zero_add]
      refine ⟨rfl, exq rfl (exq rfl (ijq ⟨(by (first | lia | omega)), ijq ⟨(modC rfl), rfl, exq rfl (?_)⟩⟩))⟩
      rw [Int.toNat_natCast, bit_eq, bit_nat]
      cases hb : m.testBit i with
      | true => exact (exq rfl (p.yes hD (Same.refl _) hb))
      | false => exact p.no (Same.refl _) hb
    · intro acc H2 p
      exact k D H2 hD p.1 (by rw [p.2.1, p.2.2, ties_nat hm])
theorem G_law_side (T : Txt K mg a) : FnOk P w K mg base CX0 1 a.f_law_side a.d_law_side ["web", "number"] sp_lside := by
  refine T.F_law_side.ok sc_law_side (fun vs H Q E h => ?_) (fun cdv A outer s H vs Q E hr h => ?_)
  · obtain ⟨w, p, ts, g, S, z, rfl, _⟩ := h
    rfl
  · obtain ⟨wb, p, ts, g, S, z, rfl, rfl, hw, q⟩ := h
    refine ⟨_, (pss_one (ps_ret (pe_comp (own := ["point"]) (frees := ["number"]) (js := [1]) (compText_of (defScope s_law_side) ["web", "number"]) rfl (pi_range1 (by rfl) T.n_range (pa_cons (pe_ix (ixT K) (pv 0) pe_int (fun _ _ => rfl)) pa_nil)) (fun _ _ _ _ => (pg_name (i := 0) (show (["point", "number"] : List Str).Nodup by decide +kernel) rfl (Or.inl rfl))) (fun _ _ _ _ => (pts_one (pt_cmpR op_eq (pe_op op_mod (pe_op op_shr (pv 1) (pv 0)) pe_int) pe_int (nomark _)))) (fun _ _ _ _ => (pv 0))))), ?_⟩
    obtain ⟨bt, xs, h1, h2, h3⟩ := id hw.ex
    have wp := g.p2
    refine (exq rfl (ixq (SqT.of h1) (atI_nat (j := 0) rfl) (exq rfl ⟨(by (first | lia | omega)), (by (first | lia | omega)), fun C hC => comp_range (lo := 0) (m := (p : Int).toNat) (Pick (fun x => z.testBit x) H C) (.start hC) (fun i acc H2 _ pk => pk.len) (small24 (by (first | lia | omega))) ?_ ?_⟩)))
    · intro i acc H2 hi pk
      rw [Int.zero_add]
      refine ⟨rfl, exq rfl (exq rfl (ijq ⟨(by (first | lia | omega)), ijq ⟨(modC rfl), rfl, exq rfl (?_)⟩⟩))⟩
      rw [Int.toNat_natCast, bit_eq, bit_nat]
      cases hb : z.testBit i with
      | true => exact (exq rfl (pk.yes hC (Same.refl _) hb))
      | false => exact pk.no (Same.refl _) hb
    · intro acc H2 pk
      exact q C H2 hC pk.1 (by rw [pk.2.1, pk.2.2, Int.toNat_natCast])
theorem G_law_cut (T : Txt K mg a) : FnOk P w K mg base CX0 1 a.f_law_cut a.d_law_cut ["web", "side"] sp_lcut := by
  refine T.F_law_cut.ok sc_law_cut (fun vs H Q E h => ?_) (fun cdv A outer s H vs Q E hr h => ?_)
  · obtain ⟨w, p, ts, g, l, xs, rfl, _⟩ := h
    rfl
  · obtain ⟨wb, p, ts, g, l, zs, rfl, hw, hl, q⟩ := h
    refine ⟨_, (pss_cons (ps_set (i := 2) sc_law_cut.nd rfl (Or.inl rfl) pe_int)
      (pss_cons (ps_for PassesOwn.never rfl (pi_range1 (by rfl) T.n_range (pa_cons (pe_callB (lenK K) (by rfl) T.n_len PySem.boot_len (pa_cons (pe_ix (ixT K) (pv 0) pe_int (fun _ _ => rfl)) pa_nil)) pa_nil)) (pg_name (i := 3) sc_law_cut.nd rfl (Or.inl rfl))
      (pss_cons (ps_asg (pe_ix (ixT K) (pe_ix (ixT K) (pv 0) pe_int (fun _ _ => rfl)) (pv 3) (fun _ _ => rfl)) (pgT K (n := 3) rfl (pgs_cons (pg_name (i := 4) sc_law_cut.nd rfl (Or.inl rfl)) (pgs_cons (pg_name (i := 5) sc_law_cut.nd rfl (Or.inl rfl)) (pgs_cons (pg_name (i := 6) sc_law_cut.nd rfl (Or.inl rfl)) pgs_nil)))))
      (pss_one (ps_if (pt_cmpR op_ne (pe_cmpR (inK K) (pv 4) (pv 1) (by with_unfolding_all rfl)) (pe_cmpR (inK K) (pv 5) (pv 1) (by with_unfolding_all rfl)) (nomark _)) (pss_one (ps_set (i := 2) sc_law_cut.nd rfl (Or.inl rfl) (pe_op op_add (pv 2) (pe_op op_shl pe_int (pv 3))))) pss_nil))))
      (pss_one (ps_ret (pv 2))))), ?_⟩
    refine hd_law_cut ?_
    intro zz0 zz1 zz2 zz3 zz4
    obtain ⟨bt, xs, h1, h2, h3⟩ := id hw.ex
    have hxl := h3.length
    have wl := g.len
    refine (exq rfl (ixq (SqT.of h1) (atI_nat (j := 1) rfl) (lnq rfl (.inr (SqT.of h2)) (exq rfl ⟨(by (first | lia | omega)), (by (first | lia | omega)), ?_⟩))))
    refine for_range' (lo := 0) (n := (xs.length : Int).toNat) (fun j σ H2 => ∃ v3 v4 v5 v6, σ = [some (.ref wb), some (.ref l), some (.int ((maskOf (fun k => decide ((netOf p ts g).a k ∈ zs) ^^ decide ((netOf p ts g).b k ∈ zs)) j : Nat) : Int)), v3, v4, v5, v6] ∧ H2 = H) ⟨none, none, none, none, rfl, rfl⟩ ?_ ?_
    · rintro j D' σ H2 hj ⟨v3, v4, v5, v6, rfl, rfl⟩
      rw [Int.toNat_natCast, hxl] at hj
      rw [Int.zero_add]
      obtain ⟨c, hxc, hct⟩ := tie_in (g := g) h3 hj
      refine (exq rfl (ixq (SqT.of h1) (atI_nat (j := 1) rfl) (exq rfl (ixq (SqT.of h2) (atI_nat (j := j) hxc) ⟨c, _, rfl, SqT.of hct, rfl, _, _, rfl, _, _, rfl, _, _, rfl, rfl, ?_⟩))))
      refine (exq rfl (exq rfl (lnq rfl (.inl (SqL.of hl)) ⟨rfl, flat_nats _, _, rfl, exq rfl (lnq rfl (.inl (SqL.of hl)) ⟨rfl, flat_nats _, rfl, exq rfl (?_)⟩)⟩)))
      rw [inV_nats, inV_nats]
      have hms : maskOf (fun k => decide ((netOf p ts g).a k ∈ zs) ^^ decide ((netOf p ts g).b k ∈ zs)) (j + 1) = maskOf (fun k => decide ((netOf p ts g).a k ∈ zs) ^^ decide ((netOf p ts g).b k ∈ zs)) j + (if (decide ((netOf p ts g).a j ∈ zs) ^^ decide ((netOf p ts g).b j ∈ zs)) = true then 2 ^ j else 0) := Nat.add_comm _ _
      have yes : (decide ((netOf p ts g).a j ∈ zs) ^^ decide ((netOf p ts g).b j ∈ zs)) = true → ((maskOf (fun k => decide ((netOf p ts g).a k ∈ zs) ^^ decide ((netOf p ts g).b k ∈ zs)) j : Nat) : Int) + 1 * 2 ^ ((j : Nat) : Int).toNat = ((maskOf (fun k => decide ((netOf p ts g).a k ∈ zs) ^^ decide ((netOf p ts g).b k ∈ zs)) (j + 1) : Nat) : Int) := fun z => by
        rw [hms, if_pos z, shl_int]
        (first | lia | omega)
      have no : (decide ((netOf p ts g).a j ∈ zs) ^^ decide ((netOf p ts g).b j ∈ zs)) = false → maskOf (fun k => decide ((netOf p ts g).a k ∈ zs) ^^ decide ((netOf p ts g).b k ∈ zs)) (j + 1) = maskOf (fun k => decide ((netOf p ts g).a k ∈ zs) ^^ decide ((netOf p ts g).b k ∈ zs)) j := fun z => by
        rw [hms, if_neg (by rw [z]; decide), Nat.add_zero]
      cases e1 : decide ((netOf p ts g).a j ∈ zs) <;> cases e2 : decide ((netOf p ts g).b j ∈ zs)
      · exact iteF ⟨_, _, _, _, by rw [no (by rw [e1, e2]; rfl)]; rfl, rfl⟩
      · exact iteT (exq rfl (exq rfl (ijq ⟨⟨by (first | lia | omega), by (first | lia | omega), by decide⟩, ijq ⟨_, _, _, _, by rw [← yes (by rw [e1, e2]; rfl)]; rfl, rfl⟩⟩)))
      · exact iteT (exq rfl (exq rfl (ijq ⟨⟨by (first | lia | omega), by (first | lia | omega), by decide⟩, ijq ⟨_, _, _, _, by rw [← yes (by rw [e1, e2]; rfl)]; rfl, rfl⟩⟩)))
      · exact iteF ⟨_, _, _, _, by rw [no (by rw [e1, e2]; rfl)]; rfl, rfl⟩
    · rintro σ H2 ⟨v3, v4, v5, v6, rfl, rfl⟩
      rw [Int.toNat_natCast, hxl]
      exact (exq rfl (q _ (Same.refl _)))
theorem G_law_ones (T : Txt K mg a) : FnOk P w K mg base CX0 1 a.f_law_ones a.d_law_ones ["number"] sp_ones := by
  refine T.F_law_ones.ok sc_law_ones (fun vs H Q E h => ?_) (fun cdv A outer s H vs Q E hr h => ?_)
  · obtain ⟨m, rfl, _⟩ := h
    rfl
  · obtain ⟨m, rfl, q⟩ := h
    refine ⟨_, (pss_cons (ps_set (i := 1) sc_law_ones.nd rfl (Or.inl rfl) pe_int)
      (pss_cons (ps_while PassesOwn.never (pt_cmpR op_gt (pv 0) pe_int (nomark _)) (pss_cons (ps_set (i := 1) sc_law_ones.nd rfl (Or.inl rfl) (pe_op op_add (pv 1) (pe_op op_mod (pv 0) pe_int)))
      (pss_one (ps_set (i := 0) sc_law_ones.nd rfl (Or.inl rfl) (pe_op op_fdiv (pv 0) pe_int)))))
      (pss_one (ps_ret (pv 1))))), ?_⟩
    refine hd_law_ones ?_
    intro zz0 zz1 zz2 zz3
    refine ⟨fun k σ H2 => ∃ n c : Nat, σ = [some (.int ((n : Nat) : Int)), some (.int ((c : Nat) : Int))] ∧ H2 = H ∧ (∀ d, m < 2 ^ d → ∃ e, n < 2 ^ e ∧ RM.cnt (fun j => m.testBit j) d = c + RM.cnt (fun j => n.testBit j) e) ∧ n = k, ⟨m, m, 0, rfl, rfl, fun d hd => ⟨d, hd, by (first | lia | omega)⟩, rfl⟩, ?_⟩
    rintro k σ H2 ⟨n, c, rfl, rfl, hc, rfl⟩
    refine (exq rfl (ijq (exq rfl (ite2 (fun hpos => ?_) (fun hpos => ?_)))))
    · have hpos : (0 : Int) < ((n : Nat) : Int) := of_decide_eq_true hpos
      refine ⟨fun σ H3 => ∃ n' c : Nat, σ = [some (.int ((n' : Nat) : Int)), some (.int ((c : Nat) : Int))] ∧ H3 = H2 ∧ (∀ d, m < 2 ^ d → ∃ e, n' < 2 ^ e ∧ RM.cnt (fun j => m.testBit j) d = c + RM.cnt (fun j => n'.testBit j) e) ∧ n' < n, fun σ H3 ⟨n', c, z1, z2, z3, z4⟩ => ⟨n', z4, n', c, z1, z2, z3, rfl⟩, ?_⟩
      refine (exq rfl (exq rfl (ijq ⟨(modC rfl), ijq (exq rfl (ijq ⟨⟨by decide, by decide⟩, n / 2, c + n % 2, ?_, rfl, fun d hd => ?_, by (first | lia | omega)⟩))⟩)))
      · show [some (V.int (((n : Nat) : Int) / 2)), some (V.int (((c : Nat) : Int) + ((n : Nat) : Int) % 2))] = _
        congr
      · obtain ⟨e, he, hce⟩ := hc d hd
        cases e with
        | zero => exact absurd he (by (first | lia | omega))
        | succ e =>
          rw [cnt_half] at hce
          exact ⟨e, by rw [Nat.pow_succ] at he; (first | lia | omega), by (first | lia | omega)⟩
    · have hz : n = 0 := by
        have : ¬ (0 : Int) < ((n : Nat) : Int) := fun z => hpos (decide_eq_true z)
        (first | lia | omega)
      subst hz
      refine (exq rfl (q c fun d hd => ?_))
      obtain ⟨e, he, hce⟩ := hc d hd
      rw [hce, (RM.cnt_zero he).mpr rfl]
      rfl
end

def sp_lring : Sp := fun vs H Q _ => ∃ w p ts, ∃ g : GoodWeb p ts, ∃ z : Int, vs = [.ref w, .int z] ∧ WebAt H w p ts ∧ ∀ H' (d : Bool), Same H H' → (d = true ↔ ∃ r : Nat, z = (r : Int) ∧ r < 2 ^ ts.length ∧ (netOf p ts g).Ring r) → Q (.bl d) H'
theorem iteNd {x y : V} {A B : Prop} (h : x ≠ y) (ha : A) : if (!decide (x = y)) = true then A else B := by
  rw [decide_eq_false h]
  exact iteT ha
theorem nextT_le {f : Nat → Bool} {n i : Nat} : nextT ((List.range n).filter f) n i ≤ n := by
  unfold nextT
  cases e : ((List.range n).filter f)[i]? with
  | none => exact Nat.le_refl _
  | some t => exact Nat.le_of_lt (List.mem_range.mp (List.mem_filter.mp (List.mem_of_getElem? e)).1)
theorem next_none {f : Nat → Bool} {n i : Nat} (lo : Nat) (h0 : ∀ j t, j < i → ((List.range n).filter f)[j]? = some t → t < lo) {k : Nat} (h1 : lo ≤ k) (h2 : k < nextT ((List.range n).filter f) n i) : f k = false := by
  have hn := nextT_le (f := f) (n := n) (i := i)
  refine gap (n := n) (i := i) (fun t e => ?_) (by (first | lia | omega)) fun j t hj e => Nat.lt_of_lt_of_le (h0 j t hj e) h1
  unfold nextT at h2
  rw [e] at h2
  exact h2
theorem Inr_next {N : RM.Net} {S : Nat → Bool} {pt r lo i : Nat} {l : List Nat} (h : RM.Inr N S pt r lo l) (h0 : ∀ j t, j < i → ((List.range N.n).filter S)[j]? = some t → t < lo) (hlo : lo ≤ nextT ((List.range N.n).filter S) N.n i) : RM.Inr N S pt r (nextT ((List.range N.n).filter S) N.n i) l := by
  obtain ⟨d, hd⟩ := Nat.exists_eq_add_of_le hlo
  have h2 := Inr_to d h fun k h1 h2 => next_none (f := S) (n := N.n) (i := i) lo h0 h1 (by (first | lia | omega))
  rw [← hd] at h2
  exact h2
section
variable {P : Program} {w : World} {K : PySem.W.Frag} {mg : Str → Option Value} {base : Heap} {a : Adr}
theorem G_law_reached (T : Txt K mg a) : FnOk P w K mg base CX0 2 a.f_law_reached a.d_law_reached ["web", "some", "point"] sp_reached := by
  have G_law_in : FnOk P w K mg base CX0 1 a.f_law_in a.d_law_in ["some"] sp_in := G_law_in T
  refine T.F_law_reached.ok sc_law_reached (fun vs H Q E h => ?_) (fun cdv A outer s H vs Q E hr h => ?_)
  · obtain ⟨w, p, ts, g, m, pt, rfl, _⟩ := h
    rfl
  · obtain ⟨wb, p, ts, g, m, pt, rfl, hw, hm, hpt, q⟩ := h
    refine ⟨_, (pss_cons (ps_set (i := 3) sc_law_reached.nd rfl (Or.inl rfl) (pe_lst (pa_cons (pv 2) pa_nil)))
      (pss_cons (ps_for PassesOwn.never rfl (pi_range1 (by rfl) T.n_range (pa_cons (pe_ix (ixT K) (pv 0) pe_int (fun _ _ => rfl)) pa_nil)) (pg_name (i := 4) sc_law_reached.nd rfl (Or.inl rfl))
      (pss_one (ps_for PassesOwn.never rfl (piL K (pe_call G_law_in (hr.mono (by decide)) (by rfl) T.m_law_in T.k_law_in T.b_law_in .nil pass0 (pa_cons (pv 1) pa_nil))) (pg_name (i := 5) sc_law_reached.nd rfl (Or.inl rfl))
      (pss_cons (ps_asg (pe_ix (ixT K) (pe_ix (ixT K) (pv 0) pe_int (fun _ _ => rfl)) (pv 5) (fun _ _ => rfl)) (pgT K (n := 3) rfl (pgs_cons (pg_name (i := 6) sc_law_reached.nd rfl (Or.inl rfl)) (pgs_cons (pg_name (i := 7) sc_law_reached.nd rfl (Or.inl rfl)) (pgs_cons (pg_name (i := 8) sc_law_reached.nd rfl (Or.inl rfl)) pgs_nil)))))
      (pss_one (ps_if (pt_cmpR op_ne (pe_cmpR (inK K) (pv 6) (pv 3) (by with_unfolding_all rfl)) (pe_cmpR (inK K) (pv 7) (pv 3) (by with_unfolding_all rfl)) (nomark _)) (pss_one (ps_expr (bmK K (pe_bm PySem.F.plainAttrs_list PySem.F.slot_list_append PySem.F.type_list_append mt_append (pv 3) (pa_cons (pe_ix (ixL K) (pe_lst (pa_cons (pv 6) (pa_cons (pv 7) pa_nil))) (pe_callTy call_int1 (by rfl) T.n_int PyProof.Rows.boot_int (pa_cons (pe_cmpR (inK K) (pv 6) (pv 3) (by with_unfolding_all rfl)) pa_nil)) (fun _ _ => rfl)) pa_nil))))) pss_nil))))))
      (pss_one (ps_ret (pe_callB (sortedK K) (by rfl) T.n_sorted PyProof.Rows.boot_sorted (pa_cons (pv 3) pa_nil)))))), ?_⟩
    refine hd_law_reached ?_
    intro zz0 zz1 zz2 zz3 zz4 zz5
    obtain ⟨bt, xs, h1, h2, h3⟩ := id hw.ex
    have W := g.web
    have wp := W.pts
    have wl := W.len
    have hxl := h3.length
    have hm24 : m < 2 ^ 24 := Nat.lt_of_lt_of_le hm (Nat.pow_le_pow_right (by decide) wl)
    have hL : tiesOf (m : Int) = (List.range (netOf p ts g).n).filter (SL m) := ties_nat hm
    refine (exq rfl ⟨dl rfl, fun D hD => ?_⟩)
    have s0 : Same H (upd H D (.lst [.int (pt : Int)])) := Same.new hD
    have hD0 : upd H D (.lst [.int (pt : Int)]) D = some (.lst (natsV [pt])) := upd_same
    generalize upd H D (.lst [.int (pt : Int)]) = H0 at s0 hD0
    refine (exq rfl (ixq (SqT.of (s0 _ _ h1)) (atI_nat (j := 0) rfl) (exq rfl ⟨(by (first | lia | omega)), (by (first | lia | omega)), ?_⟩)))
    refine for_range' (lo := 0) (n := (p : Int).toNat) (fun r σ H3 => ∃ ins v4 v5 v6 v7 v8, σ = [some (.ref wb), some (.int (m : Int)), some (.int (pt : Int)), some (.ref D), v4, v5, v6, v7, v8] ∧ Same H H3 ∧ H3 D = some (.lst (natsV ins)) ∧ RM.Rnd (netOf p ts g) (SL m) pt r ins)
      ⟨[pt], none, none, none, none, none, rfl, s0, hD0, RM.Rnd.start hpt⟩ ?_ ?_
    · rintro r D1 σ H3 hr0 ⟨ins, v4, v5, v6, v7, v8, rfl, s3, hD3, rn⟩
      refine (exq rfl ⟨m, rfl, hm24, fun F H4 hFn s34 hF => ?_⟩)
      have hFD : F ≠ D := fun z => by rw [z, hD3] at hFn; cases hFn
      have s4 := s3.trans s34
      refine ⟨F, rfl, ⟨_, SqL.of hF⟩, for_list' (K := K) (a := F) (xs := natsV (tiesOf (m : Int))) (fun i σ H5 => ∃ ins v4 v5 v6 v7 v8, σ = [some (.ref wb), some (.int (m : Int)), some (.int (pt : Int)), some (.ref D), v4, v5, v6, v7, v8] ∧ Same H H5 ∧ H5 D = some (.lst (natsV ins)) ∧ H5 F = some (.lst (natsV (tiesOf (m : Int)))) ∧ RM.Inr (netOf p ts g) (SL m) pt r (nextT ((List.range (netOf p ts g).n).filter (SL m)) (netOf p ts g).n i) ins)
        ⟨ins, _, _, _, _, _, rfl, s4, s34 _ _ hD3, hF, Inr_next rn.enter (fun j t hj _ => absurd hj (Nat.not_lt_zero _)) (Nat.zero_le _)⟩ (fun i σ H5 _ ⟨_, _, _, _, _, _, _, _, _, z, _⟩ => SqL.of z) ?_ ?_⟩
      · rintro i y D2 σ H5 hy ⟨ins, v4, v5, v6, v7, v8, rfl, s5, hD5, hF5, inr⟩
        obtain ⟨j, hjt, rfl⟩ := natsV_get hy
        rw [hL] at hjt
        have hnx : nextT ((List.range (netOf p ts g).n).filter (SL m)) (netOf p ts g).n i = j := by unfold nextT; rw [hjt]; rfl
        rw [hnx] at inr
        obtain ⟨hjr, hb⟩ := List.mem_filter.mp (List.mem_of_getElem? hjt)
        have hj : j < ts.length := List.mem_range.mp hjr
        have on : ∀ {ins' : List Nat}, RM.Inr (netOf p ts g) (SL m) pt r (j + 1) ins' → RM.Inr (netOf p ts g) (SL m) pt r (nextT ((List.range (netOf p ts g).n).filter (SL m)) (netOf p ts g).n (i + 1)) ins' := fun {ins'} h => by
          have hsrt := sorted_filter (SL m) (netOf p ts g).n
          obtain ⟨hil, hie⟩ := List.getElem?_eq_some_iff.mp hjt
          refine Inr_next h (fun j' t hj' e => ?_) ?_
          · obtain ⟨hjl, hje⟩ := List.getElem?_eq_some_iff.mp e
            by_cases e3 : j' = i
            · subst e3
              rw [hjt] at e
              cases e
              exact Nat.lt_succ_self _
            · have := List.pairwise_iff_getElem.mp hsrt j' i hjl hil (by (first | lia | omega))
              (first | lia | omega)
          · unfold nextT
            cases e : ((List.range (netOf p ts g).n).filter (SL m))[i + 1]? with
            | none => exact hj
            | some t =>
              obtain ⟨hjl, hje⟩ := List.getElem?_eq_some_iff.mp e
              have := List.pairwise_iff_getElem.mp hsrt i (i + 1) hil hjl (by (first | lia | omega))
              show j + 1 ≤ t
              (first | lia | omega)
        obtain ⟨c, hxc, hct⟩ := tie_in (g := g) h3 hj
        have hct5 := s5 _ _ hct
        refine (exq rfl (ixq (SqT.of (s5 _ _ h1)) (atI_nat (j := 1) rfl) (exq rfl (ixq (SqT.of (s5 _ _ h2)) (atI_nat (j := j) hxc) ⟨c, _, rfl, SqT.of hct5, rfl, _, _, rfl, _, _, rfl, _, _, rfl, rfl, ?_⟩))))
        have hil : ins.length ≤ 10 := Nat.le_trans (RM.nodup_le inr.1.nd inr.1.lt) wp
        have na := (netOf p ts g).ne j hj
        generalize hA : (netOf p ts g).a j = A0 at na
        generalize hB : (netOf p ts g).b j = B0 at na
        refine (exq rfl (exq rfl (lnq rfl (.inl (SqL.of hD5)) ⟨rfl, flat_nats _, _, rfl, exq rfl (lnq rfl (.inl (SqL.of hD5)) ⟨rfl, flat_nats _, rfl, exq rfl (?_)⟩)⟩)))
        by_cases hai : A0 ∈ ins
        · have ea : inV (.int (A0 : Int)) (natsV ins) = true := by rw [inV_nats]; exact decide_eq_true hai
          by_cases hbi : B0 ∈ ins
          · have eb : inV (.int (B0 : Int)) (natsV ins) = true := by rw [inV_nats]; exact decide_eq_true hbi
            rw [ea, eb]
            exact iteF ⟨ins, _, _, _, _, _, rfl, s5, hD5, hF5, on (inr.skip fun _ => by rw [hA, hB]; exact ⟨fun _ => hbi, fun _ => hai⟩)⟩
          · have eb : inV (.int (B0 : Int)) (natsV ins) = false := by rw [inV_nats]; exact decide_eq_false hbi
            rw [ea, eb]
            refine iteT (exq rfl ⟨.inl ⟨rfl, _, SqL.of hD5⟩, exq rfl (exq rfl ⟨dl rfl, fun l hl => (exq rfl (exq rfl (lnq rfl (.inl (SqL.of (Same.new hl _ _ hD5))) ⟨rfl, flat_nats _, ?_⟩)))⟩)⟩)
            rw [ea]
            refine .inr ⟨true, rfl, ixl (SqL.of upd_same) (atI_nat (j := 1) rfl) ⟨D, _, _, rfl, rfl, Same.new hl _ _ hD5, smallL (by rw [natsV_len]; (first | lia | omega)), ?_⟩⟩
            exact ⟨ins ++ [B0], _, _, _, _, _, rfl, (s5.trans (Same.new hl)).put hD, by rw [upd_same, natsV_snoc], by rw [upd_ne hFD]; exact Same.new hl _ _ hF5, on (inr.put hj hb (.inl ⟨hA.symm, hB.symm⟩) hai hbi)⟩
        · have ea : inV (.int (A0 : Int)) (natsV ins) = false := by rw [inV_nats]; exact decide_eq_false hai
          by_cases hbi : B0 ∈ ins
          · have eb : inV (.int (B0 : Int)) (natsV ins) = true := by rw [inV_nats]; exact decide_eq_true hbi
            rw [ea, eb]
            refine iteT (exq rfl ⟨.inl ⟨rfl, _, SqL.of hD5⟩, exq rfl (exq rfl ⟨dl rfl, fun l hl => (exq rfl (exq rfl (lnq rfl (.inl (SqL.of (Same.new hl _ _ hD5))) ⟨rfl, flat_nats _, ?_⟩)))⟩)⟩)
            rw [ea]
            refine .inr ⟨false, rfl, ixl (SqL.of upd_same) (atI_nat (j := 0) rfl) ⟨D, _, _, rfl, rfl, Same.new hl _ _ hD5, smallL (by rw [natsV_len]; (first | lia | omega)), ?_⟩⟩
            exact ⟨ins ++ [A0], _, _, _, _, _, rfl, (s5.trans (Same.new hl)).put hD, by rw [upd_same, natsV_snoc], by rw [upd_ne hFD]; exact Same.new hl _ _ hF5, on (inr.put hj hb (.inr ⟨hB.symm, hA.symm⟩) hbi hai)⟩
          · have eb : inV (.int (B0 : Int)) (natsV ins) = false := by rw [inV_nats]; exact decide_eq_false hbi
            rw [ea, eb]
            exact iteF ⟨ins, _, _, _, _, _, rfl, s5, hD5, hF5, on (inr.skip fun _ => by rw [hA, hB]; exact ⟨fun z => absurd z hai, fun z => absurd z hbi⟩)⟩
      · rintro σ H5 ⟨ins, v4, v5, v6, v7, v8, rfl, s5, hD5, hF5, inr⟩
        have hnx : nextT ((List.range (netOf p ts g).n).filter (SL m)) (netOf p ts g).n (natsV (tiesOf (m : Int))).length = (netOf p ts g).n := by
          unfold nextT
          rw [natsV_len, hL, List.getElem?_eq_none (Nat.le_refl _)]
          rfl
        rw [hnx] at inr
        exact ⟨ins, _, _, _, _, _, rfl, s5, hD5, inr.leave⟩
    · rintro σ H3 ⟨ins, v4, v5, v6, v7, v8, rfl, s3, hD3, rn⟩
      rw [Int.toNat_natCast] at rn
      have hil : ins.length ≤ 10 := Nat.le_trans (RM.nodup_le rn.1.nd rn.1.lt) wp
      refine (exq rfl ⟨D, ins.map fun x => ((x : Nat) : Int), rfl, SqL.of (by rw [hD3, natsV_ints]), by rw [List.length_map]; (first | lia | omega), fun l ns' hl hp hs => ?_⟩)
      refine q l _ (s3.free hl) (s3.trans (Same.new hl)) ?_
      rw [upd_same, reached_sorted (p := p) (f := fun x => decide (labOf p ts g m x = labOf p ts g m pt)) rn.1.nd (fun x => by rw [rn.mem hpt x]; simp; rfl) hp hs, ← natsV_ints]
      rfl
theorem G_law_is_ring (T : Txt K mg a) : FnOk P w K mg base CX0 3 a.f_law_is_ring a.d_law_is_ring ["web", "some"] sp_lring := by
  have G_law_in : FnOk P w K mg base CX0 1 a.f_law_in a.d_law_in ["some"] sp_in := G_law_in T
  have G_law_reached : FnOk P w K mg base CX0 2 a.f_law_reached a.d_law_reached ["web", "some", "point"] sp_reached := G_law_reached T
  refine T.F_law_is_ring.ok sc_law_is_ring (fun vs H Q E h => ?_) (fun cdv A outer s H vs Q E hr h => ?_)
  · obtain ⟨w, p, ts, g, z, rfl, _⟩ := h
    rfl
  · obtain ⟨wb, p, ts, g, z, rfl, hw, q⟩ := h
    refine ⟨_, (pss_cons (ps_if (PW.pt (pw_or (pt_cmpR op_le (pv 1) pe_int (nomark _)) (pw_or1 (pt_cmpR op_gt (pe_op op_shr (pv 1) (pe_callB (lenK K) (by rfl) T.n_len PySem.boot_len (pa_cons (pe_ix (ixT K) (pv 0) pe_int (fun _ _ => rfl)) pa_nil))) pe_int (nomark _))))) (pss_one (ps_ret pe_bl)) pss_nil)
      (pss_cons (ps_set (i := 2) sc_law_is_ring.nd rfl (Or.inl rfl) (pe_lst pa_nil))
      (pss_cons (ps_for PassesOwn.never rfl (pi_range1 (by rfl) T.n_range (pa_cons (pe_ix (ixT K) (pv 0) pe_int (fun _ _ => rfl)) pa_nil)) (pg_name (i := 3) sc_law_is_ring.nd rfl (Or.inr rfl))
      (pss_cons (ps_set (i := 4) sc_law_is_ring.nd rfl (Or.inl rfl) (pe_callB (lenK K) (by rfl) T.n_len PySem.boot_len (pa_cons (pe_comp (own := ["tie"]) (frees := ["web", "point"]) (js := [0, 3]) (compText_of (defScope s_law_is_ring) ["web", "some", "met", "point", "ends"]) rfl (piL K (pe_call G_law_in (hr.mono (by decide)) (by rfl) T.m_law_in T.k_law_in T.b_law_in .nil pass0 (pa_cons (pv 1) pa_nil))) (fun _ _ _ _ => (pg_name (i := 0) (show (["tie", "web", "point"] : List Str).Nodup by decide +kernel) rfl (Or.inl rfl))) (fun _ _ _ _ => (pts_one (pt_cmpR (inK K) (pv 2) (pe_slice (slT K) (pe_ix (ixT K) (pe_ix (ixT K) (pv 1) pe_int (fun _ _ => rfl)) (pv 0) (fun _ _ => rfl)) po_none (po_some pe_int)) (by with_unfolding_all rfl)))) (fun _ _ _ _ => (pv 0))) pa_nil)))
      (pss_cons (ps_if (PW.pt (pw_and (pt_cmpR op_ne (pv 4) pe_int (nomark _)) (pw_and1 (pt_cmpR op_ne (pv 4) pe_int (nomark _))))) (pss_one (ps_ret pe_bl)) pss_nil)
      (pss_one (ps_if (pt_cmpR op_eq (pv 4) pe_int (nomark _)) (pss_one (ps_expr (bmK K (pe_bm PySem.F.plainAttrs_list PySem.F.slot_list_append PySem.F.type_list_append mt_append (pv 2) (pa_cons (pv 3) pa_nil))))) pss_nil)))))
      (pss_one (ps_ret (pe_cmpR (op_eqK K hr.units) (pe_call G_law_reached (hr.mono (by decide)) (by rfl) T.m_law_reached T.k_law_reached T.b_law_reached .nil pass0 (pa_cons (pv 0) (pa_cons (pv 1) (pa_cons (pe_ix (ixL K) (pv 2) pe_int (fun _ _ => rfl)) pa_nil)))) (pv 2) (nomark _))))))), ?_⟩
    refine hd_law_is_ring ?_
    intro zz0 zz1 zz2 zz3 zz4 zz5 zz6 zz7 zz8
    obtain ⟨bt, xs, h1, h2, h3⟩ := id hw.ex
    have wp := g.p2
    have wl := g.len
    have hxl := h3.length
    have h2n : ((2 : Int) ^ ts.length) = ((2 ^ ts.length : Nat) : Int) := by simp
    have pp := Nat.two_pow_pos ts.length
    refine (exq rfl (ijq (exq rfl (?_))))
    by_cases c1 : z ≤ 0
    · rw [decide_eq_true c1]
      refine iteT (q H false (Same.refl _) ⟨fun z => (Bool.false_ne_true z).elim, fun ⟨r, e, _, rg⟩ => ?_⟩)
      have := rg.1
      (first | lia | omega)
    rw [decide_eq_false c1]
    refine iteF (exq rfl (exq rfl (ixq (SqT.of h1) (atI_nat (j := 1) rfl) (lnq rfl (.inr (SqT.of h2)) (ijq ⟨(by (first | lia | omega)), ijq (exq rfl (?_))⟩)))))
    dsimp only
    rw [Int.toNat_natCast, hxl, h2n]
    by_cases c2 : (0 : Int) < z / ((2 ^ ts.length : Nat) : Int)
    · rw [decide_eq_true c2]
      refine iteT (q H false (Same.refl _) ⟨fun z => (Bool.false_ne_true z).elim, fun ⟨r, e, hr, _⟩ => ?_⟩)
      rw [e, Int.ediv_eq_zero_of_lt (by (first | lia | omega)) (by (first | lia | omega))] at c2
      exact absurd c2 (by decide)
    rw [decide_eq_false c2]
    obtain ⟨m, rfl⟩ := Int.eq_ofNat_of_zero_le (show (0 : Int) ≤ z by (first | lia | omega))
    have hm : m < 2 ^ ts.length := by
      refine Nat.lt_of_not_le fun h => c2 ?_
      have h3 : (1 : Int) ≤ (m : Int) / ((2 ^ ts.length : Nat) : Int) := (Int.le_ediv_iff_mul_le (by (first | lia | omega))).mpr (by (first | lia | omega))
      (first | lia | omega)
    have hm0 : m ≠ 0 := by (first | lia | omega)
    have hm24 : m < 2 ^ 24 := Nat.lt_of_lt_of_le hm (Nat.pow_le_pow_right (by decide) wl)
    have hb24 : Builtin.Int.intBits (m : Int) ≤ ts.length := bits_le hm
    have bad : ∀ H', Same H H' → ¬ (netOf p ts g).Ring m → Q (.bl false) H' := fun H' s' nr => q H' false s' ⟨fun z => (Bool.false_ne_true z).elim, fun ⟨r, e, _, rg⟩ => by
      have : m = r := by (first | lia | omega)
      rw [← this] at rg
      exact absurd rg nr⟩
    refine iteF ⟨dl rfl, fun M hM => ?_⟩
    have s0 : Same H (upd H M (.lst [])) := Same.new hM
    have hM0 : upd H M (.lst []) M = some (.lst (natsV [])) := upd_same
    generalize upd H M (.lst []) = H0 at s0 hM0
    refine (exq rfl (ixq (SqT.of (s0 _ _ h1)) (atI_nat (j := 0) rfl) (exq rfl ⟨(by (first | lia | omega)), (by (first | lia | omega)), ?_⟩)))
    refine for_range' (lo := 0) (n := (p : Int).toNat) (fun i σ H2 => ∃ v3 v4, σ = [some (.ref wb), some (.int (m : Int)), some (.ref M), v3, v4] ∧ Same H H2 ∧ H2 M = some (.lst (natsV ((List.range i).filter fun x => decide ((netOf p ts g).dg m x = 2)))) ∧ ∀ x, x < i → (netOf p ts g).dg m x = 0 ∨ (netOf p ts g).dg m x = 2)
      ⟨none, none, rfl, s0, hM0, fun x hx => absurd hx (Nat.not_lt_zero _)⟩ ?_ ?_
    · rintro i D1 σ H2 hi ⟨v3, v4, rfl, s2, hM2, hd⟩
      rw [Int.toNat_natCast] at hi
      rw [Int.zero_add]
      refine (exq rfl ⟨m, rfl, hm24, fun F H3 hFn s3 hF => ⟨F, rfl, ⟨_, SqL.of hF⟩, fun C hC => comp_list (xs := natsV (tiesOf (m : Int))) (Filt (fun t => decide ((netOf p ts g).a t = i ∨ (netOf p ts g).b t = i)) (tiesOf (m : Int)) H3 C) (.start hC) (fun j acc H4 _ f => ⟨SqL.of (f.1 _ _ hF), f.len⟩) ?_ ?_ ?_⟩⟩)
      · rw [natsV_len]
        refine small24 (Nat.le_trans (List.length_filter_le _ _) ?_)
        rw [List.length_range]
        (first | lia | omega)
      · intro j y acc H4 hy f
        obtain ⟨t, ht, rfl⟩ := natsV_get hy
        have htl := ties_lt hm (List.mem_of_getElem? ht)
        obtain ⟨b, hxb, hct⟩ := tie_in (g := g) h3 htl
        have s4 := (s2.trans s3).trans f.1
        refine ⟨rfl, exq rfl (exq rfl (ixq (SqT.of (s4 _ _ h1)) (atI_nat (j := 1) rfl) (exq rfl (ixq (SqT.of (s4 _ _ h2)) (atI_nat (j := t) hxb) (?_)))))⟩
        refine (exq rfl ⟨b, _, rfl, SqT.of (s4 _ _ hct), (fun z => absurd (show HT.sIx 3 3 (some 2) = 3 from z.2) (by decide)), fun u hu => ?_⟩)
        rw [cut_two]
        refine (lnq rfl (.inr (SqT.of upd_same)) ⟨rfl, rfl, exq rfl (?_)⟩)
        dsimp only
        rw [in_two]
        cases hb : decide ((netOf p ts g).a t = i ∨ (netOf p ts g).b t = i) with
        | true => exact (exq rfl (f.yes hC (Same.new hu) ht hb))
        | false => exact f.no (Same.new hu) ht hb
      intro acc H4 f
      rw [natsV_len] at f
      have hC4 := f.fin
      have s24 := s3.trans f.1
      have s4 := s2.trans s24
      have hM4 := s24 _ _ hM2
      refine (lnq rfl (.inl (SqL.of hC4)) (?_))
      rw [natsV_len, tiesAt_dg hm]
      refine (exq rfl ⟨rfl, exq rfl (?_)⟩)
      have fs := filter_range_succ (fun x => decide ((netOf p ts g).dg m x = 2)) i
      have hml : (natsV ((List.range i).filter fun x => decide ((netOf p ts g).dg m x = 2))).length ≤ 10 := by
        rw [natsV_len]
        have := List.length_filter_le (fun x => decide ((netOf p ts g).dg m x = 2)) (List.range i)
        rw [List.length_range] at this
        (first | lia | omega)
      by_cases d0 : (netOf p ts g).dg m i = 0
      · refine iteNS (congrArg (fun n : Nat => V.int (n : Int)) d0) (exq rfl ⟨rfl, exq rfl (?_)⟩)
        rw [decide_eq_false (fun z => by have := V.int.inj z; (first | lia | omega))]
        refine iteF ⟨_, _, rfl, s4, ?_, fun x hx => ?_⟩
        · rw [fs, if_neg (by rw [decide_eq_false (by (first | lia | omega))]; decide), List.append_nil]
          exact hM4
        · by_cases e : x = i
          · rw [e]; exact .inl d0
          · exact hd x (by (first | lia | omega))
      · refine iteNd (fun z => d0 (by have := V.int.inj z; (first | lia | omega))) (exq rfl ⟨rfl, exq rfl (?_)⟩)
        by_cases d2 : (netOf p ts g).dg m i = 2
        · refine iteNS (congrArg (fun n : Nat => V.int (n : Int)) d2) (exq rfl ⟨rfl, exq rfl (?_)⟩)
          rw [decide_eq_true (show V.int (((netOf p ts g).dg m i : Nat) : Int) = V.int 2 from congrArg V.int (by (first | lia | omega)))]
          refine iteT (exq rfl ⟨.inl ⟨rfl, _, SqL.of hM4⟩, exq rfl ⟨M, _, _, rfl, rfl, hM4, smallL (by (first | lia | omega)), _, _, rfl, s4.put hM, ?_, fun x hx => ?_⟩⟩)
          · rw [upd_same, fs, if_pos (decide_eq_true d2), natsV_snoc]
          · by_cases e : x = i
            · rw [e]; exact .inr d2
            · exact hd x (by (first | lia | omega))
        · refine iteNd (fun z => d2 (by have := V.int.inj z; (first | lia | omega))) (bad _ s4 fun rg => ?_)
          rcases RM.ring_d2 hm rg i hi with e | e
          · exact d0 e
          · exact d2 e
    · rintro σ H2 ⟨v3, v4, rfl, s2, hM2, hd⟩
      rw [Int.toNat_natCast] at hM2 hd
      have d2 : (netOf p ts g).D2 m := hd
      obtain ⟨x0, hx0⟩ : ∃ x0, ((List.range p).filter fun x => decide ((netOf p ts g).dg m x = 2))[0]? = some x0 := by
        obtain ⟨k, hk⟩ := Nat.exists_testBit_of_ne_zero hm0
        have hkn := RM.bits_lt hm hk
        have hap := (netOf p ts g).al k hkn
        have hpos := RM.dg_at (N := netOf p ts g) hkn hk (.inl rfl)
        have hmem : (netOf p ts g).a k ∈ (List.range p).filter fun x => decide ((netOf p ts g).dg m x = 2) := by
          refine List.mem_filter.mpr ⟨List.mem_range.mpr hap, decide_eq_true ?_⟩
          rcases d2 _ hap with e | e
          · (first | lia | omega)
          · exact e
        cases e : (List.range p).filter fun x => decide ((netOf p ts g).dg m x = 2) with
        | nil => rw [e] at hmem; cases hmem
        | cons x r => exact ⟨x, rfl⟩
      obtain ⟨hxr, hxd⟩ := List.mem_filter.mp (List.mem_of_getElem? hx0)
      have hxp : x0 < p := List.mem_range.mp hxr
      have one := RM.d2_one (N := netOf p ts g) hm d2 hxp (of_decide_eq_true hxd)
      refine (exq rfl (exq rfl (exq rfl (ixl (SqL.of hM2) (atI_nat (j := 0) (nats_at hx0)) ⟨wb, p, ts, g, m, x0, rfl, hw.same s2, hm, hxp, fun D H3 hDn s3 hD => ?_⟩))))
      refine (exq rfl ⟨_, _, .lst (SqL.of hD) (nats_dat _), .lst (SqL.of (s3 _ _ hM2)) (nats_dat _), shaped_nats _, shaped_nats _, ?_⟩)
      rw [eqv_lists]
      refine q H3 _ (s2.trans s3) ?_
      rw [decide_eq_true_iff]
      have key : pieceOf (labOf p ts g m) p (labOf p ts g m x0) = ((List.range p).filter fun x => decide ((netOf p ts g).dg m x = 2)) ↔ (netOf p ts g).Ring m := by
        rw [one]
        constructor
        · intro e x hx
          have e1 : x ∈ pieceOf (labOf p ts g m) p (labOf p ts g m x0) ↔ x ∈ (List.range p).filter fun x => decide ((netOf p ts g).dg m x = 2) := by rw [e]
          unfold pieceOf at e1
          rw [List.mem_filter, List.mem_filter, List.mem_range, decide_eq_true_iff, decide_eq_true_iff] at e1
          exact ⟨fun z => (e1.mp ⟨hx, z⟩).2, fun z => (e1.mpr ⟨hx, z⟩).2⟩
        · intro h
          unfold pieceOf
          refine List.filter_congr fun x hx => ?_
          exact decide_eq_decide.mpr (h x (List.mem_range.mp hx))
      rw [key]
      exact ⟨fun r => ⟨m, rfl, hm, r⟩, fun ⟨r, e, _, rg⟩ => by
        have : m = r := by (first | lia | omega)
        rw [this]
        exact rg⟩
end

def AnsS (p : Nat) (ts : List Tie) (g : GoodWeb p ts) (m : Nat) (H : Hp) (t : Addr) : Prop :=
  (∃ (l : Addr) (xs : List Nat), H t = some (.tup [.str "side", .ref l]) ∧ H l = some (.lst (natsV xs)) ∧ xs.Pairwise (· < ·) ∧ (∀ x ∈ xs, x < p ∧ (netOf p ts g).trail ts.length x ≠ 0) ∧ m = (netOf p ts g).cut (fun x => decide (x ∈ xs))) ∨
  (∃ r : Nat, H t = some (.tup [.str "ring", .int (r : Int)]) ∧ r < 2 ^ ts.length ∧ (netOf p ts g).Ring r ∧ (netOf p ts g).par r m = true)
def sp_refused : Sp := fun vs H Q _ => ∃ w p ts, ∃ g : GoodWeb p ts, ∃ S : Int, vs = [.ref w, .int S] ∧ WebAt H w p ts ∧ (S < 0 ∨ 2 ^ ts.length ≤ S) ∧ ∀ H', Same H H' → Q (.bl true) H'
section
variable {P : Program} {w : World} {K : PySem.W.Frag} {mg : Str → Option Value} {base : Heap} {a : Adr}
theorem G_law_refused (T : Txt K mg a) : FnOk P w K mg base CX0 7 a.f_law_refused a.d_law_refused ["web", "some"] sp_refused := by
  have G_law_kinds := fun ea => G_law_kinds (P := P) (w := w) (base := base) T ea
  have G_side_of : FnOk P w K mg base (CX1 P w) 6 a.f_side_of a.d_side_of ["web", "tie_set"] (sp_side_of a.c_BadSet) := G_side_of T
  refine T.F_law_refused.ok sc_law_refused (fun vs H Q E h => ?_) (fun cdv A outer s H vs Q E hr h => ?_)
  · obtain ⟨w, p, ts, g, S, rfl, _⟩ := h
    rfl
  · obtain ⟨wb, p, ts, g, S, rfl, hw, hbad, q⟩ := h
    refine ⟨_, (pss_cons (ps_set (i := 2) sc_law_refused.nd rfl (Or.inl rfl) pe_non)
      (pss_cons (ps_try (i := 3) K rfl rfl rfl sc_law_refused.nd rfl rfl (by rfl) T.g_RingError (fun E pn xe hp => (pss_one (ps_expr (pe_call G_side_of (hr.mono (by decide)) (by rfl) T.m_side_of T.k_side_of T.b_side_of .nil hp (pa_cons (pv 0) (pa_cons (pv 1) pa_nil)))))) (fun ea pn => (pss_one (ps_set (i := 2) sc_law_refused.nd rfl (Or.inl rfl) (pe_callH (G_law_kinds ea) ((hr.mono (by decide)).mark ea) (by rfl) T.m_law_kinds T.k_law_kinds T.b_law_kinds .nil (pa_cons (pv 3) pa_nil))))))
      (pss_one (ps_ret (pe_cmpR (op_eqK K hr.units) (pv 2) (pe_lst (pa_cons pe_int pa_nil)) (nomark _)))))), ?_⟩
    refine hd_law_refused ?_
    intro zz0 zz1
    refine ⟨fun cls od H' => cls = .ref a.c_BadSet ∧ Same H H', ?_, ?_⟩
    · exact (exq rfl (exq rfl ⟨wb, p, ts, g, S, rfl, hw, .inr ⟨hbad, rfl, Same.refl _⟩⟩))
    · rintro cls od H' ⟨rfl, s1⟩
      refine ⟨T.h_BadSet, fun ea hea => ?_⟩
      have s2 := s1.trans (Same.new (o := ExcO ea (.ref a.c_BadSet)) hea)
      refine (exq rfl ⟨rfl, a.c_BadSet, 1, upd_same, kinds_BadSet T, fun D H3 hD s3 hD3 => ?_⟩)
      refine (exq rfl ⟨dl rfl, fun l hl => ⟨_, _, .lst (SqL.of (Same.new hl _ _ hD3)) (nats_dat [1]), .lst (SqL.of upd_same) (nats_dat [1]), shaped_nats _, shaped_nats _, ?_⟩⟩)
      rw [eqv_nats]
      exact q _ ((s2.trans s3).trans (Same.new hl))
end

def sp_ans : Sp := fun vs H Q _ => ∃ w p ts, ∃ g : GoodWeb p ts, ∃ (m : Nat) (t : Addr), vs = [.ref w, .int (m : Int), .ref t] ∧ WebAt H w p ts ∧ m < 2 ^ ts.length ∧ AnsS p ts g m H t ∧ ∀ H', Same H H' → Q (.bl true) H'
theorem sorted_eq : ∀ {l1 l2 : List Nat}, l1.Pairwise (· < ·) → l2.Pairwise (· < ·) → (∀ k, k ∈ l1 ↔ k ∈ l2) → l1 = l2
  | [], [], _, _, _ => rfl
  | [], b :: r, _, _, h => absurd ((h b).mpr (List.mem_cons_self ..)) (by simp)
  | b :: r, [], _, _, h => absurd ((h b).mp (List.mem_cons_self ..)) (by simp)
  | x :: r1, y :: r2, p1, p2, h => by
    obtain ⟨a1, q1⟩ := List.pairwise_cons.mp p1
    obtain ⟨a2, q2⟩ := List.pairwise_cons.mp p2
    have e : x = y := by
      rcases List.mem_cons.mp ((h x).mp (List.mem_cons_self ..)) with z | z
      · exact z
      · rcases List.mem_cons.mp ((h y).mpr (List.mem_cons_self ..)) with v | v
        · exact v.symm
        · have := a1 y v
          have := a2 x z
          (first | lia | omega)
    subst e
    have e2 : r1 = r2 := sorted_eq q1 q2 fun k => by
      constructor
      · intro z
        rcases List.mem_cons.mp ((h k).mp (List.mem_cons_of_mem _ z)) with v | v
        · have := a1 k z
          (first | lia | omega)
        · exact v
      · intro z
        rcases List.mem_cons.mp ((h k).mpr (List.mem_cons_of_mem _ z)) with v | v
        · have := a2 k z
          (first | lia | omega)
        · exact v
    rw [e2]
theorem kit_sr (K : PySem.W.Frag) : PySem.W.kitOne K (.type "str") (.type "str") = some true := by with_unfolding_all rfl
section
variable {P : Program} {w : World} {K : PySem.W.Frag} {mg : Str → Option Value} {base : Heap} {a : Adr}
theorem G_law_answer_good (T : Txt K mg a) : FnOk P w K mg base CX0 4 a.f_law_answer_good a.d_law_answer_good ["web", "some", "found"] sp_ans := by
  have G_law_whole : FnOk P w K mg base CX0 1 a.f_law_whole a.d_law_whole ["found"] sp_whole := G_law_whole T
  have G_law_is_ring : FnOk P w K mg base CX0 3 a.f_law_is_ring a.d_law_is_ring ["web", "some"] sp_lring := G_law_is_ring T
  have G_law_ones : FnOk P w K mg base CX0 1 a.f_law_ones a.d_law_ones ["number"] sp_ones := G_law_ones T
  have G_law_reached : FnOk P w K mg base CX0 2 a.f_law_reached a.d_law_reached ["web", "some", "point"] sp_reached := G_law_reached T
  have G_law_cut : FnOk P w K mg base CX0 1 a.f_law_cut a.d_law_cut ["web", "side"] sp_lcut := G_law_cut T
  refine T.F_law_answer_good.ok sc_law_answer_good (fun vs H Q E h => ?_) (fun cdv A outer s H vs Q E hr h => ?_)
  · obtain ⟨w, p, ts, g, m, t, rfl, _⟩ := h
    rfl
  · obtain ⟨wb, p, ts, g, m, t, rfl, hw, hm, hans, q⟩ := h
    refine ⟨_, (pss_cons (ps_if (PW.pt (pw_or (pt_not (pt_val (pe_callB (isiK K) (by rfl) T.n_isinstance PyProof.Rows.boot_isinstance (pa_cons (pv 2) (pa_cons (pe_ty (by rfl) T.n_tuple PyProof.Rows.boot_tuple) pa_nil))))) (pw_or (pt_cmpR op_ne (pe_callB (lenK K) (by rfl) T.n_len PySem.boot_len (pa_cons (pv 2) pa_nil)) pe_int (nomark _)) (pw_or1 (pt_not (pt_val (pe_callB (isiK K) (by rfl) T.n_isinstance PyProof.Rows.boot_isinstance (pa_cons (pe_ix (ixT K) (pv 2) pe_int (fun _ _ => rfl)) (pa_cons (pe_ty (by rfl) T.n_str PyProof.Rows.boot_str) pa_nil))))))))) (pss_one (ps_ret pe_bl)) pss_nil)
      (pss_cons (ps_if (pt_cmpR op_eq (pe_ix (ixT K) (pv 2) pe_int (fun _ _ => rfl)) pe_str (nomark _)) (pss_cons (ps_if (PW.pt (pw_or (pt_not (pt_val (pe_call G_law_whole (hr.mono (by decide)) (by rfl) T.m_law_whole T.k_law_whole T.b_law_whole .nil pass0 (pa_cons (pe_ix (ixT K) (pv 2) pe_int (fun _ _ => rfl)) pa_nil)))) (pw_or1 (pt_not (pt_val (pe_call G_law_is_ring (hr.mono (by decide)) (by rfl) T.m_law_is_ring T.k_law_is_ring T.b_law_is_ring .nil pass0 (pa_cons (pv 0) (pa_cons (pe_ix (ixT K) (pv 2) pe_int (fun _ _ => rfl)) pa_nil)))))))) (pss_one (ps_ret pe_bl)) pss_nil)
      (pss_one (ps_ret (pe_cmpR op_eq (pe_op op_mod (pe_call G_law_ones (hr.mono (by decide)) (by rfl) T.m_law_ones T.k_law_ones T.b_law_ones .nil pass0 (pa_cons (pe_op op_and (pe_ix (ixT K) (pv 2) pe_int (fun _ _ => rfl)) (pv 1)) pa_nil)) pe_int) pe_int (nomark _))))) pss_nil)
      (pss_cons (ps_if (PW.pt (pw_or (pt_cmpR op_ne (pe_ix (ixT K) (pv 2) pe_int (fun _ _ => rfl)) pe_str (nomark _)) (pw_or (pt_not (pt_val (pe_callB (isiK K) (by rfl) T.n_isinstance PyProof.Rows.boot_isinstance (pa_cons (pe_ix (ixT K) (pv 2) pe_int (fun _ _ => rfl)) (pa_cons (pe_ty (by rfl) T.n_list PyProof.Rows.boot_list) pa_nil))))) (pw_or1 (pt_cmpR (op_neK K hr.units) (pe_ix (ixT K) (pv 2) pe_int (fun _ _ => rfl)) (pe_callB (sortedS rfl) (by rfl) T.n_sorted PyProof.Rows.boot_sorted (pa_cons (pe_callTy (setS K rfl) (by rfl) T.n_set PyProof.Rows.boot_set (pa_cons (pe_ix (ixT K) (pv 2) pe_int (fun _ _ => rfl)) pa_nil)) pa_nil)) (nomark _)))))) (pss_one (ps_ret pe_bl)) pss_nil)
      (pss_cons (ps_for PassesOwn.never rfl (piL K (pe_ix (ixT K) (pv 2) pe_int (fun _ _ => rfl))) (pg_name (i := 3) sc_law_answer_good.nd rfl (Or.inl rfl))
      (pss_cons (ps_if (PW.pt (pw_or (pt_not (pt_val (pe_call G_law_whole (hr.mono (by decide)) (by rfl) T.m_law_whole T.k_law_whole T.b_law_whole .nil pass0 (pa_cons (pv 3) pa_nil)))) (pw_or (pt_cmpR op_lt (pv 3) pe_int (nomark _)) (pw_or1 (pt_cmpR op_ge (pv 3) (pe_ix (ixT K) (pv 0) pe_int (fun _ _ => rfl)) (nomark _)))))) (pss_one (ps_ret pe_bl)) pss_nil)
      (pss_one (ps_if (pt_cmpR op_eq (pe_ix (ixL K) (pe_call G_law_reached (hr.mono (by decide)) (by rfl) T.m_law_reached T.k_law_reached T.b_law_reached .nil pass0 (pa_cons (pv 0) (pa_cons (pe_op op_sub (pe_op op_shl pe_int (pe_callB (lenK K) (by rfl) T.n_len PySem.boot_len (pa_cons (pe_ix (ixT K) (pv 0) pe_int (fun _ _ => rfl)) pa_nil))) pe_int) (pa_cons (pv 3) pa_nil)))) pe_int (fun _ _ => rfl)) (pv 3) (nomark _)) (pss_one (ps_ret pe_bl)) pss_nil))))
      (pss_one (ps_ret (pe_cmpR op_eq (pe_call G_law_cut (hr.mono (by decide)) (by rfl) T.m_law_cut T.k_law_cut T.b_law_cut .nil pass0 (pa_cons (pv 0) (pa_cons (pe_ix (ixT K) (pv 2) pe_int (fun _ _ => rfl)) pa_nil))) (pv 1) (nomark _)))))))), ?_⟩
    refine hd_law_answer_good ?_
    intro zz0 zz1 zz2 zz3 zz4 zz5 zz6 zz7 zz8 zz9 zz10 zz11 zz12
    obtain ⟨bt, xs, h1, h2, h3⟩ := id hw.ex
    have hxl := h3.length
    have wl := g.len
    have wp := g.p2
    rcases hans with ⟨l, zs, ht, hl, hpw, hin, hcut⟩ | ⟨r, ht, hr', rg, hpar⟩
    case inr =>
      refine (exq rfl ⟨_, _, _, _, _, rfl, rfl, .tup ht, kit_tt K, _, rfl, iteF (exq rfl (lnq rfl (.inr (SqT.of ht)) ⟨rfl, exq rfl (iteNS rfl (exq rfl (ixq (SqT.of ht) (atI_nat (j := 0) rfl) ⟨_, _, _, _, _, rfl, rfl, .str _, kit_sr K, _, rfl, iteF ?_⟩)))⟩))⟩)
      refine (exq rfl (ixq (SqT.of ht) (atI_nat (j := 0) rfl) ⟨rfl, exq rfl (?_)⟩))
      rw [decide_eq_true rfl]
      refine iteT (exq rfl (ixq (SqT.of ht) (atI_nat (j := 1) rfl) (exq rfl (exq rfl (iteF (exq rfl (exq rfl (ixq (SqT.of ht) (atI_nat (j := 1) rfl) ⟨wb, p, ts, g, _, rfl, hw, fun H1 d s1 hd => (exq rfl (?_))⟩))))))))
      have hd1 : d = true := hd.mpr ⟨r, rfl, hr', rg⟩
      subst hd1
      have hrm : r &&& m < 2 ^ ts.length := Nat.and_lt_two_pow _ hm
      refine iteF (exq rfl (ixq (SqT.of (s1 _ _ ht)) (atI_nat (j := 1) rfl) (exq rfl (ijq (?_)))))
      dsimp only
      rw [and_int]
      refine ⟨r &&& m, rfl, fun k hk => (ijq ⟨(modC rfl), rfl, ?_⟩)⟩
      have hk2 := hk _ hrm
      rw [← ties_cnt hrm] at hk2
      have hp2 := par_len (g := g) (q := r) hm
      rw [hpar, ← hk2] at hp2
      have hp3 := of_decide_eq_true hp2
      have e : decide (V.int (((k : Nat) : Int) % 2) = V.int 1) = true := decide_eq_true (congrArg V.int (by (first | lia | omega)))
      have q1 := q H1 s1
      rw [← e] at q1
      exact q1
    case inl =>
      refine (exq rfl ⟨_, _, _, _, _, rfl, rfl, .tup ht, kit_tt K, _, rfl, iteF (exq rfl (lnq rfl (.inr (SqT.of ht)) ⟨rfl, exq rfl (iteNS rfl (exq rfl (ixq (SqT.of ht) (atI_nat (j := 0) rfl) ⟨_, _, _, _, _, rfl, rfl, .str _, kit_sr K, _, rfl, iteF ?_⟩)))⟩))⟩)
      refine (exq rfl (ixq (SqT.of ht) (atI_nat (j := 0) rfl) ⟨rfl, exq rfl (?_)⟩))
      rw [decide_eq_false (by intro z; cases z)]
      have hzl : zs.length ≤ p := by
        have nd : zs.Nodup := hpw.imp fun h => Nat.ne_of_lt h
        have z := List.Nodup.length_le_of_subset nd (l₂ := List.range p) fun x hx => List.mem_range.mpr (hin x hx).1
        rw [List.length_range] at z
        exact z
      refine iteF (exq rfl (ixq (SqT.of ht) (atI_nat (j := 0) rfl) ⟨rfl, exq rfl (?_)⟩))
      rw [decide_eq_true rfl]
      refine iteF (exq rfl (ixq (SqT.of ht) (atI_nat (j := 1) rfl) ⟨_, _, _, _, _, rfl, rfl, .lst hl, kit_ll K, _, rfl, iteF ?_⟩))
      refine (exq rfl (ixq (SqT.of ht) (atI_nat (j := 1) rfl) (exq rfl (ixq (SqT.of ht) (atI_nat (j := 1) rfl) ⟨l, zs, rfl, SqL.of hl, fun k hk => by have := (hin k hk).1; (first | lia | omega), by (first | lia | omega), fun S hS => ⟨S, zs, rfl, upd_same, fun R ms hR hpw2 hmem => ?_⟩⟩))))
      have hms : ms = zs := sorted_eq hpw2 hpw hmem
      subst hms
      refine ⟨_, _, .lst (SqL.of (Same.new hR _ _ (Same.new hS _ _ hl))) (nats_dat ms), .lst (SqL.of upd_same) (nats_dat ms), shaped_nats _, shaped_nats _, _, rfl, ?_⟩
      rw [eqv_nats]
      have e2 : (1 * 2 ^ ((xs.length : Nat) : Int).toNat - 1 : Int) = ((2 ^ ts.length - 1 : Nat) : Int) := by
        rw [Int.toNat_natCast, hxl, Int.one_mul]
        have h : ((2 : Int) ^ ts.length) = ((2 ^ ts.length : Nat) : Int) := by simp
        have := Nat.two_pow_pos ts.length
        (first | lia | omega)
      have hlt : 2 ^ ts.length - 1 < 2 ^ ts.length := by have := Nat.two_pow_pos ts.length; (first | lia | omega)
      refine iteF (exq rfl (ixq (SqT.of (Same.new hR _ _ (Same.new hS _ _ ht))) (atI_nat (j := 1) rfl) ⟨l, rfl, ⟨_, SqL.of (Same.new hR _ _ (Same.new hS _ _ hl))⟩, for_list' (K := K) (a := l) (xs := natsV ms) (fun i σ H3 => ∃ v3, σ = [some (.ref wb), some (.int (m : Int)), some (.ref t), v3] ∧ Same H H3) ⟨none, rfl, (Same.new hS).trans (Same.new hR)⟩ (fun i σ H3 _ ⟨_, _, z⟩ => SqL.of (z _ _ hl)) ?_ ?_⟩))
      · rintro i x D' σ H3 hx ⟨v3, rfl, s3⟩
        obtain ⟨k, hk, rfl⟩ := natsV_get hx
        obtain ⟨hkp, hkt⟩ := hin k (List.mem_of_getElem? hk)
        have hlab : (netOf p ts g).lab ts.length k ≠ k := fun z => hkt (RM.trail_root (N := netOf p ts g) z)
        have hL : labOf p ts g (2 ^ ts.length - 1) k = (netOf p ts g).lab ts.length k := by rw [lab_all]
        have hhead : (pieceOf (labOf p ts g (2 ^ ts.length - 1)) p (labOf p ts g (2 ^ ts.length - 1) k))[0]? = some (labOf p ts g (2 ^ ts.length - 1) k) := piece_head (fun x => RM.labs_le _ _) (RM.labs_root _ _) (Nat.lt_of_le_of_lt (RM.labs_le _ _) hkp)
        refine (exq rfl (exq rfl (exq rfl (iteF (exq rfl (ijq (exq rfl (iteD (by (first | lia | omega)) (exq rfl (exq rfl (ixq (SqT.of (s3 _ _ h1)) (atI_nat (j := 0) rfl) (ijq (exq rfl (iteD (by (first | lia | omega)) ?_))))))))))))))
        refine (exq rfl (exq rfl (ixq (SqT.of (s3 _ _ h1)) (atI_nat (j := 1) rfl) (lnq rfl (.inr (SqT.of (s3 _ _ h2))) (ijq ⟨⟨by (first | lia | omega), by (first | lia | omega), by decide⟩, ijq (exq rfl ⟨wb, p, ts, g, 2 ^ ts.length - 1, k, congrArg (fun u => [V.ref wb, V.int u, V.int (k : Int)]) e2, hw.same s3, hlt, hkp, fun D H4 hD s4 hD4 => (ixl (SqL.of hD4) (atI_nat (j := 0) (nats_at hhead)) (exq rfl ⟨rfl, exq rfl (?_)⟩))⟩)⟩)))))
        rw [decide_eq_false (fun z => hlab (by have := V.int.inj z; (first | lia | omega)))]
        exact iteF (exq rfl (s3.trans s4))
      · rintro σ H3 ⟨v3, rfl, s3⟩
        refine (exq rfl (exq rfl (ixq (SqT.of (s3 _ _ ht)) (atI_nat (j := 1) rfl) ⟨wb, p, ts, g, l, ms, rfl, hw.same s3, s3 _ _ hl, fun H4 s4 => (exq rfl ⟨rfl, ?_⟩)⟩)))
        rw [← hcut, decide_eq_true rfl]
        exact q H4 (s3.trans s4)
end

def sp_anew : Sp := fun vs H Q _ => ∃ w p ts, ∃ g : GoodWeb p ts, ∃ (S : Int) (m : Nat), vs = [.ref w, .int S] ∧ S = (m : Int) ∧ WebAt H w p ts ∧ m < 2 ^ ts.length ∧ ∀ H', Same H H' → Q (.bl true) H'
theorem xsum_no : ∀ n, RM.xsum (fun _ => false) n = false
  | 0 => rfl
  | n + 1 => by simp [RM.xsum, xsum_no n]
theorem told_ans {p : Nat} {ts : List Tie} {g : GoodWeb p ts} {m : Nat} {H H' : Hp} {t : Addr} (h : Told p ts g m H H' t) : AnsS p ts g m H' t := by
  rcases h with ⟨e, l, _, ht, hl⟩ | ⟨c, hc, hp, ht⟩
  · refine .inl ⟨l, _, ht, hl, List.Pairwise.filter _ List.pairwise_lt_range, fun x hx => ?_, e⟩
    obtain ⟨h1, h2⟩ := List.mem_filter.mp hx
    refine ⟨List.mem_range.mp h1, fun z => ?_⟩
    rw [z] at h2
    simp [RM.Net.par, xsum_no] at h2
  · obtain ⟨c1, c2⟩ := RM.chords_mem.mp hc
    exact .inr ⟨_, ht, RM.ring_lt (N := netOf p ts g) c1, RM.chord_isRing (N := netOf p ts g) c1 c2, hp⟩
section
variable {P : Program} {w : World} {K : PySem.W.Frag} {mg : Str → Option Value} {base : Heap} {a : Adr}
theorem G_law_told_anew (T : Txt K mg a) : FnOk P w K mg base CX0 7 a.f_law_told_anew a.d_law_told_anew ["web", "some"] sp_anew := by
  have G_side_of : FnOk P w K mg base (CX1 P w) 6 a.f_side_of a.d_side_of ["web", "tie_set"] (sp_side_of a.c_BadSet) := G_side_of T
  have G_law_answer_good : FnOk P w K mg base CX0 4 a.f_law_answer_good a.d_law_answer_good ["web", "some", "found"] sp_ans := G_law_answer_good T
  refine T.F_law_told_anew.ok sc_law_told_anew (fun vs H Q E h => ?_) (fun cdv A outer s H vs Q E hr h => ?_)
  · obtain ⟨w, p, ts, g, S, m, rfl, _⟩ := h
    rfl
  · obtain ⟨wb, p, ts, g, S, m, rfl, rfl, hw, hm, q⟩ := h
    refine ⟨_, (pss_cons (ps_set (i := 2) sc_law_told_anew.nd rfl (Or.inl rfl) (pe_call G_side_of (hr.mono (by decide)) (by rfl) T.m_side_of T.k_side_of T.b_side_of .nil passN (pa_cons (pv 0) (pa_cons (pv 1) pa_nil))))
      (pss_cons (ps_if (pt_not (pt_val (pe_call G_law_answer_good (hr.mono (by decide)) (by rfl) T.m_law_answer_good T.k_law_answer_good T.b_law_answer_good .nil pass0 (pa_cons (pv 0) (pa_cons (pv 1) (pa_cons (pv 2) pa_nil)))))) (pss_one (ps_ret pe_bl)) pss_nil)
      (pss_cons (ps_if (pt_cmpR op_eq (pe_ix (ixT K) (pv 2) pe_int (fun _ _ => rfl)) pe_str (nomark _)) (pss_one (ps_expr (bmK K (pe_bm PySem.F.plainAttrs_list PySem.F.slot_list_append PySem.F.type_list_append mt_append (pe_ix (ixT K) (pv 2) pe_int (fun _ _ => rfl)) (pa_cons pe_int pa_nil))))) pss_nil)
      (pss_one (ps_ret (pe_call G_law_answer_good (hr.mono (by decide)) (by rfl) T.m_law_answer_good T.k_law_answer_good T.b_law_answer_good .nil pass0 (pa_cons (pv 0) (pa_cons (pv 1) (pa_cons (pe_call G_side_of (hr.mono (by decide)) (by rfl) T.m_side_of T.k_side_of T.b_side_of .nil passN (pa_cons (pv 0) (pa_cons (pv 1) pa_nil))) pa_nil))))))))), ?_⟩
    refine hd_law_told_anew ?_
    intro zz0 zz1 zz2 zz3 zz4
    refine (exq rfl (exq rfl ⟨wb, p, ts, g, _, rfl, hw, .inl ⟨m, rfl, hm, fun t H1 ht s1 told => ?_⟩⟩))
    refine (exq rfl (exq rfl (exq rfl ⟨wb, p, ts, g, m, t, rfl, hw.same s1, hm, told_ans told, fun H2 s2 => (exq rfl (iteF ?_))⟩)))
    have s12 := s1.trans s2
    rcases told with ⟨_, l, hn, hta, hla⟩ | ⟨c, _, _, hta⟩
    · refine (exq rfl (ixq (SqT.of (s2 _ _ hta)) (atI_nat (j := 0) rfl) ⟨rfl, exq rfl (?_)⟩))
      rw [decide_eq_true rfl]
      have hla2 := s2 _ _ hla
      have hlen : (natsV (sideL p ts g m)).length ≤ 900 := by
        rw [natsV_len]
        refine Nat.le_trans (List.length_filter_le _ _) ?_
        rw [List.length_range]
        have := g.web.pts
        (first | lia | omega)
      refine iteT (exq rfl (ixq (SqT.of (s2 _ _ hta)) (atI_nat (j := 1) rfl) ⟨.inl ⟨rfl, _, SqL.of hla2⟩, l, _, _, rfl, rfl, hla2, smallL hlen, ?_⟩))
      have s13 := s12.put (o := .lst (natsV (sideL p ts g m) ++ [.int 0])) hn
      generalize upd H2 l (.lst (natsV (sideL p ts g m) ++ [.int 0])) = H5 at s13
      refine (exq rfl (exq rfl (exq rfl (exq rfl ⟨wb, p, ts, g, _, rfl, hw.same s13, .inl ⟨m, rfl, hm, fun t2 H3 ht2 s3 told2 => ⟨wb, p, ts, g, m, t2, rfl, hw.same (s13.trans s3), hm, told_ans told2, fun H4 s4 => q H4 ((s13.trans s3).trans s4)⟩⟩⟩))))
    · refine (exq rfl (ixq (SqT.of (s2 _ _ hta)) (atI_nat (j := 0) rfl) ⟨rfl, exq rfl (?_)⟩))
      rw [decide_eq_false (by intro z; cases z)]
      refine iteF (exq rfl (exq rfl (exq rfl (exq rfl ⟨wb, p, ts, g, _, rfl, hw.same s12, .inl ⟨m, rfl, hm, fun t2 H3 ht2 s3 told2 => ⟨wb, p, ts, g, m, t2, rfl, hw.same (s12.trans s3), hm, told_ans told2, fun H4 s4 => q H4 ((s12.trans s3).trans s4)⟩⟩⟩))))
end

def sp_law (K : PySem.W.Frag) : Sp := fun vs H Q _ => ∃ (a : Addr) (ns : List Int), vs = [.ref a] ∧ SqL K H a (ns.map V.int) ∧ ns.length ≤ 63 ∧ ∀ H', Q (.bl true) H'
theorem four_bad {n : Nat} (t : Int) (ht : 0 ≤ t) : ∃ S, atI [V.int (-1), V.int ((2 ^ n : Nat) : Int), V.int (((2 ^ n : Nat) : Int) + t), V.int (-1 - t)] (t % 4) = some (.int S) ∧ (S < 0 ∨ 2 ^ n ≤ S) := by
  have h1 := Int.emod_nonneg t (show (4 : Int) ≠ 0 by decide)
  have h2 := Int.emod_lt_of_pos t (show (0 : Int) < 4 by decide)
  have h : t % 4 = 0 ∨ t % 4 = 1 ∨ t % 4 = 2 ∨ t % 4 = 3 := by (first | lia | omega)
  have h2n : ((2 : Int) ^ n) = ((2 ^ n : Nat) : Int) := by simp
  rw [h2n]
  rcases h with e | e | e | e
  · exact ⟨-1, by rw [e]; rfl, .inl (by decide)⟩
  · exact ⟨_, by rw [e]; rfl, .inr (Int.le_refl _)⟩
  · exact ⟨_, by rw [e]; rfl, .inr (by (first | lia | omega))⟩
  · exact ⟨-1 - t, by rw [e]; rfl, .inl (by (first | lia | omega))⟩
theorem emod_at (t : Int) {n : Nat} (h : 0 < n) : ∃ k : Nat, t % (n : Int) = (k : Int) ∧ k < n := by
  have h1 := Int.emod_nonneg t (show (n : Int) ≠ 0 by (first | lia | omega))
  have h2 := Int.emod_lt_of_pos t (show (0 : Int) < n by (first | lia | omega))
  exact ⟨(t % (n : Int)).toNat, by (first | lia | omega), by (first | lia | omega)⟩
theorem one_shl (n : Nat) : (1 : Int) * 2 ^ ((n : Nat) : Int).toNat = ((2 ^ n : Nat) : Int) := by rw [Int.toNat_natCast, Int.one_mul]; simp
section
variable {P : Program} {w : World} {K : PySem.W.Frag} {mg : Str → Option Value} {base : Heap} {a : Adr}
theorem G_law (T : Txt K mg a) : FnOk P w K mg base CX0 8 a.f_law a.d_law ["script"] (sp_law K) := by
  have G_law_web : FnOk P w K mg base CX0 3 a.f_law_web a.d_law_web ["script", "most"] (sp_web K) := G_law_web T
  have G_law_turn : FnOk P w K mg base CX0 1 a.f_law_turn a.d_law_turn ["cell"] sp_turn := G_law_turn T
  have G_law_side : FnOk P w K mg base CX0 1 a.f_law_side a.d_law_side ["web", "number"] sp_lside := G_law_side T
  have G_law_cut : FnOk P w K mg base CX0 1 a.f_law_cut a.d_law_cut ["web", "side"] sp_lcut := G_law_cut T
  have G_law_told_anew : FnOk P w K mg base CX0 7 a.f_law_told_anew a.d_law_told_anew ["web", "some"] sp_anew := G_law_told_anew T
  have G_side_of : FnOk P w K mg base (CX1 P w) 6 a.f_side_of a.d_side_of ["web", "tie_set"] (sp_side_of a.c_BadSet) := G_side_of T
  have G_law_refused : FnOk P w K mg base CX0 7 a.f_law_refused a.d_law_refused ["web", "some"] sp_refused := G_law_refused T
  refine T.F_law.ok sc_law (fun vs H Q E h => ?_) (fun cdv A outer s H vs Q E hr h => ?_)
  · obtain ⟨b, ns, rfl, _⟩ := h
    rfl
  · obtain ⟨b, ns, rfl, hS, hn, fin⟩ := h
    refine ⟨_, (pss_cons (ps_set (i := 1) sc_law.nd rfl (Or.inl rfl) (pe_call G_law_web (hr.mono (by decide)) (by rfl) T.m_law_web T.k_law_web T.b_law_web .nil pass0 (pa_cons (pv 0) (pa_cons pe_int pa_nil))))
      (pss_cons (ps_set (i := 2) sc_law.nd rfl (Or.inl rfl) (pe_callB (lenK K) (by rfl) T.n_len PySem.boot_len (pa_cons (pe_ix (ixT K) (pv 1) pe_int (fun _ _ => rfl)) pa_nil)))
      (pss_cons (ps_for PassesOwn.never rfl (piL K (pe_op (catL K) (pe_op (catL K) (pe_slice (slL K) (pv 0) po_none (po_some pe_int)) (pe_slice (slL K) (pv 0) (po_some (pe_un un_neg pe_int)) po_none)) (pe_lst (pa_cons pe_int pa_nil)))) (pg_name (i := 3) sc_law.nd rfl (Or.inl rfl))
      (pss_cons (ps_set (i := 4) sc_law.nd rfl (Or.inl rfl) (pe_call G_law_turn (hr.mono (by decide)) (by rfl) T.m_law_turn T.k_law_turn T.b_law_turn .nil pass0 (pa_cons (pv 3) pa_nil)))
      (pss_cons (ps_set (i := 5) sc_law.nd rfl (Or.inl rfl) (pe_call G_law_cut (hr.mono (by decide)) (by rfl) T.m_law_cut T.k_law_cut T.b_law_cut .nil pass0 (pa_cons (pv 1) (pa_cons (pe_call G_law_side (hr.mono (by decide)) (by rfl) T.m_law_side T.k_law_side T.b_law_side .nil pass0 (pa_cons (pv 1) (pa_cons (pe_op op_mod (pv 3) (pe_op op_shl pe_int (pe_ix (ixT K) (pv 1) pe_int (fun _ _ => rfl)))) pa_nil))) pa_nil))))
      (pss_cons (ps_if (PW.pt (pw_or (pt_not (pt_val (pe_call G_law_told_anew (hr.mono (by decide)) (by rfl) T.m_law_told_anew T.k_law_told_anew T.b_law_told_anew .nil pass0 (pa_cons (pv 1) (pa_cons (pe_op op_mod (pv 3) (pe_op op_shl pe_int (pv 2))) pa_nil))))) (pw_or1 (pt_not (pt_val (pe_call G_law_told_anew (hr.mono (by decide)) (by rfl) T.m_law_told_anew T.k_law_told_anew T.b_law_told_anew .nil pass0 (pa_cons (pv 1) (pa_cons (pv 5) pa_nil)))))))) (pss_one (ps_ret pe_bl)) pss_nil)
      (pss_cons (ps_if (PW.pt (pw_or (pt_cmpR op_ne (pe_ix (ixT K) (pe_call G_side_of (hr.mono (by decide)) (by rfl) T.m_side_of T.k_side_of T.b_side_of .nil passN (pa_cons (pv 1) (pa_cons (pv 5) pa_nil))) pe_int (fun _ _ => rfl)) pe_str (nomark _)) (pw_or1 (pt_not (pt_val (pe_call G_law_told_anew (hr.mono (by decide)) (by rfl) T.m_law_told_anew T.k_law_told_anew T.b_law_told_anew .nil pass0 (pa_cons (pv 1) (pa_cons (pe_op op_mod (pv 4) (pe_op op_shl pe_int (pv 2))) pa_nil)))))))) (pss_one (ps_ret pe_bl)) pss_nil)
      (pss_cons (ps_if (PW.pt (pw_and (pt_cmpR op_gt (pv 2) pe_int (nomark _)) (pw_and1 (pt_not (pt_val (pe_call G_law_told_anew (hr.mono (by decide)) (by rfl) T.m_law_told_anew T.k_law_told_anew T.b_law_told_anew .nil pass0 (pa_cons (pv 1) (pa_cons (pe_op op_xor (pv 5) (pe_op op_shl pe_int (pe_op op_mod (pv 4) (pv 2)))) pa_nil)))))))) (pss_one (ps_ret pe_bl)) pss_nil)
      (pss_one (ps_if (pt_not (pt_val (pe_call G_law_refused (hr.mono (by decide)) (by rfl) T.m_law_refused T.k_law_refused T.b_law_refused .nil pass0 (pa_cons (pv 1) (pa_cons (pe_ix (ixL K) (pe_lst (pa_cons (pe_un un_neg pe_int) (pa_cons (pe_op op_shl pe_int (pv 2)) (pa_cons (pe_op op_add (pe_op op_shl pe_int (pv 2)) (pv 4)) (pa_cons (pe_op op_sub (pe_un un_neg pe_int) (pv 4)) pa_nil))))) (pe_op op_mod (pv 4) pe_int) (fun _ _ => rfl)) pa_nil))))) (pss_one (ps_ret pe_bl)) pss_nil))))))))
      (pss_one (ps_ret pe_bl))))), ?_⟩
    refine hd_law ?_
    intro zz0 zz1 zz2 zz3 zz4 zz5 zz6 zz7 zz8 zz9 zz10 zz11 zz12
    refine (exq rfl ⟨b, ns, rfl, hS, hn, fun wb p ts H1 s1 g hw => ?_⟩)
    obtain ⟨bt, xs, h1, h2, h3⟩ := id hw.ex
    have wl := g.len
    have wp := g.p2
    have hxl := h3.length
    have pp := Nat.two_pow_pos ts.length
    have ppp := Nat.two_pow_pos p
    refine (exq rfl (ixq (SqT.of h1) (atI_nat (j := 1) rfl) (lnq rfl (.inr (SqT.of h2)) (?_))))
    rw [hxl]
    refine (exq rfl (exq rfl ⟨b, _, rfl, s1.seq hS, fun c1 hc1 => ?_⟩))
    rw [ints_cut]
    have hm1 : ((ns.drop (HT.sIx ns.length 0 none)).take (HT.sIx ns.length ns.length (some 4) - HT.sIx ns.length 0 none)).length ≤ 63 := by
      rw [List.length_take, List.length_drop]
      (first | lia | omega)
    generalize ((ns.drop (HT.sIx ns.length 0 none)).take (HT.sIx ns.length ns.length (some 4) - HT.sIx ns.length 0 none)) = m1 at hm1
    refine (exq rfl (exq rfl (exq rfl ⟨b, _, rfl, (s1.trans (Same.new hc1)).seq hS, fun c2 hc2 => ?_⟩)))
    rw [ints_cut]
    have hm2 : ((ns.drop (HT.sIx ns.length 0 (some (-1)))).take (HT.sIx ns.length ns.length none - HT.sIx ns.length 0 (some (-1)))).length ≤ 63 := by
      rw [List.length_take, List.length_drop]
      (first | lia | omega)
    generalize ((ns.drop (HT.sIx ns.length 0 (some (-1)))).take (HT.sIx ns.length ns.length none - HT.sIx ns.length 0 (some (-1)))) = m2 at hm2
    refine ⟨c1, c2, _, _, rfl, rfl, SqL.of (Same.new hc2 _ _ upd_same), SqL.of upd_same, dl (Nat.ble_eq.mpr (by rw [List.length_map, List.length_map]; (first | lia | omega))), fun c3 hc3 => ⟨dl rfl, fun c4 hc4 => ⟨c3, c4, _, _, rfl, rfl, SqL.of (Same.new hc4 _ _ upd_same), SqL.of upd_same, dl (Nat.ble_eq.mpr (by rw [List.length_append, List.length_map, List.length_map]; show _ + _ + 1 ≤ 1000; (first | lia | omega))), fun c5 hc5 => ?_⟩⟩⟩
    have s12 : Same H1 (upd (upd (upd (upd (upd H1 c1 (.lst (m1.map V.int))) c2 (.lst (m2.map V.int))) c3 (.lst (m1.map V.int ++ m2.map V.int))) c4 (.lst [.int 0])) c5 (.lst (m1.map V.int ++ m2.map V.int ++ [.int 0]))) := ((((Same.new hc1).trans (Same.new hc2)).trans (Same.new hc3)).trans (Same.new hc4)).trans (Same.new hc5)
    have hc6 : upd (upd (upd (upd (upd H1 c1 (.lst (m1.map V.int))) c2 (.lst (m2.map V.int))) c3 (.lst (m1.map V.int ++ m2.map V.int))) c4 (.lst [.int 0])) c5 (.lst (m1.map V.int ++ m2.map V.int ++ [.int 0])) c5 = some (.lst ((m1 ++ m2 ++ [0]).map V.int)) := by
      rw [upd_same, List.map_append, List.map_append]
      rfl
    generalize upd (upd (upd (upd (upd H1 c1 (.lst (m1.map V.int))) c2 (.lst (m2.map V.int))) c3 (.lst (m1.map V.int ++ m2.map V.int))) c4 (.lst [.int 0])) c5 (.lst (m1.map V.int ++ m2.map V.int ++ [.int 0])) = H2 at s12 hc6
    have hw2 := hw.same s12
    refine ⟨c5, rfl, ⟨_, SqL.of hc6⟩, for_list' (K := K) (a := c5) (xs := (m1 ++ m2 ++ [0]).map V.int) (fun i σ H3 => ∃ v3 v4 v5, σ = [some (.ref b), some (.ref wb), some (.int (ts.length : Int)), v3, v4, v5] ∧ Same H2 H3) ⟨_, _, _, rfl, Same.refl _⟩ (fun i σ H3 _ ⟨_, _, _, _, z⟩ => SqL.of (z _ _ hc6)) ?_ (fun σ H3 _ => fin H3)⟩
    rintro i y D1 σ H3 hi ⟨v3, v4, v5, rfl, s3⟩
    rw [List.getElem?_map] at hi
    obtain ⟨z, _, rfl⟩ := Option.map_eq_some_iff.mp hi
    have s13 := s12.trans s3
    have k1 := s13 _ _ h1
    obtain ⟨y1, ey1, hy1⟩ := emod_at z (n := 2 ^ p) ppp
    obtain ⟨y2, ey2, hy2⟩ := emod_at z (n := 2 ^ ts.length) pp
    refine (exq rfl ⟨z, rfl, fun t ht0 ht1 => (exq rfl (exq rfl (exq rfl (exq rfl (ixq (SqT.of k1) (atI_nat (j := 0) rfl) (ijq ⟨⟨by (first | lia | omega), by (first | lia | omega), by decide⟩, ijq (?_)⟩))))))⟩)
    obtain ⟨y3, ey3, hy3⟩ := emod_at t (n := 2 ^ ts.length) pp
    dsimp only
    rw [one_shl, ey1]
    refine ⟨by (first | lia | omega), wb, p, ts, g, _, y1, rfl, rfl, hw.same s13, fun S H4 hSn s4 hS4 => ⟨wb, p, ts, g, S, _, rfl, hw.same (s13.trans s4), hS4, fun H5 s5 => ?_⟩⟩
    have s15 := (s13.trans s4).trans s5
    have s35 := (s3.trans s4).trans s5
    have hcl : (netOf p ts g).cut (fun x => decide (x ∈ (List.range p).filter fun x => y1.testBit x)) < 2 ^ ts.length := RM.cut_lt _
    have hcp : ∀ c, c < (netOf p ts g).n → (netOf p ts g).par ((netOf p ts g).ring c) ((netOf p ts g).cut (fun x => decide (x ∈ (List.range p).filter fun x => y1.testBit x))) = false := fun c hc => RM.par_cut (RM.ring_even hc) _
    generalize (netOf p ts g).cut (fun x => decide (x ∈ (List.range p).filter fun x => y1.testBit x)) = ct at hcl hcp
    refine (exq rfl (exq rfl (exq rfl (ijq ⟨⟨by (first | lia | omega), by (first | lia | omega), by decide⟩, ijq (?_)⟩))))
    dsimp only
    rw [one_shl, ey2]
    refine ⟨by (first | lia | omega), wb, p, ts, g, _, y2, rfl, rfl, hw.same s15, hy2, fun H6 s6 => (exq rfl (iteF (exq rfl (exq rfl ⟨wb, p, ts, g, _, ct, rfl, rfl, hw.same (s15.trans s6), hcl, fun H7 s7 => (exq rfl (iteF ?_))⟩))))⟩
    have s17 := (s15.trans s6).trans s7
    have s37 := (s35.trans s6).trans s7
    refine (exq rfl (exq rfl ⟨wb, p, ts, g, _, rfl, hw.same s17, .inl ⟨ct, rfl, hcl, fun tt H8 htn s8 told => ?_⟩⟩))
    rcases told with ⟨_, l, _, hta, _⟩ | ⟨c, hc, hpc, _⟩
    case inr =>
      rw [hcp c (RM.chords_mem.mp hc).1] at hpc
      cases hpc
    refine (ixq (SqT.of hta) (atI_nat (j := 0) rfl) ⟨rfl, exq rfl (?_)⟩)
    rw [decide_eq_true rfl]
    have s18 := s17.trans s8
    have s38 := s37.trans s8
    refine iteF (exq rfl (exq rfl (exq rfl (ijq ⟨⟨by (first | lia | omega), by (first | lia | omega), by decide⟩, ijq (?_)⟩))))
    dsimp only
    rw [one_shl, ey3]
    refine ⟨by (first | lia | omega), wb, p, ts, g, _, y3, rfl, rfl, hw.same s18, hy3, fun H9 s9 => (exq rfl (iteF ?_))⟩
    have s19 := s18.trans s9
    have s39 := s38.trans s9
    refine (exq rfl (ijq (exq rfl (?_))))
    by_cases hl0 : ts.length = 0
    · rw [decide_eq_false (by (first | lia | omega))]
      refine iteF ?_
      refine (exq rfl (exq rfl (exq rfl (ijq ⟨⟨by (first | lia | omega), by (first | lia | omega), by decide⟩, exq rfl (ijq ⟨⟨by (first | lia | omega), by (first | lia | omega), by decide⟩, exq rfl (ijq (exq rfl (exq rfl (ijq ⟨dl rfl, fun L2 hL2 => ?_⟩))))⟩)⟩))))
      dsimp only at hL2 ⊢
      rw [one_shl]
      obtain ⟨Sb, hSb, hbad⟩ := four_bad (n := ts.length) t ht0
      have s78 : Same H9 (upd H9 L2 (.lst [.int (-1), .int ((2 ^ ts.length : Nat) : Int), .int (((2 ^ ts.length : Nat) : Int) + t), .int (-1 - t)])) := Same.new hL2
      refine (exq rfl (ijq ⟨(modC rfl), ixl (SqL.of upd_same) (hSb) ⟨wb, p, ts, g, Sb, rfl, hw.same (s19.trans s78), hbad, fun HY sY => (exq rfl (iteF ⟨_, _, _, rfl, ?_⟩))⟩⟩))
      exact (s39.trans s78).trans sY
    · rw [decide_eq_true (by (first | lia | omega))]
      obtain ⟨y4, ey4, hy4⟩ := emod_at t (n := ts.length) (by (first | lia | omega))
      refine iteT (exq rfl (exq rfl (exq rfl (exq rfl (ijq ⟨(by (first | lia | omega)), ?_⟩)))))
      dsimp only
      rw [ey4]
      refine (ijq ⟨⟨by (first | lia | omega), by (first | lia | omega), by decide⟩, ijq (?_)⟩)
      dsimp only
      rw [one_shl, xor_int]
      refine ⟨wb, p, ts, g, _, ct ^^^ 2 ^ y4, rfl, rfl, hw.same s19, Nat.xor_lt_two_pow hcl (Nat.pow_lt_pow_right (by decide) hy4), fun H10 s10 => (exq rfl (iteF ?_))⟩
      refine (exq rfl (exq rfl (exq rfl (ijq ⟨⟨by (first | lia | omega), by (first | lia | omega), by decide⟩, exq rfl (ijq ⟨⟨by (first | lia | omega), by (first | lia | omega), by decide⟩, exq rfl (ijq (exq rfl (exq rfl (ijq ⟨dl rfl, fun L2 hL2 => ?_⟩))))⟩)⟩))))
      dsimp only at hL2 ⊢
      rw [one_shl]
      obtain ⟨Sb, hSb, hbad⟩ := four_bad (n := ts.length) t ht0
      have s78 : Same H10 (upd H10 L2 (.lst [.int (-1), .int ((2 ^ ts.length : Nat) : Int), .int (((2 ^ ts.length : Nat) : Int) + t), .int (-1 - t)])) := Same.new hL2
      refine (exq rfl (ijq ⟨(modC rfl), ixl (SqL.of upd_same) (hSb) ⟨wb, p, ts, g, Sb, rfl, hw.same ((s19.trans s10).trans s78), hbad, fun HY sY => (exq rfl (iteF ⟨_, _, _, rfl, ?_⟩))⟩⟩))
      exact ((s39.trans s10).trans s78).trans sY
end

theorem all_mk {l : PySem.W.OpenLaw} {w : World} {K : PySem.W.Frag} {h : Heap} {mg : Str → Option Value} {fa : Addr} (X : K.In h) (G : h.Ns mainGlobals mg) (hfa : mg "law" = some (.ref fa))
    {f0 f1 f2 f3 f4 f5 f6 f7 f8 f9 f10 f11 f12 f13 f14 f15 f16 f17 f18 f19 f20 f21 f22 f23 f24 f25 f26 f27 f28 f29 f30 f31 f32 : Addr} {od0 an0 od1 an1 od2 an2 od3 an3 od4 an4 od5 an5 od6 an6 od7 an7 od8 an8 od9 an9 od10 an10 od11 an11 od12 an12 od13 an13 od14 an14 od15 an15 od16 an16 od17 an17 od18 an18 od19 an19 od20 an20 od21 an21 od22 an22 od23 an23 od24 an24 od25 an25 od26 an26 od27 an27 od28 an28 od29 an29 od30 an30 od31 an31 od32 an32 : Option Addr} {sl0 sl1 sl2 sl3 sl4 sl5 sl6 sl7 sl8 sl9 sl10 sl11 sl12 sl13 sl14 sl15 sl16 sl17 sl18 sl19 sl20 sl21 sl22 sl23 sl24 sl25 sl26 sl27 sl28 sl29 sl30 sl31 sl32 : Array (Option Value)}
    {oc0 kV0 dc0 pm0 cd0 ct0 oc1 kV1 dc1 pm1 cd1 ct1 oc2 kV2 dc2 pm2 cd2 ct2 oc3 kV3 dc3 pm3 cd3 ct3 oc4 kV4 dc4 pm4 cd4 ct4 oc5 kV5 dc5 pm5 cd5 ct5 oc6 kV6 dc6 pm6 cd6 ct6 oc7 kV7 dc7 pm7 cd7 ct7 oc8 kV8 dc8 pm8 cd8 ct8 oc9 kV9 dc9 pm9 cd9 ct9 oc10 kV10 dc10 pm10 cd10 ct10 oc11 kV11 dc11 pm11 cd11 ct11 oc12 kV12 dc12 pm12 cd12 ct12 oc13 kV13 dc13 pm13 cd13 ct13 oc14 kV14 dc14 pm14 cd14 ct14 oc15 kV15 dc15 pm15 cd15 ct15 oc16 kV16 dc16 pm16 cd16 ct16 oc17 kV17 dc17 pm17 cd17 ct17 oc18 kV18 dc18 pm18 cd18 ct18 oc19 kV19 dc19 pm19 cd19 ct19 oc20 kV20 dc20 pm20 cd20 ct20 oc21 kV21 dc21 pm21 cd21 ct21 oc22 kV22 dc22 pm22 cd22 ct22 oc23 kV23 dc23 pm23 cd23 ct23 oc24 kV24 dc24 pm24 cd24 ct24 oc25 kV25 dc25 pm25 cd25 ct25 oc26 kV26 dc26 pm26 cd26 ct26 oc27 kV27 dc27 pm27 cd27 ct27 oc28 kV28 dc28 pm28 cd28 ct28 oc29 kV29 dc29 pm29 cd29 ct29 oc30 kV30 dc30 pm30 cd30 ct30 oc31 kV31 dc31 pm31 cd31 ct31 oc32 kV32 dc32 pm32 cd32 ct32 : Value}
    {u_RingError u_BadWeb u_BadSet u_BadPoint u_NotRing u_NoChord u_NoBase u_NoSuch u_TooMany u_BadRow u_NoDeed u_NotEven u_NoText : Addr}
    (a0 : PySem.W.nsIn K mainGlobals "has_tie" = some (some (.ref f0)))
    (l0 : K.lookup f0 = some ⟨oc0, od0, .func (PySem.W.fnOf "has_tie" "has_tie" (defArgs s_has_tie) (defBody s_has_tie) (defScope s_has_tie) .none kV0 dc0 pm0 an0 cd0 ct0), sl0⟩)
    (c0 : PySem.W.codeIn K cd0 "has_tie" = true) (k0 : PySem.W.keepIn K (.ref f0) = true)
    (a1 : PySem.W.nsIn K mainGlobals "ties_in" = some (some (.ref f1)))
    (l1 : K.lookup f1 = some ⟨oc1, od1, .func (PySem.W.fnOf "ties_in" "ties_in" (defArgs s_ties_in) (defBody s_ties_in) (defScope s_ties_in) .none kV1 dc1 pm1 an1 cd1 ct1), sl1⟩)
    (c1 : PySem.W.codeIn K cd1 "ties_in" = true) (k1 : PySem.W.keepIn K (.ref f1) = true)
    (a2 : PySem.W.nsIn K mainGlobals "set_of" = some (some (.ref f2)))
    (l2 : K.lookup f2 = some ⟨oc2, od2, .func (PySem.W.fnOf "set_of" "set_of" (defArgs s_set_of) (defBody s_set_of) (defScope s_set_of) .none kV2 dc2 pm2 an2 cd2 ct2), sl2⟩)
    (c2 : PySem.W.codeIn K cd2 "set_of" = true) (k2 : PySem.W.keepIn K (.ref f2) = true)
    (a3 : PySem.W.nsIn K mainGlobals "all_ties" = some (some (.ref f3)))
    (l3 : K.lookup f3 = some ⟨oc3, od3, .func (PySem.W.fnOf "all_ties" "all_ties" (defArgs s_all_ties) (defBody s_all_ties) (defScope s_all_ties) .none kV3 dc3 pm3 an3 cd3 ct3), sl3⟩)
    (c3 : PySem.W.codeIn K cd3 "all_ties" = true) (k3 : PySem.W.keepIn K (.ref f3) = true)
    (a4 : PySem.W.nsIn K mainGlobals "is_set" = some (some (.ref f4)))
    (l4 : K.lookup f4 = some ⟨oc4, od4, .func (PySem.W.fnOf "is_set" "is_set" (defArgs s_is_set) (defBody s_is_set) (defScope s_is_set) .none kV4 dc4 pm4 an4 cd4 ct4), sl4⟩)
    (c4 : PySem.W.codeIn K cd4 "is_set" = true) (k4 : PySem.W.keepIn K (.ref f4) = true)
    (a5 : PySem.W.nsIn K mainGlobals "check_set" = some (some (.ref f5)))
    (l5 : K.lookup f5 = some ⟨oc5, od5, .func (PySem.W.fnOf "check_set" "check_set" (defArgs s_check_set) (defBody s_check_set) (defScope s_check_set) .none kV5 dc5 pm5 an5 cd5 ct5), sl5⟩)
    (c5 : PySem.W.codeIn K cd5 "check_set" = true) (k5 : PySem.W.keepIn K (.ref f5) = true)
    (a6 : PySem.W.nsIn K mainGlobals "drawn_together" = some (some (.ref f6)))
    (l6 : K.lookup f6 = some ⟨oc6, od6, .func (PySem.W.fnOf "drawn_together" "drawn_together" (defArgs s_drawn_together) (defBody s_drawn_together) (defScope s_drawn_together) .none kV6 dc6 pm6 an6 cd6 ct6), sl6⟩)
    (c6 : PySem.W.codeIn K cd6 "drawn_together" = true) (k6 : PySem.W.keepIn K (.ref f6) = true)
    (a7 : PySem.W.nsIn K mainGlobals "forest_trails" = some (some (.ref f7)))
    (l7 : K.lookup f7 = some ⟨oc7, od7, .func (PySem.W.fnOf "forest_trails" "forest_trails" (defArgs s_forest_trails) (defBody s_forest_trails) (defScope s_forest_trails) .none kV7 dc7 pm7 an7 cd7 ct7), sl7⟩)
    (c7 : PySem.W.codeIn K cd7 "forest_trails" = true) (k7 : PySem.W.keepIn K (.ref f7) = true)
    (a8 : PySem.W.nsIn K mainGlobals "forest" = some (some (.ref f8)))
    (l8 : K.lookup f8 = some ⟨oc8, od8, .func (PySem.W.fnOf "forest" "forest" (defArgs s_forest) (defBody s_forest) (defScope s_forest) .none kV8 dc8 pm8 an8 cd8 ct8), sl8⟩)
    (c8 : PySem.W.codeIn K cd8 "forest" = true) (k8 : PySem.W.keepIn K (.ref f8) = true)
    (a9 : PySem.W.nsIn K mainGlobals "chords" = some (some (.ref f9)))
    (l9 : K.lookup f9 = some ⟨oc9, od9, .func (PySem.W.fnOf "chords" "chords" (defArgs s_chords) (defBody s_chords) (defScope s_chords) .none kV9 dc9 pm9 an9 cd9 ct9), sl9⟩)
    (c9 : PySem.W.codeIn K cd9 "chords" = true) (k9 : PySem.W.keepIn K (.ref f9) = true)
    (a10 : PySem.W.nsIn K mainGlobals "ring_closed" = some (some (.ref f10)))
    (l10 : K.lookup f10 = some ⟨oc10, od10, .func (PySem.W.fnOf "ring_closed" "ring_closed" (defArgs s_ring_closed) (defBody s_ring_closed) (defScope s_ring_closed) .none kV10 dc10 pm10 an10 cd10 ct10), sl10⟩)
    (c10 : PySem.W.codeIn K cd10 "ring_closed" = true) (k10 : PySem.W.keepIn K (.ref f10) = true)
    (a11 : PySem.W.nsIn K mainGlobals "chord_ring" = some (some (.ref f11)))
    (l11 : K.lookup f11 = some ⟨oc11, od11, .func (PySem.W.fnOf "chord_ring" "chord_ring" (defArgs s_chord_ring) (defBody s_chord_ring) (defScope s_chord_ring) .none kV11 dc11 pm11 an11 cd11 ct11), sl11⟩)
    (c11 : PySem.W.codeIn K cd11 "chord_ring" = true) (k11 : PySem.W.keepIn K (.ref f11) = true)
    (a12 : PySem.W.nsIn K mainGlobals "common" = some (some (.ref f12)))
    (l12 : K.lookup f12 = some ⟨oc12, od12, .func (PySem.W.fnOf "common" "common" (defArgs s_common) (defBody s_common) (defScope s_common) .none kV12 dc12 pm12 an12 cd12 ct12), sl12⟩)
    (c12 : PySem.W.codeIn K cd12 "common" = true) (k12 : PySem.W.keepIn K (.ref f12) = true)
    (a13 : PySem.W.nsIn K mainGlobals "bears_oddly" = some (some (.ref f13)))
    (l13 : K.lookup f13 = some ⟨oc13, od13, .func (PySem.W.fnOf "bears_oddly" "bears_oddly" (defArgs s_bears_oddly) (defBody s_bears_oddly) (defScope s_bears_oddly) .none kV13 dc13 pm13 an13 cd13 ct13), sl13⟩)
    (c13 : PySem.W.codeIn K cd13 "bears_oddly" = true) (k13 : PySem.W.keepIn K (.ref f13) = true)
    (a14 : PySem.W.nsIn K mainGlobals "is_side" = some (some (.ref f14)))
    (l14 : K.lookup f14 = some ⟨oc14, od14, .func (PySem.W.fnOf "is_side" "is_side" (defArgs s_is_side) (defBody s_is_side) (defScope s_is_side) .none kV14 dc14 pm14 an14 cd14 ct14), sl14⟩)
    (c14 : PySem.W.codeIn K cd14 "is_side" = true) (k14 : PySem.W.keepIn K (.ref f14) = true)
    (a15 : PySem.W.nsIn K mainGlobals "cut_of" = some (some (.ref f15)))
    (l15 : K.lookup f15 = some ⟨oc15, od15, .func (PySem.W.fnOf "cut_of" "cut_of" (defArgs s_cut_of) (defBody s_cut_of) (defScope s_cut_of) .none kV15 dc15 pm15 an15 cd15 ct15), sl15⟩)
    (c15 : PySem.W.codeIn K cd15 "cut_of" = true) (k15 : PySem.W.keepIn K (.ref f15) = true)
    (a16 : PySem.W.nsIn K mainGlobals "side_of" = some (some (.ref f16)))
    (l16 : K.lookup f16 = some ⟨oc16, od16, .func (PySem.W.fnOf "side_of" "side_of" (defArgs s_side_of) (defBody s_side_of) (defScope s_side_of) .none kV16 dc16 pm16 an16 cd16 ct16), sl16⟩)
    (c16 : PySem.W.codeIn K cd16 "side_of" = true) (k16 : PySem.W.keepIn K (.ref f16) = true)
    (a17 : PySem.W.nsIn K mainGlobals "_law_cell" = some (some (.ref f17)))
    (l17 : K.lookup f17 = some ⟨oc17, od17, .func (PySem.W.fnOf "_law_cell" "_law_cell" (defArgs s_law_cell) (defBody s_law_cell) (defScope s_law_cell) .none kV17 dc17 pm17 an17 cd17 ct17), sl17⟩)
    (c17 : PySem.W.codeIn K cd17 "_law_cell" = true) (k17 : PySem.W.keepIn K (.ref f17) = true)
    (a18 : PySem.W.nsIn K mainGlobals "_law_turn" = some (some (.ref f18)))
    (l18 : K.lookup f18 = some ⟨oc18, od18, .func (PySem.W.fnOf "_law_turn" "_law_turn" (defArgs s_law_turn) (defBody s_law_turn) (defScope s_law_turn) .none kV18 dc18 pm18 an18 cd18 ct18), sl18⟩)
    (c18 : PySem.W.codeIn K cd18 "_law_turn" = true) (k18 : PySem.W.keepIn K (.ref f18) = true)
    (a19 : PySem.W.nsIn K mainGlobals "_law_whole" = some (some (.ref f19)))
    (l19 : K.lookup f19 = some ⟨oc19, od19, .func (PySem.W.fnOf "_law_whole" "_law_whole" (defArgs s_law_whole) (defBody s_law_whole) (defScope s_law_whole) .none kV19 dc19 pm19 an19 cd19 ct19), sl19⟩)
    (c19 : PySem.W.codeIn K cd19 "_law_whole" = true) (k19 : PySem.W.keepIn K (.ref f19) = true)
    (a20 : PySem.W.nsIn K mainGlobals "_law_tie" = some (some (.ref f20)))
    (l20 : K.lookup f20 = some ⟨oc20, od20, .func (PySem.W.fnOf "_law_tie" "_law_tie" (defArgs s_law_tie) (defBody s_law_tie) (defScope s_law_tie) .none kV20 dc20 pm20 an20 cd20 ct20), sl20⟩)
    (c20 : PySem.W.codeIn K cd20 "_law_tie" = true) (k20 : PySem.W.keepIn K (.ref f20) = true)
    (a21 : PySem.W.nsIn K mainGlobals "_law_web" = some (some (.ref f21)))
    (l21 : K.lookup f21 = some ⟨oc21, od21, .func (PySem.W.fnOf "_law_web" "_law_web" (defArgs s_law_web) (defBody s_law_web) (defScope s_law_web) .none kV21 dc21 pm21 an21 cd21 ct21), sl21⟩)
    (c21 : PySem.W.codeIn K cd21 "_law_web" = true) (k21 : PySem.W.keepIn K (.ref f21) = true)
    (a22 : PySem.W.nsIn K mainGlobals "_law_kinds" = some (some (.ref f22)))
    (l22 : K.lookup f22 = some ⟨oc22, od22, .func (PySem.W.fnOf "_law_kinds" "_law_kinds" (defArgs s_law_kinds) (defBody s_law_kinds) (defScope s_law_kinds) .none kV22 dc22 pm22 an22 cd22 ct22), sl22⟩)
    (c22 : PySem.W.codeIn K cd22 "_law_kinds" = true) (k22 : PySem.W.keepIn K (.ref f22) = true)
    (a23 : PySem.W.nsIn K mainGlobals "_law_in" = some (some (.ref f23)))
    (l23 : K.lookup f23 = some ⟨oc23, od23, .func (PySem.W.fnOf "_law_in" "_law_in" (defArgs s_law_in) (defBody s_law_in) (defScope s_law_in) .none kV23 dc23 pm23 an23 cd23 ct23), sl23⟩)
    (c23 : PySem.W.codeIn K cd23 "_law_in" = true) (k23 : PySem.W.keepIn K (.ref f23) = true)
    (a24 : PySem.W.nsIn K mainGlobals "_law_reached" = some (some (.ref f24)))
    (l24 : K.lookup f24 = some ⟨oc24, od24, .func (PySem.W.fnOf "_law_reached" "_law_reached" (defArgs s_law_reached) (defBody s_law_reached) (defScope s_law_reached) .none kV24 dc24 pm24 an24 cd24 ct24), sl24⟩)
    (c24 : PySem.W.codeIn K cd24 "_law_reached" = true) (k24 : PySem.W.keepIn K (.ref f24) = true)
    (a25 : PySem.W.nsIn K mainGlobals "_law_is_ring" = some (some (.ref f25)))
    (l25 : K.lookup f25 = some ⟨oc25, od25, .func (PySem.W.fnOf "_law_is_ring" "_law_is_ring" (defArgs s_law_is_ring) (defBody s_law_is_ring) (defScope s_law_is_ring) .none kV25 dc25 pm25 an25 cd25 ct25), sl25⟩)
    (c25 : PySem.W.codeIn K cd25 "_law_is_ring" = true) (k25 : PySem.W.keepIn K (.ref f25) = true)
    (a26 : PySem.W.nsIn K mainGlobals "_law_cut" = some (some (.ref f26)))
    (l26 : K.lookup f26 = some ⟨oc26, od26, .func (PySem.W.fnOf "_law_cut" "_law_cut" (defArgs s_law_cut) (defBody s_law_cut) (defScope s_law_cut) .none kV26 dc26 pm26 an26 cd26 ct26), sl26⟩)
    (c26 : PySem.W.codeIn K cd26 "_law_cut" = true) (k26 : PySem.W.keepIn K (.ref f26) = true)
    (a27 : PySem.W.nsIn K mainGlobals "_law_side" = some (some (.ref f27)))
    (l27 : K.lookup f27 = some ⟨oc27, od27, .func (PySem.W.fnOf "_law_side" "_law_side" (defArgs s_law_side) (defBody s_law_side) (defScope s_law_side) .none kV27 dc27 pm27 an27 cd27 ct27), sl27⟩)
    (c27 : PySem.W.codeIn K cd27 "_law_side" = true) (k27 : PySem.W.keepIn K (.ref f27) = true)
    (a28 : PySem.W.nsIn K mainGlobals "_law_ones" = some (some (.ref f28)))
    (l28 : K.lookup f28 = some ⟨oc28, od28, .func (PySem.W.fnOf "_law_ones" "_law_ones" (defArgs s_law_ones) (defBody s_law_ones) (defScope s_law_ones) .none kV28 dc28 pm28 an28 cd28 ct28), sl28⟩)
    (c28 : PySem.W.codeIn K cd28 "_law_ones" = true) (k28 : PySem.W.keepIn K (.ref f28) = true)
    (a29 : PySem.W.nsIn K mainGlobals "_law_answer_good" = some (some (.ref f29)))
    (l29 : K.lookup f29 = some ⟨oc29, od29, .func (PySem.W.fnOf "_law_answer_good" "_law_answer_good" (defArgs s_law_answer_good) (defBody s_law_answer_good) (defScope s_law_answer_good) .none kV29 dc29 pm29 an29 cd29 ct29), sl29⟩)
    (c29 : PySem.W.codeIn K cd29 "_law_answer_good" = true) (k29 : PySem.W.keepIn K (.ref f29) = true)
    (a30 : PySem.W.nsIn K mainGlobals "_law_told_anew" = some (some (.ref f30)))
    (l30 : K.lookup f30 = some ⟨oc30, od30, .func (PySem.W.fnOf "_law_told_anew" "_law_told_anew" (defArgs s_law_told_anew) (defBody s_law_told_anew) (defScope s_law_told_anew) .none kV30 dc30 pm30 an30 cd30 ct30), sl30⟩)
    (c30 : PySem.W.codeIn K cd30 "_law_told_anew" = true) (k30 : PySem.W.keepIn K (.ref f30) = true)
    (a31 : PySem.W.nsIn K mainGlobals "_law_refused" = some (some (.ref f31)))
    (l31 : K.lookup f31 = some ⟨oc31, od31, .func (PySem.W.fnOf "_law_refused" "_law_refused" (defArgs s_law_refused) (defBody s_law_refused) (defScope s_law_refused) .none kV31 dc31 pm31 an31 cd31 ct31), sl31⟩)
    (c31 : PySem.W.codeIn K cd31 "_law_refused" = true) (k31 : PySem.W.keepIn K (.ref f31) = true)
    (a32 : PySem.W.nsIn K mainGlobals "law" = some (some (.ref f32)))
    (l32 : K.lookup f32 = some ⟨oc32, od32, .func (PySem.W.fnOf "law" "law" (defArgs s_law) (defBody s_law) (defScope s_law) .none kV32 dc32 pm32 an32 cd32 ct32), sl32⟩)
    (c32 : PySem.W.codeIn K cd32 "law" = true) (k32 : PySem.W.keepIn K (.ref f32) = true)
    (z_ValueError : PySem.W.nsIn K mainGlobals "ValueError" = some none)
    (z_bool : PySem.W.nsIn K mainGlobals "bool" = some none)
    (z_enumerate : PySem.W.nsIn K mainGlobals "enumerate" = some none)
    (z_int : PySem.W.nsIn K mainGlobals "int" = some none)
    (z_isinstance : PySem.W.nsIn K mainGlobals "isinstance" = some none)
    (z_len : PySem.W.nsIn K mainGlobals "len" = some none)
    (z_list : PySem.W.nsIn K mainGlobals "list" = some none)
    (z_max : PySem.W.nsIn K mainGlobals "max" = some none)
    (z_min : PySem.W.nsIn K mainGlobals "min" = some none)
    (z_range : PySem.W.nsIn K mainGlobals "range" = some none)
    (z_set : PySem.W.nsIn K mainGlobals "set" = some none)
    (z_sorted : PySem.W.nsIn K mainGlobals "sorted" = some none)
    (z_str : PySem.W.nsIn K mainGlobals "str" = some none)
    (z_tuple : PySem.W.nsIn K mainGlobals "tuple" = some none)
    (z_zip : PySem.W.nsIn K mainGlobals "zip" = some none)
    (d_RingError : PySem.W.nsIn K mainGlobals "RingError" = some (some (.ref u_RingError)))
    (d_BadWeb : PySem.W.nsIn K mainGlobals "BadWeb" = some (some (.ref u_BadWeb)))
    (d_BadSet : PySem.W.nsIn K mainGlobals "BadSet" = some (some (.ref u_BadSet)))
    (d_BadPoint : PySem.W.nsIn K mainGlobals "BadPoint" = some (some (.ref u_BadPoint)))
    (d_NotRing : PySem.W.nsIn K mainGlobals "NotRing" = some (some (.ref u_NotRing)))
    (d_NoChord : PySem.W.nsIn K mainGlobals "NoChord" = some (some (.ref u_NoChord)))
    (d_NoBase : PySem.W.nsIn K mainGlobals "NoBase" = some (some (.ref u_NoBase)))
    (d_NoSuch : PySem.W.nsIn K mainGlobals "NoSuch" = some (some (.ref u_NoSuch)))
    (d_TooMany : PySem.W.nsIn K mainGlobals "TooMany" = some (some (.ref u_TooMany)))
    (d_BadRow : PySem.W.nsIn K mainGlobals "BadRow" = some (some (.ref u_BadRow)))
    (d_NoDeed : PySem.W.nsIn K mainGlobals "NoDeed" = some (some (.ref u_NoDeed)))
    (d_NotEven : PySem.W.nsIn K mainGlobals "NotEven" = some (some (.ref u_NotEven)))
    (d_NoText : PySem.W.nsIn K mainGlobals "NoText" = some (some (.ref u_NoText)))
    (xc_BadSet : PySem.W.excIn K u_BadSet [.type "ValueError", .type "Exception", .type "BaseException", .type "object"] "ValueError.__new__" = true)
    (ea_BadSet : PySem.W.findIn K (.ref u_BadSet) "__getattribute__" = some (some (.builtin "BaseException.__getattribute__"))) (eb_BadSet : PySem.W.findIn K (.ref u_BadSet) "__getattr__" = some none)
    (ec_BadSet : PySem.W.findIn K (.ref u_BadSet) "__class__" = some (some (.builtin "object.__class__"))) (ed_BadSet : PySem.W.specialIn K (.builtin "object.__class__") "__get__" = some (some (.builtin "getset_descriptor.__get__")))
    (ee_BadSet : PySem.W.takesIn K (.builtin "object.__class__") = some true) (ef_BadSet : PySem.W.mroIn K u_BadSet (.type "object") = some true) (eg_BadSet : PySem.W.hasDictIn K u_BadSet = true) (eh_BadSet : PySem.W.mroIn K u_BadSet (.type "BaseException") = some true)
    (hx_BadSet : PySem.W.exmOne K (.ref u_BadSet) (.ref u_RingError) = some true)
    (qv_BadSet : PySem.W.kitOne K (.ref u_BadSet) (.type "ValueError") = some true)
    (q_BadSet_BadWeb : PySem.W.kitOne K (.ref u_BadSet) (.ref u_BadWeb) = some false)
    (q_BadSet_BadSet : PySem.W.kitOne K (.ref u_BadSet) (.ref u_BadSet) = some true)
    (q_BadSet_BadPoint : PySem.W.kitOne K (.ref u_BadSet) (.ref u_BadPoint) = some false)
    (q_BadSet_NotRing : PySem.W.kitOne K (.ref u_BadSet) (.ref u_NotRing) = some false)
    (q_BadSet_NoChord : PySem.W.kitOne K (.ref u_BadSet) (.ref u_NoChord) = some false)
    (q_BadSet_NoBase : PySem.W.kitOne K (.ref u_BadSet) (.ref u_NoBase) = some false)
    (q_BadSet_NoSuch : PySem.W.kitOne K (.ref u_BadSet) (.ref u_NoSuch) = some false)
    (q_BadSet_TooMany : PySem.W.kitOne K (.ref u_BadSet) (.ref u_TooMany) = some false)
    (q_BadSet_BadRow : PySem.W.kitOne K (.ref u_BadSet) (.ref u_BadRow) = some false)
    (q_BadSet_NoDeed : PySem.W.kitOne K (.ref u_BadSet) (.ref u_NoDeed) = some false)
    (q_BadSet_NotEven : PySem.W.kitOne K (.ref u_BadSet) (.ref u_NotEven) = some false)
    (q_BadSet_NoText : PySem.W.kitOne K (.ref u_BadSet) (.ref u_NoText) = some false)
    (xc_NoChord : PySem.W.excIn K u_NoChord [.type "ValueError", .type "Exception", .type "BaseException", .type "object"] "ValueError.__new__" = true)
    : ∃ fd : FuncData, (∀ (s : Shared) (v : Value), BindsTo s fd ⟨[v], []⟩ [("script", v)]) ∧ ∀ base : Heap, K.In base → base.Ns mainGlobals mg → FnOk l.prog w K mg base CX0 8 fa fd ["script"] (sp_law K) := by
  have e := hfa.symm.trans (PySem.W.mg_of X G a32)
  cases e
  have F0 := fun_mk (st := s_has_tie) l0 c0 k0
  have b0 := F0.binds (ps := ["tie_set", "tie"]) fun _ _ _ _ _ _ us hl => by obtain ⟨_, _, rfl⟩ := len2 us hl; rfl
  have F1 := fun_mk (st := s_ties_in) l1 c1 k1
  have b1 := F1.binds (ps := ["tie_set"]) fun _ _ _ _ _ _ us hl => by obtain ⟨_, rfl⟩ := len1 us hl; rfl
  have F2 := fun_mk (st := s_set_of) l2 c2 k2
  have b2 := F2.binds (ps := ["web", "ties"]) fun _ _ _ _ _ _ us hl => by obtain ⟨_, _, rfl⟩ := len2 us hl; rfl
  have F3 := fun_mk (st := s_all_ties) l3 c3 k3
  have b3 := F3.binds (ps := ["web"]) fun _ _ _ _ _ _ us hl => by obtain ⟨_, rfl⟩ := len1 us hl; rfl
  have F4 := fun_mk (st := s_is_set) l4 c4 k4
  have b4 := F4.binds (ps := ["web", "number"]) fun _ _ _ _ _ _ us hl => by obtain ⟨_, _, rfl⟩ := len2 us hl; rfl
  have F5 := fun_mk (st := s_check_set) l5 c5 k5
  have b5 := F5.binds (ps := ["web", "tie_set"]) fun _ _ _ _ _ _ us hl => by obtain ⟨_, _, rfl⟩ := len2 us hl; rfl
  have F6 := fun_mk (st := s_drawn_together) l6 c6 k6
  have b6 := F6.binds (ps := ["leasts", "one", "other"]) fun _ _ _ _ _ _ us hl => by obtain ⟨_, _, _, rfl⟩ := len3 us hl; rfl
  have F7 := fun_mk (st := s_forest_trails) l7 c7 k7
  have b7 := F7.binds (ps := ["web"]) fun _ _ _ _ _ _ us hl => by obtain ⟨_, rfl⟩ := len1 us hl; rfl
  have F8 := fun_mk (st := s_forest) l8 c8 k8
  have b8 := F8.binds (ps := ["web"]) fun _ _ _ _ _ _ us hl => by obtain ⟨_, rfl⟩ := len1 us hl; rfl
  have F9 := fun_mk (st := s_chords) l9 c9 k9
  have b9 := F9.binds (ps := ["web"]) fun _ _ _ _ _ _ us hl => by obtain ⟨_, rfl⟩ := len1 us hl; rfl
  have F10 := fun_mk (st := s_ring_closed) l10 c10 k10
  have b10 := F10.binds (ps := ["web", "trails", "chord"]) fun _ _ _ _ _ _ us hl => by obtain ⟨_, _, _, rfl⟩ := len3 us hl; rfl
  have F11 := fun_mk (st := s_chord_ring) l11 c11 k11
  have b11 := F11.binds (ps := ["web", "tie"]) fun _ _ _ _ _ _ us hl => by obtain ⟨_, _, rfl⟩ := len2 us hl; rfl
  have F12 := fun_mk (st := s_common) l12 c12 k12
  have b12 := F12.binds (ps := ["one", "other"]) fun _ _ _ _ _ _ us hl => by obtain ⟨_, _, rfl⟩ := len2 us hl; rfl
  have F13 := fun_mk (st := s_bears_oddly) l13 c13 k13
  have b13 := F13.binds (ps := ["tie_set", "marks"]) fun _ _ _ _ _ _ us hl => by obtain ⟨_, _, rfl⟩ := len2 us hl; rfl
  have F14 := fun_mk (st := s_is_side) l14 c14 k14
  have b14 := F14.binds (ps := ["web", "side"]) fun _ _ _ _ _ _ us hl => by obtain ⟨_, _, rfl⟩ := len2 us hl; rfl
  have F15 := fun_mk (st := s_cut_of) l15 c15 k15
  have b15 := F15.binds (ps := ["web", "side"]) fun _ _ _ _ _ _ us hl => by obtain ⟨_, _, rfl⟩ := len2 us hl; rfl
  have F16 := fun_mk (st := s_side_of) l16 c16 k16
  have b16 := F16.binds (ps := ["web", "tie_set"]) fun _ _ _ _ _ _ us hl => by obtain ⟨_, _, rfl⟩ := len2 us hl; rfl
  have F17 := fun_mk (st := s_law_cell) l17 c17 k17
  have b17 := F17.binds (ps := ["script", "k"]) fun _ _ _ _ _ _ us hl => by obtain ⟨_, _, rfl⟩ := len2 us hl; rfl
  have F18 := fun_mk (st := s_law_turn) l18 c18 k18
  have b18 := F18.binds (ps := ["cell"]) fun _ _ _ _ _ _ us hl => by obtain ⟨_, rfl⟩ := len1 us hl; rfl
  have F19 := fun_mk (st := s_law_whole) l19 c19 k19
  have b19 := F19.binds (ps := ["found"]) fun _ _ _ _ _ _ us hl => by obtain ⟨_, rfl⟩ := len1 us hl; rfl
  have F20 := fun_mk (st := s_law_tie) l20 c20 k20
  have b20 := F20.binds (ps := ["cell", "points", "way"]) fun _ _ _ _ _ _ us hl => by obtain ⟨_, _, _, rfl⟩ := len3 us hl; rfl
  have F21 := fun_mk (st := s_law_web) l21 c21 k21
  have b21 := F21.binds (ps := ["script", "most"]) fun _ _ _ _ _ _ us hl => by obtain ⟨_, _, rfl⟩ := len2 us hl; rfl
  have F22 := fun_mk (st := s_law_kinds) l22 c22 k22
  have b22 := F22.binds (ps := ["e"]) fun _ _ _ _ _ _ us hl => by obtain ⟨_, rfl⟩ := len1 us hl; rfl
  have F23 := fun_mk (st := s_law_in) l23 c23 k23
  have b23 := F23.binds (ps := ["some"]) fun _ _ _ _ _ _ us hl => by obtain ⟨_, rfl⟩ := len1 us hl; rfl
  have F24 := fun_mk (st := s_law_reached) l24 c24 k24
  have b24 := F24.binds (ps := ["web", "some", "point"]) fun _ _ _ _ _ _ us hl => by obtain ⟨_, _, _, rfl⟩ := len3 us hl; rfl
  have F25 := fun_mk (st := s_law_is_ring) l25 c25 k25
  have b25 := F25.binds (ps := ["web", "some"]) fun _ _ _ _ _ _ us hl => by obtain ⟨_, _, rfl⟩ := len2 us hl; rfl
  have F26 := fun_mk (st := s_law_cut) l26 c26 k26
  have b26 := F26.binds (ps := ["web", "side"]) fun _ _ _ _ _ _ us hl => by obtain ⟨_, _, rfl⟩ := len2 us hl; rfl
  have F27 := fun_mk (st := s_law_side) l27 c27 k27
  have b27 := F27.binds (ps := ["web", "number"]) fun _ _ _ _ _ _ us hl => by obtain ⟨_, _, rfl⟩ := len2 us hl; rfl
  have F28 := fun_mk (st := s_law_ones) l28 c28 k28
  have b28 := F28.binds (ps := ["number"]) fun _ _ _ _ _ _ us hl => by obtain ⟨_, rfl⟩ := len1 us hl; rfl
  have F29 := fun_mk (st := s_law_answer_good) l29 c29 k29
  have b29 := F29.binds (ps := ["web", "some", "found"]) fun _ _ _ _ _ _ us hl => by obtain ⟨_, _, _, rfl⟩ := len3 us hl; rfl
  have F30 := fun_mk (st := s_law_told_anew) l30 c30 k30
  have b30 := F30.binds (ps := ["web", "some"]) fun _ _ _ _ _ _ us hl => by obtain ⟨_, _, rfl⟩ := len2 us hl; rfl
  have F31 := fun_mk (st := s_law_refused) l31 c31 k31
  have b31 := F31.binds (ps := ["web", "some"]) fun _ _ _ _ _ _ us hl => by obtain ⟨_, _, rfl⟩ := len2 us hl; rfl
  have F32 := fun_mk (st := s_law) l32 c32 k32
  have b32 := F32.binds (ps := ["script"]) fun _ _ _ _ _ _ us hl => by obtain ⟨_, rfl⟩ := len1 us hl; rfl
  have T : Txt K mg ⟨f0, _, f1, _, f2, _, f3, _, f4, _, f5, _, f6, _, f7, _, f8, _, f9, _, f10, _, f11, _, f12, _, f13, _, f14, _, f15, _, f16, _, f17, _, f18, _, f19, _, f20, _, f21, _, f22, _, f23, _, f24, _, f25, _, f26, _, f27, _, f28, _, f29, _, f30, _, f31, _, fa, _, u_RingError, u_BadWeb, u_BadSet, u_BadPoint, u_NotRing, u_NoChord, u_NoBase, u_NoSuch, u_TooMany, u_BadRow, u_NoDeed, u_NotEven, u_NoText⟩ := ⟨F0, PySem.W.mg_of X G a0, b0, F1, PySem.W.mg_of X G a1, b1, F2, PySem.W.mg_of X G a2, b2, F3, PySem.W.mg_of X G a3, b3, F4, PySem.W.mg_of X G a4, b4, F5, PySem.W.mg_of X G a5, b5, F6, PySem.W.mg_of X G a6, b6, F7, PySem.W.mg_of X G a7, b7, F8, PySem.W.mg_of X G a8, b8, F9, PySem.W.mg_of X G a9, b9, F10, PySem.W.mg_of X G a10, b10, F11, PySem.W.mg_of X G a11, b11, F12, PySem.W.mg_of X G a12, b12, F13, PySem.W.mg_of X G a13, b13, F14, PySem.W.mg_of X G a14, b14, F15, PySem.W.mg_of X G a15, b15, F16, PySem.W.mg_of X G a16, b16, F17, PySem.W.mg_of X G a17, b17, F18, PySem.W.mg_of X G a18, b18, F19, PySem.W.mg_of X G a19, b19, F20, PySem.W.mg_of X G a20, b20, F21, PySem.W.mg_of X G a21, b21, F22, PySem.W.mg_of X G a22, b22, F23, PySem.W.mg_of X G a23, b23, F24, PySem.W.mg_of X G a24, b24, F25, PySem.W.mg_of X G a25, b25, F26, PySem.W.mg_of X G a26, b26, F27, PySem.W.mg_of X G a27, b27, F28, PySem.W.mg_of X G a28, b28, F29, PySem.W.mg_of X G a29, b29, F30, PySem.W.mg_of X G a30, b30, F31, PySem.W.mg_of X G a31, b31, F32, PySem.W.mg_of X G a32, b32, PySem.W.mg_none_of X G z_ValueError, PySem.W.mg_none_of X G z_bool, PySem.W.mg_none_of X G z_enumerate, PySem.W.mg_none_of X G z_int, PySem.W.mg_none_of X G z_isinstance, PySem.W.mg_none_of X G z_len, PySem.W.mg_none_of X G z_list, PySem.W.mg_none_of X G z_max, PySem.W.mg_none_of X G z_min, PySem.W.mg_none_of X G z_range, PySem.W.mg_none_of X G z_set, PySem.W.mg_none_of X G z_sorted, PySem.W.mg_none_of X G z_str, PySem.W.mg_none_of X G z_tuple, PySem.W.mg_none_of X G z_zip, PySem.W.mg_of X G d_RingError, PySem.W.mg_of X G d_BadWeb, PySem.W.mg_of X G d_BadSet, PySem.W.mg_of X G d_BadPoint, PySem.W.mg_of X G d_NotRing, PySem.W.mg_of X G d_NoChord, PySem.W.mg_of X G d_NoBase, PySem.W.mg_of X G d_NoSuch, PySem.W.mg_of X G d_TooMany, PySem.W.mg_of X G d_BadRow, PySem.W.mg_of X G d_NoDeed, PySem.W.mg_of X G d_NotEven, PySem.W.mg_of X G d_NoText, fun h1 X1 G1 => own_of X1 G1 d_BadSet xc_BadSet, ⟨ea_BadSet, eb_BadSet, ec_BadSet, ed_BadSet, ee_BadSet, ef_BadSet, eh_BadSet, exc_is eg_BadSet⟩, hx_BadSet, qv_BadSet, q_BadSet_BadWeb, q_BadSet_BadSet, q_BadSet_BadPoint, q_BadSet_NotRing, q_BadSet_NoChord, q_BadSet_NoBase, q_BadSet_NoSuch, q_BadSet_TooMany, q_BadSet_BadRow, q_BadSet_NoDeed, q_BadSet_NotEven, q_BadSet_NoText, fun h1 X1 G1 => own_of X1 G1 d_NoChord xc_NoChord⟩
  exact ⟨PySem.W.fnOf "law" "law" (defArgs s_law) (defBody s_law) (defScope s_law) .none kV32 dc32 pm32 an32 cd32 ct32, fun s v => .of_eq rfl, fun base _ _ => G_law T⟩
theorem walk {l : PySem.W.OpenLaw} {q : Program} {loose : List Str} {XP : (Str → Option Value) → Heap → Prop} {YP : World → Heap → Prop} {d : DefRec} {K : Params → PySem.W.Frag} (hn : l.most = some 63) (hdf : d.params.defaults = [])
    (hY : ∀ (w : World) (h : Heap), YP w h → (K w.params).In h)
    (F : ∀ (w : World) (mg : Str → Option Value) (fa : Addr) (h : Heap), (K w.params).In h → h.Ns mainGlobals mg → mg d.name = some (.ref fa) →
      ∃ fd : FuncData, (∀ (s : Shared) (u : Value), BindsTo s fd ⟨[u], []⟩ [("script", u)]) ∧ ∀ base : Heap, (K w.params).In base → base.Ns mainGlobals mg → FnOk l.prog w (K w.params) mg base CX0 8 fa fd ["script"] (sp_law (K w.params))) :
    PySem.W.WalkO q loose XP YP l.row.toRowW d [] (fun f vs => PySem.call f vs) :=
  L2.walk_of (n := 63) (k := 8) (x := "script") (CX := fun _ => CX0) (sp := fun w => sp_law (K w.params)) hn (by decide) hdf ⟨rfl, by decide, by decide⟩ hY F (fun _ _ a ns hl _ hS => ⟨a, ns, rfl, hS, hl, fun _ => rfl⟩) fun _ _ _ _ _ z => z
end K15
def PySem.W.Fast.tw18066851768508108743 : Unit := ()
def PySem.W.Fast.tw2229107034058372890 : Unit := ()
def PySem.W.Fast.tw9824726218528057303 : Unit := ()
def PySem.W.Fast.tw660331199260658534 : Unit := ()
def PySem.W.Fast.tw10513439052688683927 : Unit := ()
def PySem.W.Fast.tw3810572167544173195 : Unit := ()
def PySem.W.Fast.tw12066628457181088723 : Unit := ()
def PySem.W.Fast.tw4820424021431854625 : Unit := ()
def PySem.W.Fast.tw6775678277938838666 : Unit := ()
def PySem.W.Fast.tw1655481280789760655 : Unit := ()
def PySem.W.Fast.tw11647815912439422368 : Unit := ()
def PySem.W.Fast.tw13506325068941229409 : Unit := ()
open PySem PySem.W PyProof.Rows
set_option maxRecDepth 100000 in
set_option maxHeartbeats 0 in
theorem PySem.Challenge.cw_ringbase_k15_sides_or_rings_holds : PySem.Challenge.rw_ringbase_k15_sides_or_rings.Holds := by
  w_on; o_law; k_head; (case hw => w_witness2)
  k_fill
  refine K15.walk (l := PySem.Challenge.rw_ringbase_k15_sides_or_rings) rfl rfl (fun w h Y => PySem.W.kIn_of Y) ?F
  case F =>
    intro w mg fa h KX G hmg
    refine' K15.all_mk KX G hmg ?a0 ?l0 ?c0 ?k0 ?a1 ?l1 ?c1 ?k1 ?a2 ?l2 ?c2 ?k2 ?a3 ?l3 ?c3 ?k3 ?a4 ?l4 ?c4 ?k4 ?a5 ?l5 ?c5 ?k5 ?a6 ?l6 ?c6 ?k6 ?a7 ?l7 ?c7 ?k7 ?a8 ?l8 ?c8 ?k8 ?a9 ?l9 ?c9 ?k9 ?a10 ?l10 ?c10 ?k10 ?a11 ?l11 ?c11 ?k11 ?a12 ?l12 ?c12 ?k12 ?a13 ?l13 ?c13 ?k13 ?a14 ?l14 ?c14 ?k14 ?a15 ?l15 ?c15 ?k15 ?a16 ?l16 ?c16 ?k16 ?a17 ?l17 ?c17 ?k17 ?a18 ?l18 ?c18 ?k18 ?a19 ?l19 ?c19 ?k19 ?a20 ?l20 ?c20 ?k20 ?a21 ?l21 ?c21 ?k21 ?a22 ?l22 ?c22 ?k22 ?a23 ?l23 ?c23 ?k23 ?a24 ?l24 ?c24 ?k24 ?a25 ?l25 ?c25 ?k25 ?a26 ?l26 ?c26 ?k26 ?a27 ?l27 ?c27 ?k27 ?a28 ?l28 ?c28 ?k28 ?a29 ?l29 ?c29 ?k29 ?a30 ?l30 ?c30 ?k30 ?a31 ?l31 ?c31 ?k31 ?a32 ?l32 ?c32 ?k32 ?z_ValueError ?z_bool ?z_enumerate ?z_int ?z_isinstance ?z_len ?z_list ?z_max ?z_min ?z_range ?z_set ?z_sorted ?z_str ?z_tuple ?z_zip ?d_RingError ?d_BadWeb ?d_BadSet ?d_BadPoint ?d_NotRing ?d_NoChord ?d_NoBase ?d_NoSuch ?d_TooMany ?d_BadRow ?d_NoDeed ?d_NotEven ?d_NoText ?xc_BadSet ?ea_BadSet ?eb_BadSet ?ec_BadSet ?ed_BadSet ?ee_BadSet ?ef_BadSet ?eg_BadSet ?eh_BadSet ?hx_BadSet ?qv_BadSet ?q_BadSet_BadWeb ?q_BadSet_BadSet ?q_BadSet_BadPoint ?q_BadSet_NotRing ?q_BadSet_NoChord ?q_BadSet_NoBase ?q_BadSet_NoSuch ?q_BadSet_TooMany ?q_BadSet_BadRow ?q_BadSet_NoDeed ?q_BadSet_NotEven ?q_BadSet_NoText ?xc_NoChord
    (case d_RingError => k_is)
    (case d_BadWeb => k_is)
    (case d_BadSet => k_is)
    (case d_BadPoint => k_is)
    (case d_NotRing => k_is)
    (case d_NoChord => k_is)
    (case d_NoBase => k_is)
    (case d_NoSuch => k_is)
    (case d_TooMany => k_is)
    (case d_BadRow => k_is)
    (case d_NoDeed => k_is)
    (case d_NotEven => k_is)
    (case d_NoText => k_is)
    (case a0 => k_is)
    (case l0 => k_is)
    (case c0 => k_is)
    (case k0 => k_is)
    (case a1 => k_is)
    (case l1 => k_is)
    (case c1 => k_is)
    (case k1 => k_is)
    (case a2 => k_is)
    (case l2 => k_is)
    (case c2 => k_is)
    (case k2 => k_is)
    (case a3 => k_is)
    (case l3 => k_is)
    (case c3 => k_is)
    (case k3 => k_is)
    (case a4 => k_is)
    (case l4 => k_is)
    (case c4 => k_is)
    (case k4 => k_is)
    (case a5 => k_is)
    (case l5 => k_is)
    (case c5 => k_is)
    (case k5 => k_is)
    (case a6 => k_is)
    (case l6 => k_is)
    (case c6 => k_is)
    (case k6 => k_is)
    (case a7 => k_is)
    (case l7 => k_is)
    (case c7 => k_is)
    (case k7 => k_is)
    (case a8 => k_is)
    (case l8 => k_is)
    (case c8 => k_is)
    (case k8 => k_is)
    (case a9 => k_is)
    (case l9 => k_is)
    (case c9 => k_is)
    (case k9 => k_is)
    (case a10 => k_is)
    (case l10 => k_is)
    (case c10 => k_is)
    (case k10 => k_is)
    (case a11 => k_is)
    (case l11 => k_is)
    (case c11 => k_is)
    (case k11 => k_is)
    (case a12 => k_is)
    (case l12 => k_is)
    (case c12 => k_is)
    (case k12 => k_is)
    (case a13 => k_is)
    (case l13 => k_is)
    (case c13 => k_is)
    (case k13 => k_is)
    (case a14 => k_is)
    (case l14 => k_is)
    (case c14 => k_is)
    (case k14 => k_is)
    (case a15 => k_is)
    (case l15 => k_is)
    (case c15 => k_is)
    (case k15 => k_is)
    (case a16 => k_is)
    (case l16 => k_is)
    (case c16 => k_is)
    (case k16 => k_is)
    (case a17 => k_is)
    (case l17 => k_is)
    (case c17 => k_is)
    (case k17 => k_is)
    (case a18 => k_is)
    (case l18 => k_is)
    (case c18 => k_is)
    (case k18 => k_is)
    (case a19 => k_is)
    (case l19 => k_is)
    (case c19 => k_is)
    (case k19 => k_is)
    (case a20 => k_is)
    (case l20 => k_is)
    (case c20 => k_is)
    (case k20 => k_is)
    (case a21 => k_is)
    (case l21 => k_is)
    (case c21 => k_is)
    (case k21 => k_is)
    (case a22 => k_is)
    (case l22 => k_is)
    (case c22 => k_is)
    (case k22 => k_is)
    (case a23 => k_is)
    (case l23 => k_is)
    (case c23 => k_is)
    (case k23 => k_is)
    (case a24 => k_is)
    (case l24 => k_is)
    (case c24 => k_is)
    (case k24 => k_is)
    (case a25 => k_is)
    (case l25 => k_is)
    (case c25 => k_is)
    (case k25 => k_is)
    (case a26 => k_is)
    (case l26 => k_is)
    (case c26 => k_is)
    (case k26 => k_is)
    (case a27 => k_is)
    (case l27 => k_is)
    (case c27 => k_is)
    (case k27 => k_is)
    (case a28 => k_is)
    (case l28 => k_is)
    (case c28 => k_is)
    (case k28 => k_is)
    (case a29 => k_is)
    (case l29 => k_is)
    (case c29 => k_is)
    (case k29 => k_is)
    (case a30 => k_is)
    (case l30 => k_is)
    (case c30 => k_is)
    (case k30 => k_is)
    (case a31 => k_is)
    (case l31 => k_is)
    (case c31 => k_is)
    (case k31 => k_is)
    (case a32 => k_is)
    (case l32 => k_is)
    (case c32 => k_is)
    (case k32 => k_is)
    (case z_ValueError => k_is)
    (case z_bool => k_is)
    (case z_enumerate => k_is)
    (case z_int => k_is)
    (case z_isinstance => k_is)
    (case z_len => k_is)
    (case z_list => k_is)
    (case z_max => k_is)
    (case z_min => k_is)
    (case z_range => k_is)
    (case z_set => k_is)
    (case z_sorted => k_is)
    (case z_str => k_is)
    (case z_tuple => k_is)
    (case z_zip => k_is)
    (case xc_BadSet => k_exc)
    (case ea_BadSet => k_is)
    (case eb_BadSet => k_is)
    (case ec_BadSet => k_is)
    (case ed_BadSet => k_is)
    (case ee_BadSet => k_is)
    (case ef_BadSet => k_is)
    (case eg_BadSet => k_is)
    (case eh_BadSet => k_is)
    (case hx_BadSet => kts_exm)
    (case qv_BadSet => kit_is)
    (case q_BadSet_BadWeb => kit_is)
    (case q_BadSet_BadSet => kit_is)
    (case q_BadSet_BadPoint => kit_is)
    (case q_BadSet_NotRing => kit_is)
    (case q_BadSet_NoChord => kit_is)
    (case q_BadSet_NoBase => kit_is)
    (case q_BadSet_NoSuch => kit_is)
    (case q_BadSet_TooMany => kit_is)
    (case q_BadSet_BadRow => kit_is)
    (case q_BadSet_NoDeed => kit_is)
    (case q_BadSet_NotEven => kit_is)
    (case q_BadSet_NoText => kit_is)
    (case xc_NoChord => k_exc)

