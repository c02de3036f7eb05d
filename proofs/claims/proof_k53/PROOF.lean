import PyProof.Rows.All
import Wide.All
import OpenK.AllK
import Wide.FinOn
import Lean
import PyProof.EqAt
import PyProof.EqKinds
import PyProof.TupleCall
import PySem.Challenge.RW_ringbase_k53_deeds_refused
set_option Elab.async false
set_option linter.all false
set_option maxRecDepth 100000
namespace L2
open PySem PySem.Spec PyProof.Rows

abbrev Key := Sum Int Str
def keyIs : Key → Value → Bool
  | .inl k, v => Value.isInt k v
  | .inr x, v => Value.isStrOf x v
def keyH (w : World) : Key → Int
  | .inl k => hashInt k
  | .inr x => hashStr w x
theorem keyIs_shape : ∀ {k : Key} {v : Value}, keyIs k v = true → (∃ i t, k = Sum.inl i ∧ v = Value.int i t) ∨ (∃ x t, k = Sum.inr x ∧ v = Value.str x t)
  | .inl i, v, h => by
    obtain ⟨t, e⟩ := Value.isInt_shape (k := i) (v := v) h
    exact .inl ⟨i, t, rfl, e⟩
  | .inr x, v, h => by
    obtain ⟨t, e⟩ := Value.isStrOf_shape (x := x) (v := v) h
    exact .inr ⟨x, t, rfl, e⟩
theorem keyIs_int (i : Int) (t : Tok) : keyIs (.inl i) (.int i t) = true := by simp [keyIs, Value.isInt]
theorem keyIs_str (x : Str) (t : Tok) : keyIs (.inr x) (.str x t) = true := by simp [keyIs, Value.isStrOf]
theorem key_ll (a b : Int) : decide ((Sum.inl a : Key) = Sum.inl b) = (a == b) := by
  by_cases e : a = b
  · subst e; simp
  · have h : ¬ (Sum.inl a : Key) = Sum.inl b := fun q => e (Sum.inl.inj q)
    rw [decide_eq_false h]
    exact (beq_eq_false_iff_ne.mpr e).symm
theorem key_rr (a b : Str) : decide ((Sum.inr a : Key) = Sum.inr b) = decide (a = b) := by
  by_cases e : a = b
  · subst e; simp
  · have h : ¬ (Sum.inr a : Key) = Sum.inr b := fun q => e (Sum.inr.inj q)
    rw [decide_eq_false h, decide_eq_false e]
theorem key_lr (a : Int) (b : Str) : decide ((Sum.inl a : Key) = Sum.inr b) = false := decide_eq_false (fun q => nomatch q)
theorem key_rl (a : Str) (b : Int) : decide ((Sum.inr a : Key) = Sum.inl b) = false := decide_eq_false (fun q => nomatch q)

def mixKind (prog : Program) (w : World) : PySem.KeyKind prog w Key where
  is := keyIs
  hash := keyH w
  inj := fun v a b ha hb => by
    rcases keyIs_shape ha with ⟨i, t, rfl, rfl⟩ | ⟨x, t, rfl, rfl⟩
    · rcases keyIs_shape hb with ⟨j, u, rfl, e⟩ | ⟨y, u, rfl, e⟩
      · injection e with e1 _; rw [e1]
      · exact nomatch e
    · rcases keyIs_shape hb with ⟨j, u, rfl, e⟩ | ⟨y, u, rfl, e⟩
      · exact nomatch e
      · injection e with e1 _; rw [e1]
  byValue := fun k v h => by
    rcases keyIs_shape h with ⟨i, t, rfl, rfl⟩ | ⟨x, t, rfl, rfl⟩ <;> rfl
  pyHash := fun hv h => by
    rcases keyIs_shape hv with ⟨i, t, rfl, rfl⟩ | ⟨x, t, rfl, rfl⟩
    · exact wpAny_pyHash_int h
    · exact wpAny_pyHash_str h
  eqBool := fun hu hv h => by
    rcases keyIs_shape hu with ⟨i, t, rfl, rfl⟩ | ⟨x, t, rfl, rfl⟩
    · rcases keyIs_shape hv with ⟨j, u, rfl, rfl⟩ | ⟨y, u, rfl, rfl⟩
      · rw [key_ll] at h; exact wpAny_eqBool_int h
      · rw [key_lr] at h; exact SeqAt.EqAt.int_str i t y u _ _ _ _ h
    · rcases keyIs_shape hv with ⟨j, u, rfl, rfl⟩ | ⟨y, u, rfl, rfl⟩
      · rw [key_rl] at h; exact SeqAt.EqAt.str_int x t j u _ _ _ _ h
      · rw [key_rr] at h; exact wpAny_eqBool_str h
  «strs» := fun k x t v h => by
    rcases keyIs_shape h with ⟨i, u, rfl, e⟩ | ⟨y, u, rfl, e⟩
    · exact nomatch e
    · injection e with e1 _
      subst e1
      cases v <;> rfl

theorem mixKind_int (prog : Program) (w : World) (i : Int) (t : Tok) : (mixKind prog w).is (.inl i) (.int i t) = true := keyIs_int i t
theorem mixKind_str (prog : Program) (w : World) (x : Str) (t : Tok) : (mixKind prog w).is (.inr x) (.str x t) = true := keyIs_str x t
end L2

namespace L2
open PySem PySem.Spec PyProof.Rows

inductive V where
  | non | bl (b : Bool) | int (i : Int) | str (x : Str) | byt (b : Array UInt8) | flt (b : UInt64) | ref (a : Addr) | ty (n : String)
  deriving DecidableEq

def RelV : V → Value → Prop
  | .non, u => u = Value.none
  | .bl b, u => u = Value.bool b
  | .int i, u => ∃ t, u = Value.int i t
  | .str x, u => ∃ t, u = Value.str x t
  | .byt b, u => ∃ t, u = Value.bytes b t
  | .flt b, u => ∃ t, u = Value.float b t
  | .ref a, u => u = Value.ref a
  | .ty n, u => u = Value.type n

abbrev Vals : List V → List Value → Prop := Paired RelV
theorem Vals.length {xs : List V} {us : List Value} (r : Vals xs us) : xs.length = us.length := Paired.length r
theorem Vals.get : ∀ {xs : List V} {us : List Value} {i : Nat} {x : V}, Vals xs us → xs[i]? = some x → ∃ u, us[i]? = some u ∧ RelV x u
  | _, _, _, _, .nil, e => by simp at e
  | _, _, 0, _, .cons r _, e => by simp at e; subst e; exact ⟨_, rfl, r⟩
  | _, _, i + 1, x, .cons _ t, e => by
    obtain ⟨u, h1, h2⟩ := Vals.get (i := i) (x := x) t (by simpa using e)
    exact ⟨u, by simpa using h1, h2⟩
theorem Vals.append : ∀ {xs ys : List V} {us ws : List Value}, Vals xs us → Vals ys ws → Vals (xs ++ ys) (us ++ ws)
  | _, _, _, _, .nil, s => s
  | _, _, _, _, .cons r t, s => .cons r (Vals.append t s)
theorem Vals.take : ∀ {xs : List V} {us : List Value} (n : Nat), Vals xs us → Vals (xs.take n) (us.take n)
  | _, _, 0, _ => .nil
  | _, _, _ + 1, .nil => .nil
  | _, _, n + 1, .cons r t => .cons r (Vals.take n t)
theorem Vals.drop : ∀ {xs : List V} {us : List Value} (n : Nat), Vals xs us → Vals (xs.drop n) (us.drop n)
  | _, _, 0, r => r
  | _, _, _ + 1, .nil => .nil
  | _, _, n + 1, .cons _ t => Vals.drop n t
def RelO : Option V → Option Value → Prop
  | some v, some u => RelV v u
  | none, none => True
  | _, _ => False
def KV {κ : Type} : List (κ × V) → List (κ × Value) → Prop := Paired fun (p : κ × V) (q : κ × Value) => p.1 = q.1 ∧ RelV p.2 q.2

def kV : Key → V
  | .inl i => .int i
  | .inr x => .str x

inductive HO where
  /-- a list -/
  | lst (xs : List V)
  /-- a tuple (never changes) -/
  | tup (xs : List V)
  /-- a dict whose keys are ints and texts; one whose keys are tuples of ints and texts (the empty one is both) -/
  | dK (kvs : List (Key × V)) | dT (kvs : List (List Key × V))
  /-- a set of ints: its members, its size -/
  | set (S : Int → Bool) (n : Nat)
  /-- an instance of the class at C, its dict at dx, its attributes -/
  | ins (C dx : Addr) (fs : List (Str × V))
  /-- the dict of the instance at x -/
  | own (x : Addr)
  /-- the dict of an exception -/
  | xd (fs : List (Str × V))
  /-- a bound method, f of x -/
  | met (f x : Addr)
  /-- a range object lo, lo + 1, .. below hi -/
  | rng (lo hi : Int)
  /-- a thing that is known to the object (the script; a dict while a loop walks it): read, never written while it is so -/
  | frz (o : Obj) (u : HO)
  /-- a code object's table -/
  | tbl (ps : Array Value)
  /-- any other thing, by what is true of its one object (a def of one's own: SetO a S n := HO.ext fun h => ..) -/
  | ext (φ : Heap → Prop)

abbrev Hp := Addr → Option HO
def upd (H : Hp) (a : Addr) (o : HO) : Hp := fun b => if b = a then some o else H b
theorem upd_same {H : Hp} {a : Addr} {o : HO} : upd H a o a = some o := by unfold upd; rw [if_pos rfl]
theorem upd_ne {H : Hp} {a b : Addr} {o : HO} (h : b ≠ a) : upd H a o b = H b := by unfold upd; rw [if_neg h]
theorem ne_of {H : Hp} {a b : Addr} {o u : HO} (h : H a = some o) (h' : H b = some u) (d : o ≠ u) : a ≠ b := by
  intro e; subst e; rw [h] at h'; exact d (Option.some.inj h')
theorem ne_of_none {H : Hp} {a b : Addr} {o : HO} (h : H a = some o) (h' : H b = none) : a ≠ b := by
  intro e; subst e; rw [h] at h'; cases h'

section
variable (P : Program) (w : World)
def ObjOk (H : Hp) (h : Heap) (a : Addr) : HO → Prop
  | .lst xs => xs.length ≤ sizeLine ∧ ∃ (its : List Value) (n : Nat), Vals xs its ∧ h.get? a = some { cls := .type "list", data := .seq its.toArray n }
  | .tup xs => xs.length ≤ sizeLine ∧ ∃ its : List Value, Vals xs its ∧ IsTup h a its.toArray
  | .dK kvs => kvs.length ≤ sizeLine ∧ (a == sysModules) = false ∧ ∃ vs, KV kvs vs ∧ h.DictOf (mixKind P w) a vs
  | .dT kvs => kvs.length ≤ sizeLine ∧ (a == sysModules) = false ∧ ∃ xs : List (List Key × Addr × Value),
      Paired (fun (p : List Key × V) (q : List Key × Addr × Value) => p.1 = q.1 ∧ H q.2.1 = some (.tup (p.1.map kV)) ∧ RelV p.2 q.2.2) kvs xs ∧
      ∃ o es ep, h.get? a = some o ∧ o.ExactDict ∧ o.data = .dict es ep ∧ es.toList = xs.map (entryOfKey (tupleKind (mixKind P w))) ∧ (xs.map (·.1)).Nodup
  | .set S n => h.SetOf (intKind P w) a S n
  | .ins C dx fs => H dx = some (.own a) ∧ fs.length ≤ 1000 ∧ dx ≠ a ∧ h.get? a = some (PySem.W.instObj C dx) ∧
      ∃ mA, h.Ns1 dx mA ∧ (∀ f, RelO (fs.lookup f) (mA f)) ∧ PySem.Within mA (fs.map (·.1))
  | .own _ => ∃ o, h.get? a = some o
  | .xd fs => ∃ mA, h.Ns1 a mA ∧ ∀ f, RelO (fs.lookup f) (mA f)
  | .rng lo hi => ∃ t u v, h.get? a = some { cls := .type "range", data := .fields #[.int lo t, .int hi u, .int 1 v] }
  | .frz o u => h.get? a = some o ∧ ObjOk H h a u
  | .tbl ps => h.get? a = some { cls := .none, data := .fields ps }
  | .met f x => h.get? a = some (PySem.W.methodObj (.ref f) (.ref x))
  | .ext φ => φ h ∧ (∃ o, h.get? a = some o) ∧ ∀ h1 h2 : Heap, φ h1 → (∀ o, h1.get? a = some o → h2.get? a = some o) → φ h2
def HOk (H : Hp) (h : Heap) : Prop := ∀ a o, H a = some o → ObjOk P w H h a o
end

section
variable {P : Program} {w : World} {H H' : Hp} {h h' : Heap} {a : Addr} {o : HO}
theorem ObjOk.lt (x : ObjOk P w H h a o) : a < h.objs.size := by
  cases o with
  | lst xs => obtain ⟨_, _, _, _, e⟩ := x; exact Heap.lt_size e
  | tup xs => obtain ⟨_, _, _, p⟩ := x; exact p.lt
  | dK kvs => obtain ⟨_, _, _, _, o, _, _, e, _⟩ := x; exact Heap.lt_size e
  | dT kvs => obtain ⟨_, _, _, _, o, _, _, e, _⟩ := x; exact Heap.lt_size e
  | set S n => obtain ⟨o, _, _, _, e, _⟩ := x; exact Heap.lt_size e
  | ins C dx fs => obtain ⟨_, _, _, e, _⟩ := x; exact Heap.lt_size e
  | own y => obtain ⟨_, e⟩ := x; exact Heap.lt_size e
  | xd fs => obtain ⟨_, ⟨_, _, _, e, _⟩, _⟩ := x; exact Heap.lt_size e
  | rng lo hi => obtain ⟨_, _, _, e⟩ := x; exact Heap.lt_size e
  | frz ob u => obtain ⟨e, _⟩ := x; exact Heap.lt_size e
  | tbl ps => exact Heap.lt_size (show h.get? a = some _ from x)
  | met f y => exact Heap.lt_size (show h.get? a = some _ from x)
  | ext φ => obtain ⟨_, ⟨_, e⟩, _⟩ := x; exact Heap.lt_size e
theorem Paired.mapP {α β : Type} {F G : α → β → Prop} : ∀ {l₁ : List α} {l₂ : List β}, Paired F l₁ l₂ → (∀ a b, F a b → G a b) → Paired G l₁ l₂
  | _, _, .nil, _ => .nil
  | _, _, .cons r t, f => .cons (f _ _ r) (Paired.mapP t f)
theorem Paired.imp' {α β : Type} {F G : α → β → Prop} (f : ∀ a b, F a b → G a b) {l₁ : List α} {l₂ : List β} (r : Paired F l₁ l₂) : Paired G l₁ l₂ := Paired.mapP r f
theorem ObjOk.stay (x : ObjOk P w H h a o) (k : ∀ b u, (b = a ∨ H b = some (.own a)) → h.get? b = some u → h'.get? b = some u)
    (ho : ∀ b, H b = some (.own a) → H' b = some (.own a)) (ht : ∀ b xs, H b = some (.tup xs) → H' b = some (.tup xs)) : ObjOk P w H' h' a o := by
  induction o with
  | lst xs => obtain ⟨z, its, n, r, e⟩ := x; exact ⟨z, its, n, r, k _ _ (.inl rfl) e⟩
  | tup xs => obtain ⟨z, its, r, ob, e, c⟩ := x; exact ⟨z, its, r, ob, k _ _ (.inl rfl) e, c⟩
  | dK kvs => obtain ⟨z, y, vs, r, ob, es, ep, e, c⟩ := x; exact ⟨z, y, vs, r, ob, es, ep, k _ _ (.inl rfl) e, c⟩
  | dT kvs =>
    obtain ⟨z, y, xs, r, ob, es, ep, e, c⟩ := x
    exact ⟨z, y, xs, Paired.mapP r fun p q z => ⟨z.1, ht _ _ z.2.1, z.2.2⟩, ob, es, ep, k _ _ (.inl rfl) e, c⟩
  | set S n => obtain ⟨ob, es, ep, t, e, c⟩ := x; exact ⟨ob, es, ep, t, k _ _ (.inl rfl) e, c⟩
  | ins C dx fs =>
    obtain ⟨d, z, ne, e, mA, ⟨od, es, ep, e2, c⟩, r⟩ := x
    exact ⟨ho _ d, z, ne, k _ _ (.inl rfl) e, mA, ⟨od, es, ep, k _ _ (.inr d) e2, c⟩, r⟩
  | own y => obtain ⟨ob, e⟩ := x; exact ⟨ob, k _ _ (.inl rfl) e⟩
  | xd fs => obtain ⟨mA, ⟨od, es, ep, e, c⟩, r⟩ := x; exact ⟨mA, ⟨od, es, ep, k _ _ (.inl rfl) e, c⟩, r⟩
  | rng lo hi => obtain ⟨t, u, v, e⟩ := x; exact ⟨t, u, v, k _ _ (.inl rfl) e⟩
  | frz ob u ih => obtain ⟨e, q⟩ := x; exact ⟨k _ _ (.inl rfl) e, ih q⟩
  | tbl ps =>
    have e : h.get? a = some { cls := .none, data := .fields ps } := x
    show h'.get? a = some { cls := .none, data := .fields ps }
    exact k a _ (.inl rfl) e
  | met f y =>
    have e : h.get? a = some (PySem.W.methodObj (.ref f) (.ref y)) := x
    show h'.get? a = some (PySem.W.methodObj (.ref f) (.ref y))
    exact k a _ (.inl rfl) e
  | ext φ => obtain ⟨p, ⟨o, e⟩, st⟩ := x; exact ⟨st _ _ p fun o q => k _ _ (.inl rfl) q, ⟨o, k _ _ (.inl rfl) e⟩, st⟩
theorem HOk.lt (x : HOk P w H h) (e : H a = some o) : a < h.objs.size := (x a o e).lt
theorem HOk.fresh (x : HOk P w H h) (e : h.objs.size ≤ a) : H a = none := by
  cases q : H a with
  | none => rfl
  | some u => exact absurd (Nat.lt_of_lt_of_le (x.lt q) e) (Nat.lt_irrefl _)
theorem HOk.kept (x : HOk P w H h) (k : ∀ b u, h.get? b = some u → h'.get? b = some u) : HOk P w H h' := fun a o e =>
  (x a o e).stay (fun b u _ q => k b u q) (fun _ q => q) fun _ _ q => q
theorem HOk.laid (x : HOk P w H h) (k : ∀ b u, h.get? b = some u → h'.get? b = some u) (hp : h.objs.size ≤ a) (new : ObjOk P w (upd H a o) h' a o) : HOk P w (upd H a o) h' := fun b u e => by
  have hn := x.fresh hp
  by_cases hb : b = a
  · subst hb; rw [upd_same] at e; cases e; exact new
  · rw [upd_ne hb] at e
    exact (x b u e).stay (fun c v _ q => k c v q) (fun c q => by rw [upd_ne (ne_of_none q hn)]; exact q) fun c xs q => by rw [upd_ne (ne_of_none q hn)]; exact q
end

def Rd (H : Hp) (a : Addr) (u : HO) : Prop := H a = some u ∨ ∃ o, H a = some (.frz o u)
theorem Rd.ok {P : Program} {w : World} {H : Hp} {h : Heap} {a : Addr} {u : HO} (r : Rd H a u) (x : HOk P w H h) : ObjOk P w H h a u := by
  rcases r with r | ⟨o, r⟩
  · exact x a u r
  · obtain ⟨_, q⟩ := x a _ r
    exact q
def Mut : Option HO → Prop
  | some (.lst _) => True
  | some (.dK _) => True
  | some (.dT _) => True
  | some (.set _ _) => True
  | some (.ins _ _ _) => True
  | some (.ext _) => True
  | _ => False
section
variable {P : Program} {w : World} {H : Hp} {h h' : Heap} {x e : Addr} {o' : HO}
theorem HOk.write (ok : HOk P w H h) (mu : Mut (H x)) (he : e = x ∨ H e = some (.own x)) (k : ∀ b u, b ≠ e → h.get? b = some u → h'.get? b = some u) (heo : ∃ u, h'.get? e = some u)
    (new : ObjOk P w (upd H x o') h' x o') : HOk P w (upd H x o') h' := fun b u q => by
  have nown : ∀ c y, H c = some (.own y) → c ≠ x := fun c y r z => by subst z; rw [r] at mu; exact mu
  have ntup : ∀ c xs, H c = some (.tup xs) → c ≠ x := fun c xs r z => by subst z; rw [r] at mu; exact mu
  by_cases hb : b = x
  · subst hb; rw [upd_same] at q; cases q; exact new
  · rw [upd_ne hb] at q
    by_cases hbe : b = e
    · have q' : H b = some (.own x) := by
        rcases he with z | z
        · exact absurd (hbe.trans z) hb
        · rw [hbe]; exact z
      rw [q] at q'; cases q'
      obtain ⟨v, hv⟩ := heo
      exact ⟨v, by rw [hbe]; exact hv⟩
    · refine (ok b u q).stay (fun c v hc r => k c v ?_ r) (fun c r => by rw [upd_ne (nown c b r)]; exact r) fun c xs r => by rw [upd_ne (ntup c xs r)]; exact r
      rcases hc with rfl | hc
      · exact hbe
      · rintro rfl
        rcases he with z | z
        · exact nown c b hc z
        · rw [hc] at z; cases z; exact hb rfl
end

structure Un (fs ex : List Addr) (H H' : Hp) (h h' : Heap) : Prop where
  keep : ∀ b o, h.get? b = some o → H b = none → b ∉ fs → b ∉ ex → h'.get? b = some o
  slot : ∀ b o, h.get? b = some o → H b = none → b ∈ fs → b ∉ ex → ∃ sl, h'.get? b = some { o with slots := sl }
  free : ∀ b o, h.get? b = some o → H b = none → b ∉ ex → H' b = none
  there : ∀ b o, h.get? b = some o → b ∉ ex → ∃ o', h'.get? b = some o'
  tups : ∀ b xs, H b = some (.tup xs) → H' b = some (.tup xs)
  frzs : ∀ b o u, H b = some (.frz o u) → H' b = some (.frz o u)
  tbls : ∀ b ps, H b = some (.tbl ps) → ∃ more, H' b = some (.tbl (ps ++ more))
section
variable {fs fs' ex ex' : List Addr} {H H1 H2 : Hp} {h h1 h2 h' : Heap} {a x e : Addr} {o : HO}
theorem Un.any (u : Un fs ex H H1 h h1) {b : Addr} {ob : Obj} (q : h.get? b = some ob) (n : H b = none) (hx : b ∉ ex) : ∃ sl, h1.get? b = some { ob with slots := sl } := by
  by_cases hb : b ∈ fs
  · exact u.slot b ob q n hb hx
  · exact ⟨ob.slots, u.keep b ob q n hb hx⟩
theorem Un.kept (k : ∀ b u, h.get? b = some u → h'.get? b = some u) : Un fs ex H H h h' :=
  ⟨fun b ob q _ _ _ => k b ob q, fun b ob q _ _ _ => ⟨ob.slots, k b ob q⟩, fun _ _ _ n _ => n, fun b ob q _ => ⟨ob, k b ob q⟩, fun _ _ q => q, fun _ _ _ q => q, fun _ ps q => ⟨#[], by rw [q]; simp⟩⟩
theorem Un.refl : Un fs ex H H h h := Un.kept fun _ _ q => q
theorem Un.laid (k : ∀ b u, h.get? b = some u → h'.get? b = some u) (hp : h.objs.size ≤ a) (hn : H a = none) : Un fs ex H (upd H a o) h h' where
  keep := fun b u q _ _ _ => k b u q
  slot := fun b u q _ _ _ => ⟨u.slots, k b u q⟩
  free := fun b u q n _ => by rw [upd_ne (Nat.ne_of_lt (Nat.lt_of_lt_of_le (Heap.lt_size q) hp))]; exact n
  there := fun b u q _ => ⟨u, k b u q⟩
  tups := fun b xs q => by rw [upd_ne (ne_of_none q hn)]; exact q
  frzs := fun b u xs q => by rw [upd_ne (ne_of_none q hn)]; exact q
  tbls := fun b ps q => ⟨#[], by rw [upd_ne (ne_of_none q hn), q]; simp⟩
theorem Un.write (mu : Mut (H x)) (he : e = x ∨ H e = some (.own x)) (k : ∀ b u, b ≠ e → h.get? b = some u → h'.get? b = some u) (heo : ∃ u, h'.get? e = some u) : Un fs ex H (upd H x o) h h' := by
  have hx : ∀ b, H b = none → b ≠ x := fun b n z => by subst z; rw [n] at mu; exact mu
  have hb : ∀ b, H b = none → b ≠ e := fun b n z => by
    subst z
    rcases he with r | r
    · exact hx b n r
    · rw [n] at r; cases r
  have hm : ∀ b u, H b = some u → ¬ Mut (some u) → b ≠ x := fun b u q nm z => by subst z; rw [q] at mu; exact nm mu
  refine ⟨fun b u q n _ _ => k b u (hb b n) q, fun b u q n _ _ => ⟨u.slots, k b u (hb b n) q⟩, fun b u q n _ => by rw [upd_ne (hx b n)]; exact n, fun b u q _ => ?_,
    fun b xs q => by rw [upd_ne (hm b _ q fun z => z)]; exact q, fun b u xs q => by rw [upd_ne (hm b _ q fun z => z)]; exact q, fun b ps q => ⟨#[], by rw [upd_ne (hm b _ q fun z => z), q]; simp⟩⟩
  by_cases hbe : b = e
  · subst hbe; exact heo
  · exact ⟨u, k b u hbe q⟩
end

def trk (h : Heap) (H : Hp) : List Addr := (List.range h.objs.size).filter fun a => (H a).isSome
def hidT (h : Heap) (H : Hp) : Heap := PySem.W.hideAll h (trk h H)
theorem hidT_size (h : Heap) (H : Hp) : (hidT h H).objs.size = h.objs.size := PySem.W.hideAll_size _ _
theorem hidT_get {h : Heap} {H : Hp} {b : Addr} {o : Obj} (e : h.get? b = some o) (n : H b = none) : (hidT h H).get? b = some o :=
  PySem.W.hideAll_get _ e fun hm => by
    have q : (H b).isSome = true := (List.mem_filter.mp hm).2
    rw [n] at q; simp at q
theorem of_hidT {h : Heap} {H : Hp} {b : Addr} {o : Obj} (e : (hidT h H).get? b = some o) : h.get? b = some o ∧ H b = none := by
  have e' : h.get? b = some o := PySem.W.of_hideAll (trk h H) e
  refine ⟨e', ?_⟩
  cases q : H b with
  | none => rfl
  | some x =>
    have hm : b ∈ trk h H := List.mem_filter.mpr ⟨List.mem_range.mpr (Heap.lt_size e'), by simp [q]⟩
    have z : (hidT h H).get? b = none := PySem.W.hideAll_none (trk h H) hm
    rw [z] at e; cases e

end L2

namespace L2
open PySem PySem.Spec PyProof.Rows

structure Mod (K : PySem.W.Frag) (mg : Str → Option Value) (base : Heap) : Prop where
  kin : K.In base
  glob : base.Ns mainGlobals mg
  blt : ∃ mb, base.Ns builtinsNs mb ∧ ∀ x : Str, x ≠ "__name__" → mb x = bootBuiltins x
  nolimit : base.NoLimit

structure Cx where
  prog : Program
  w : World
  K : PySem.W.Frag
  mg : Str → Option Value
  base : Heap
  A : Around
  N : List Str
  s₀ : Shared
  H₀ : Hp
  env : Env
  outer : List Env
  stack : List Env
  ex : List Addr
  fn : Str → Bool
  calm : Bool
  pn : List (Addr × Obj)
  xe : Value → Shared → Prop
def frs (l : List Env) : List Addr := l.filterMap (·.frame)
abbrev Cx.fs (X : Cx) : List Addr := frs X.outer

def Vis (sc : Scope) (x : Str) : Prop := sc.names.lookup x = some .local ∨ sc.names.lookup x = some .cell ∨ sc.names.lookup x = some .free
def Loc (sc : Scope) (x : Str) : Prop := sc.names.lookup x = some .local ∨ sc.names.lookup x = some .cell
def Look (env : Env) (h : Heap) (m : Str → Option Value) (x : Str) (u : Value) : Prop :=
  (env.kindOf x = some .local ∧ m x = some u) ∨ ((env.kindOf x = some .cell ∨ env.kindOf x = some .free) ∧ ∃ c, env.cells.lookup x = some c ∧ h.IsCell c (some u))

structure Cx.Ok (X : Cx) : Prop where
  mod : Mod X.K X.mg X.base
  kind : X.env.scope.kind = .function
  glob : X.env.globals = mainGlobals
  blt : X.env.builtins = builtinsNs
  above : X.s₀.heap.objs.size ≤ X.env.locals
  inj : ∀ x y c, X.env.cells.lookup x = some c → X.env.cells.lookup y = some c → x = y
  has : ∀ x, (X.env.kindOf x = some .cell ∨ X.env.kindOf x = some .free) → ∃ c, X.env.cells.lookup x = some c
  cab : ∀ x c, X.fn x = true → X.env.cells.lookup x = some c → X.s₀.heap.objs.size ≤ c
  hd : X.calm = true → X.A.handled = none
  frames : X.A.frames = some X.stack
  stk : X.stack = X.outer ∨ (X.stack = X.env :: X.outer ∧ X.env.frame = some X.env.locals)
  exf : ∀ b ∈ X.ex, b ≠ X.env.locals ∧ ∀ x c, X.env.cells.lookup x = some c → c ≠ b
  bs : ∀ b o, X.base.get? b = some o → X.s₀.heap.get? b = some o ∧ X.H₀ b = none
  bsz : X.base.objs.size ≤ X.s₀.heap.objs.size
  noex : ∀ b o, X.base.get? b = some o → b ∉ X.ex
  exfs : ∀ b ∈ X.ex, b ∉ X.fs
  funs : X.s₀.heap.FunFrames X.base X.outer
  frf : ∀ b ∈ X.fs, X.H₀ b = none

structure Inv (X : Cx) (pins : List (Addr × Obj)) (σ : List (Option V)) (H : Hp) (s : Shared) : Prop where
  ok : X.Ok
  os : s.os = X.s₀.os
  bare : AllBare s.gens
  base : Un X.fs X.ex X.H₀ H X.s₀.heap s.heap
  loc : ∃ m, s.heap.Ns X.env.locals m ∧ ∀ (i : Nat) (x : Str) (v : V), X.N[i]? = some x → σ[i]? = some (some v) → Vis X.env.scope x → ∃ u, RelV v u ∧ Look X.env s.heap m x u
  cell : ∀ x c, X.env.cells.lookup x = some c → ∃ v, s.heap.IsCell c v
  free : H X.env.locals = none
  freeC : ∀ x c, X.env.cells.lookup x = some c → H c = none
  pin : ∀ p ∈ X.pn ++ pins, s.heap.get? p.1 = some p.2 ∧ H p.1 = none ∧ p.1 ≠ X.env.locals ∧ p.1 ∉ X.fs ∧ ∀ v, p.2.data ≠ .cell v
  hok : HOk X.prog X.w H s.heap
  len : σ.length = X.N.length

section
variable {X : Cx} {pins : List (Addr × Obj)} {σ : List (Option V)} {H H' : Hp} {s : Shared} {h' : Heap}

theorem Cx.Ok.nofr (ok : X.Ok) {b : Addr} {o : Obj} (e : X.base.get? b = some o) : b ∉ X.fs := fun hb => by
  have := (ok.funs.mem hb).1
  rw [e] at this; cases this
theorem Inv.bs (I : Inv X pins σ H s) : ∀ b o, X.base.get? b = some o → s.heap.get? b = some o ∧ H b = none := fun b o e =>
  ⟨I.base.keep b o (I.ok.bs b o e).1 (I.ok.bs b o e).2 (I.ok.nofr e) (I.ok.noex b o e), I.base.free b o (I.ok.bs b o e).1 (I.ok.bs b o e).2 (I.ok.noex b o e)⟩
theorem Inv.bk (I : Inv X pins σ H s) : ∀ b o, X.base.get? b = some o → s.heap.get? b = some o := fun b o e => (I.bs b o e).1
theorem Inv.mod (I : Inv X pins σ H s) : Mod X.K X.mg X.base := I.ok.mod
theorem Inv.kIn (I : Inv X pins σ H s) : X.K.In s.heap := I.ok.mod.kin.keeps I.bk
theorem Inv.lt (I : Inv X pins σ H s) : X.env.locals < s.heap.objs.size := let ⟨_, hn, _⟩ := I.loc; hn.lt
theorem Inv.sz (I : Inv X pins σ H s) : X.s₀.heap.objs.size ≤ s.heap.objs.size := Nat.le_trans I.ok.above (Nat.le_of_lt I.lt)
theorem Inv.nofs (I : Inv X pins σ H s) {a : Addr} (h : s.heap.objs.size ≤ a) : a ∉ X.fs := fun hb => by
  obtain ⟨_, o, ho, _⟩ := I.ok.funs.mem hb
  exact absurd (Nat.lt_of_lt_of_le (Heap.lt_size ho) (Nat.le_trans I.sz h)) (Nat.lt_irrefl _)
theorem Inv.cne (I : Inv X pins σ H s) : ∀ x c, X.env.cells.lookup x = some c → c ≠ X.env.locals := fun x c e z => by
  obtain ⟨v, o, ho, hd⟩ := I.cell x c e
  obtain ⟨m, ⟨o', es, ep, ho', hd', _⟩, _⟩ := I.loc
  rw [z, ho'] at ho; cases ho; rw [hd'] at hd; cases hd
theorem Inv.funs (I : Inv X pins σ H s) : s.heap.FunFrames X.base X.outer := by
  have all : ∀ (l : List Env), (∀ b ∈ frs l, b ∈ X.fs) → X.s₀.heap.FunFrames X.base l → s.heap.FunFrames X.base l := by
    intro l
    induction l with
    | nil => intro _ _; trivial
    | cons env r ih =>
      intro hs hl
      obtain ⟨hk, ⟨L, o, hf, hn, ho, hd⟩, hr⟩ := hl
      have hL : L ∈ X.fs := hs L (by unfold frs; rw [List.filterMap_cons, hf]; exact List.mem_cons_self)
      obtain ⟨sl, e⟩ := I.base.slot L o ho (I.ok.frf L hL) hL fun z => I.ok.exfs L z hL
      exact ⟨hk, ⟨L, _, hf, hn, e, hd⟩, ih (fun b hb => hs b (by unfold frs; rw [List.filterMap_cons, hf]; exact List.mem_cons_of_mem _ hb)) hr⟩
  exact all X.outer (fun _ hb => hb) I.ok.funs

theorem Inv.stack (I : Inv X pins σ H s) : s.heap.FunFrames X.base X.stack := by
  rcases I.ok.stk with e | ⟨e, hf⟩
  · rw [e]; exact I.funs
  · rw [e]
    obtain ⟨m, hn, _⟩ := I.loc
    refine .cons (by rw [I.ok.kind]; decide) hf hn ?_ I.funs
    exact Heap.get?_none_of_le (Nat.le_trans I.ok.bsz I.ok.above)
theorem Inv.stkSub (I : Inv X pins σ H s) : ∀ b ∈ frs X.stack, b ∈ X.env.locals :: X.fs := fun b hb => by
  rcases I.ok.stk with e | ⟨e, hf⟩
  · rw [e] at hb; exact List.mem_cons_of_mem _ hb
  · rw [e] at hb
    unfold frs at hb
    rw [List.filterMap_cons, hf] at hb
    exact hb
theorem Inv.stkFree (I : Inv X pins σ H s) : ∀ b ∈ frs X.stack, H b = none := fun b hb => by
  rcases List.mem_cons.mp (I.stkSub b hb) with e | hb
  · rw [e]; exact I.free
  · obtain ⟨_, o, ho, _⟩ := I.ok.funs.mem hb
    exact I.base.free b o ho (I.ok.frf b hb) fun z => I.ok.exfs b z hb

theorem Inv.step {g' : Array GenState} {t' : Nat} {d' : Drawn} {ch : List Addr} (I : Inv X pins σ H s)
    (hch : ∀ b ∈ ch, (b ∈ X.ex ∨ X.s₀.heap.objs.size ≤ b) ∧ b ≠ X.env.locals ∧ (∀ x c, X.env.cells.lookup x = some c → c ≠ b) ∧ ∀ p ∈ X.pn ++ pins, p.1 ≠ b)
    (keep : ∀ b o, b ≠ X.env.locals → b ∉ X.fs → b ∉ ch → s.heap.get? b = some o → H b = none → h'.get? b = some o)
    (slot : ∀ b o, b ≠ X.env.locals → b ∈ X.fs → b ∉ ch → s.heap.get? b = some o → H b = none → ∃ sl, h'.get? b = some { o with slots := sl }) (free : ∀ b o, b ∉ ch → s.heap.get? b = some o → H b = none → H' b = none)
    (there : ∀ b o, b ∉ ch → s.heap.get? b = some o → ∃ o', h'.get? b = some o')
    (tups : ∀ b xs, H b = some (.tup xs) → H' b = some (.tup xs)) (frzs : ∀ b o u, H b = some (.frz o u) → H' b = some (.frz o u)) (tbls : ∀ b ps, H b = some (.tbl ps) → ∃ more, H' b = some (.tbl (ps ++ more)))
    (ns : ∀ m, s.heap.Ns X.env.locals m → h'.Ns X.env.locals m) (hok : HOk X.prog X.w H' h') (hg : AllBare g') :
    Inv X pins σ H' { s with heap := h', gens := g', drawn := d', toks := t' } := by
  have neL : ∀ b o, X.s₀.heap.get? b = some o → b ≠ X.env.locals := fun b o e => Nat.ne_of_lt (Nat.lt_of_lt_of_le (Heap.lt_size e) I.ok.above)
  have neC : ∀ b o, X.s₀.heap.get? b = some o → b ∉ X.ex → b ∉ ch := fun b o e hx hb => by
    rcases (hch b hb).1 with z | z
    · exact hx z
    · exact absurd (Nat.lt_of_lt_of_le (Heap.lt_size e) z) (Nat.lt_irrefl _)
  have cellK : ∀ x c, X.env.cells.lookup x = some c → ∀ v, s.heap.IsCell c v → h'.IsCell c v := fun x c e v ⟨o, ho, hd⟩ => by
    have nch : c ∉ ch := fun z => (hch c z).2.2.1 x c e rfl
    by_cases hc : c ∈ X.fs
    · obtain ⟨sl, q⟩ := slot c o (I.cne x c e) hc nch ho (I.freeC x c e)
      exact ⟨_, q, hd⟩
    · exact ⟨o, keep c o (I.cne x c e) hc nch ho (I.freeC x c e), hd⟩
  refine ⟨I.ok, I.os, hg, ⟨fun b o e n hb hx => ?_, fun b o e n hb hx => ?_, fun b o e n hx => ?_, fun b o e hx => ?_, fun b xs e => tups b xs (I.base.tups b xs e), fun b o xs e => frzs b o xs (I.base.frzs b o xs e), fun b ps e => ?_⟩, ?_, fun x c e => ?_, ?_, fun x c e => ?_, fun p hp => ?_, hok, I.len⟩
  · exact keep b o (neL b o e) hb (neC b o e hx) (I.base.keep b o e n hb hx) (I.base.free b o e n hx)
  · obtain ⟨sl, e1⟩ := I.base.slot b o e n hb hx
    obtain ⟨sl', e2⟩ := slot b _ (neL b o e) hb (neC b o e hx) e1 (I.base.free b o e n hx)
    exact ⟨sl', e2⟩
  · obtain ⟨o', e1⟩ := I.base.there b o e hx
    exact free b o' (neC b o e hx) e1 (I.base.free b o e n hx)
  · obtain ⟨o', e1⟩ := I.base.there b o e hx
    exact there b o' (neC b o e hx) e1
  · obtain ⟨m1, e1⟩ := I.base.tbls b ps e
    obtain ⟨m2, e2⟩ := tbls b _ e1
    exact ⟨m1 ++ m2, by rw [e2, Array.append_assoc]⟩
  · obtain ⟨m, hn, hl⟩ := I.loc
    refine ⟨m, ns m hn, fun i x v e1 e2 e3 => ?_⟩
    obtain ⟨u, r, l⟩ := hl i x v e1 e2 e3
    refine ⟨u, r, ?_⟩
    rcases l with l | ⟨k, c, e, z⟩
    · exact .inl l
    · exact .inr ⟨k, c, e, cellK x c e _ z⟩
  · obtain ⟨v, z⟩ := I.cell x c e
    exact ⟨v, cellK x c e v z⟩
  · obtain ⟨m, ⟨o, _, _, ho, _⟩, _⟩ := I.loc
    exact free _ o (fun z => (hch _ z).2.1 rfl) ho I.free
  · obtain ⟨v, o, ho, hd⟩ := I.cell x c e
    exact free c o (fun z => (hch c z).2.2.1 x c e rfl) ho (I.freeC x c e)
  · obtain ⟨e, n, ne, nf, d⟩ := I.pin p hp
    have nch : p.1 ∉ ch := fun z => (hch p.1 z).2.2.2 p hp rfl
    exact ⟨keep p.1 p.2 ne nf nch e n, free p.1 p.2 nch e n, ne, nf, d⟩
theorem Inv.un {t' : Nat} (I : Inv X pins σ H s) (u : Un X.fs [] H H' s.heap h') (hok : HOk X.prog X.w H' h') : Inv X pins σ H' { s with heap := h', toks := t' } := by
  obtain ⟨m, ⟨o, es, ep, ho, r⟩, _⟩ := id I.loc
  obtain ⟨sl, hL⟩ := u.any ho I.free (by simp)
  exact I.step (g' := s.gens) (d' := s.drawn) (ch := []) (fun _ z => nomatch z) (fun b o _ hb _ e n => u.keep b o e n hb (by simp)) (fun b o _ hb _ e n => u.slot b o e n hb (by simp)) (fun b o _ e n => u.free b o e n (by simp)) (fun b o _ e => u.there b o e (by simp)) u.tups u.frzs u.tbls (fun m' hm => by
    obtain ⟨o', es', ep', ho', r'⟩ := hm
    rw [ho] at ho'; cases ho'
    exact ⟨_, es', ep', hL, r'⟩) hok I.bare
theorem Inv.call {g' : Array GenState} {t' : Nat} {d' : Drawn} {ch : List Addr} (I : Inv X pins σ H s) (u : Un (frs X.stack) ch H H' s.heap h') (hok : HOk X.prog X.w H' h') (hg : AllBare g')
    (hch : ∀ b ∈ ch, (b ∈ X.ex ∨ X.s₀.heap.objs.size ≤ b) ∧ b ≠ X.env.locals ∧ (∀ x c, X.env.cells.lookup x = some c → c ≠ b) ∧ ∀ p ∈ X.pn ++ pins, p.1 ≠ b) :
    Inv X pins σ H' { s with heap := h', gens := g', drawn := d', toks := t' } := by
  obtain ⟨m, ⟨o, es, ep, ho, r⟩, _⟩ := id I.loc
  obtain ⟨sl, hL⟩ := u.any ho I.free fun z => (hch _ z).2.1 rfl
  exact I.step (ch := ch) hch (fun b o hL hb hc e n => u.keep b o e n (fun z => (List.mem_cons.mp (I.stkSub b z)).elim hL hb) hc) (fun b o _ _ hc e n => u.any e n hc) (fun b o hc e n => u.free b o e n hc) (fun b o hc e => u.there b o e hc) u.tups u.frzs u.tbls (fun m' hm => by
    obtain ⟨o', es', ep', ho', r'⟩ := hm
    rw [ho] at ho'; cases ho'
    exact ⟨_, es', ep', hL, r'⟩) hok hg
theorem Inv.turned {t' : Nat} {it : Addr} (I : Inv X pins σ H s) (k : ∀ b o, b ≠ it → s.heap.get? b = some o → h'.get? b = some o) (hn : H it = none) (hL : it ≠ X.env.locals)
    (h1 : it ∈ X.ex ∨ X.s₀.heap.objs.size ≤ it) (h2 : ∀ x c, X.env.cells.lookup x = some c → c ≠ it) (h3 : ∀ p ∈ X.pn ++ pins, p.1 ≠ it) : Inv X pins σ H { s with heap := h', toks := t' } := by
  have nit : ∀ b u, H b = some u → b ≠ it := fun b u e z => by rw [z, hn] at e; cases e
  refine I.step (g' := s.gens) (d' := s.drawn) (ch := [it]) (fun b hb => ?_) (fun b o _ _ hc e _ => k b o (fun z => hc (by simp [z])) e) (fun b o _ _ hc e _ => ⟨o.slots, k b o (fun z => hc (by simp [z])) e⟩) (fun _ _ _ _ n => n)
    (fun b o hc e => ⟨o, k b o (fun z => hc (by simp [z])) e⟩) (fun _ _ e => e) (fun _ _ _ e => e) (fun b ps e => ⟨#[], by rw [e]; simp⟩) (fun m hm => ?_) (fun b u e => ?_) I.bare
  · have e : b = it := by simpa using hb
    subst e
    exact ⟨h1, hL, h2, h3⟩
  · obtain ⟨o, es, ep, ho, r⟩ := hm
    exact ⟨o, es, ep, k _ o (Ne.symm hL) ho, r⟩
  · refine (I.hok b u e).stay (fun c v hc q => k c v ?_ q) (fun _ q => q) fun _ _ q => q
    rcases hc with z | z
    · rw [z]; exact nit b u e
    · exact nit c _ z
theorem Inv.tok (I : Inv X pins σ H s) (t : Nat) : Inv X pins σ H { s with toks := t } := I.un (h' := s.heap) (t' := t) Un.refl I.hok
theorem Inv.kept {t' : Nat} (I : Inv X pins σ H s) (k : ∀ b u, s.heap.get? b = some u → h'.get? b = some u) : Inv X pins σ H { s with heap := h', toks := t' } := I.un (Un.kept k) (I.hok.kept k)
theorem Inv.laid {a : Addr} {o : HO} {t' : Nat} (I : Inv X pins σ H s) (k : ∀ b u, s.heap.get? b = some u → h'.get? b = some u) (hp : s.heap.objs.size ≤ a) (new : ObjOk X.prog X.w (upd H a o) h' a o) :
    Inv X pins σ (upd H a o) { s with heap := h', toks := t' } := I.un (Un.laid k hp (I.hok.fresh hp)) (I.hok.laid k hp new)
theorem Inv.write {x e : Addr} {o : HO} {t' : Nat} (I : Inv X pins σ H s) (mu : Mut (H x)) (he : e = x ∨ H e = some (.own x)) (k : ∀ b u, b ≠ e → s.heap.get? b = some u → h'.get? b = some u) (heo : ∃ u, h'.get? e = some u)
    (new : ObjOk X.prog X.w (upd H x o) h' x o) : Inv X pins σ (upd H x o) { s with heap := h', toks := t' } := I.un (Un.write mu he k heo) (I.hok.write mu he k heo new)
theorem Inv.weak {σ' : List (Option V)} (I : Inv X pins σ H s) (hl : σ'.length = σ.length) (w : ∀ (i : Nat) v, σ'[i]? = some (some v) → σ[i]? = some (some v)) : Inv X pins σ' H s :=
  ⟨I.ok, I.os, I.bare, I.base, let ⟨m, hn, hl'⟩ := I.loc; ⟨m, hn, fun i x v e1 e2 e3 => hl' i x v e1 (w i v e2) e3⟩, I.cell, I.free, I.freeC, I.pin, I.hok, hl.trans I.len⟩
theorem Inv.pins_of {pins' : List (Addr × Obj)} (I : Inv X pins σ H s) (h : ∀ p ∈ pins', s.heap.get? p.1 = some p.2 ∧ H p.1 = none ∧ p.1 ≠ X.env.locals ∧ p.1 ∉ X.fs ∧ ∀ v, p.2.data ≠ .cell v) : Inv X pins' σ H s :=
  ⟨I.ok, I.os, I.bare, I.base, I.loc, I.cell, I.free, I.freeC, fun p hp => (List.mem_append.mp hp).elim (fun z => I.pin p (List.mem_append_left _ z)) (h p), I.hok, I.len⟩

theorem nodup_ix {N : List Str} (hN : N.Nodup) {i j : Nat} {x : Str} (a : N[i]? = some x) (b : N[j]? = some x) : i = j := by
  obtain ⟨h1, e1⟩ := List.getElem?_eq_some_iff.mp a
  obtain ⟨h2, e2⟩ := List.getElem?_eq_some_iff.mp b
  exact (List.getElem_inj hN).mp (e1.trans e2.symm)

theorem store_ok2 {M : Model} {A : Around} {E : Value → Shared → Prop} {i : Nat} {x : Str} {v : V} {u : Value} {Q : Unit → Shared → Prop} (I : Inv X pins σ H s) (hN : X.N.Nodup) (hi : X.N[i]? = some x) (hx : Loc X.env.scope x) (r : RelV v u)
    (h : ∀ s', Inv X pins (σ.set i (some v)) H s' → (∃ a, Heap.SameBut a s.heap s'.heap ∧ (a = X.env.locals ∨ X.env.cells.lookup x = some a)) → Q () s') (hf : X.fn x = true ∨ X.env.scope.names.lookup x = some .local := by first | exact .inl rfl | exact .inr rfl | assumption) : wpAny M A (storeName X.env x u) Q E s := by
  obtain ⟨m, hn, hl⟩ := id I.loc
  have hcls : (X.env.scope.kind == .class || (X.env.scope.kind == .module && X.env.locals != X.env.globals)) = false := by rw [I.ok.kind]; rfl
  have hiσ : i < σ.length := by rw [I.len]; exact (List.getElem?_eq_some_iff.mp hi).1
  have cne := I.cne
  have tracked : ∀ {a : Addr} {h' : Heap}, (∃ o, s.heap.get? a = some o ∧ H a = none) → Heap.SameBut a s.heap h' → HOk X.prog X.w H h' := fun {a h'} ha hs b ob e => by
    obtain ⟨_, _, hfree⟩ := ha
    refine (I.hok b ob e).stay (fun c w' hc q => (hs.2 c ?_).trans q) (fun _ q => q) fun _ _ q => q
    rintro rfl
    rcases hc with rfl | hc
    · rw [hfree] at e; cases e
    · rw [hfree] at hc; cases hc
  rcases hx with hk | hk
  · refine wpAny_storeName_local hk hn (fun h' hn' hs => ?_) hcls
    obtain ⟨oL, _, _, hoL, _⟩ := id hn
    refine h _ ⟨I.ok, I.os, I.bare, ⟨fun b o e n hb hx => ?_, fun b o e n hb hx => ?_, I.base.free, fun b o e hx => ?_, I.base.tups, I.base.frzs, I.base.tbls⟩, ⟨_, hn', fun j y v' e1 e2 e3 => ?_⟩, fun y c e => ?_, I.free, I.freeC, fun p hp => ?_, tracked ⟨oL, hoL, I.free⟩ hs, by simpa using I.len⟩ ⟨_, hs, .inl rfl⟩
    · exact (hs.2 b (Nat.ne_of_lt (Nat.lt_of_lt_of_le (Heap.lt_size e) I.ok.above))).trans (I.base.keep b o e n hb hx)
    · obtain ⟨sl, e1⟩ := I.base.slot b o e n hb hx
      exact ⟨sl, (hs.2 b (Nat.ne_of_lt (Nat.lt_of_lt_of_le (Heap.lt_size e) I.ok.above))).trans e1⟩
    · obtain ⟨o', e1⟩ := I.base.there b o e hx
      exact ⟨o', (hs.2 b (Nat.ne_of_lt (Nat.lt_of_lt_of_le (Heap.lt_size e) I.ok.above))).trans e1⟩
    · by_cases hj : j = i
      · subst hj
        rw [hi] at e1; cases e1
        rw [List.getElem?_set_self hiσ] at e2
        cases e2
        exact ⟨u, r, .inl ⟨hk, by simp⟩⟩
      · rw [List.getElem?_set_ne (Ne.symm hj)] at e2
        obtain ⟨u', r', q⟩ := hl j y v' e1 e2 e3
        refine ⟨u', r', ?_⟩
        rcases q with ⟨k, e⟩ | ⟨k, c, e, z⟩
        · refine .inl ⟨k, ?_⟩
          have : y ≠ x := fun e => hj (nodup_ix hN e1 (e ▸ hi))
          simp [this, e]
        · exact .inr ⟨k, c, e, z.sameBut hs (cne y c e)⟩
    · obtain ⟨w', z⟩ := I.cell y c e
      exact ⟨w', z.sameBut hs (cne y c e)⟩
    · obtain ⟨e, n, ne, nf, d⟩ := I.pin p hp
      exact ⟨(hs.2 p.1 ne).trans e, n, ne, nf, d⟩
  · have hfn : X.fn x = true := by
      rcases hf with z | z
      · exact z
      · rw [z] at hk; cases hk
    obtain ⟨c, hc⟩ := I.ok.has x (.inl hk)
    obtain ⟨w', z⟩ := I.cell x c hc
    refine wpAny_storeName_cell I.ok.kind hk hc z (fun h' hc' hs => ?_)
    obtain ⟨oc, hoc, hocd⟩ := id z
    refine h { s with heap := h' } ⟨I.ok, I.os, I.bare, ⟨fun b o e n hb hx => ?_, fun b o e n hb hx => ?_, I.base.free, fun b o e hx => ?_, I.base.tups, I.base.frzs, I.base.tbls⟩, ⟨m, hn.sameBut hs (Ne.symm (cne x c hc)), fun j y v' e1 e2 e3 => ?_⟩, fun y c' e => ?_, I.free, I.freeC, fun p hp => ?_, tracked ⟨oc, hoc, I.freeC x c hc⟩ hs, by simpa using I.len⟩ ⟨c, hs, .inr hc⟩
    · exact (hs.2 b (Nat.ne_of_lt (Nat.lt_of_lt_of_le (Heap.lt_size e) (I.ok.cab x c hfn hc)))).trans (I.base.keep b o e n hb hx)
    · obtain ⟨sl, e1⟩ := I.base.slot b o e n hb hx
      exact ⟨sl, (hs.2 b (Nat.ne_of_lt (Nat.lt_of_lt_of_le (Heap.lt_size e) (I.ok.cab x c hfn hc)))).trans e1⟩
    · obtain ⟨o', e1⟩ := I.base.there b o e hx
      exact ⟨o', (hs.2 b (Nat.ne_of_lt (Nat.lt_of_lt_of_le (Heap.lt_size e) (I.ok.cab x c hfn hc)))).trans e1⟩
    · by_cases hj : j = i
      · subst hj
        rw [hi] at e1; cases e1
        rw [List.getElem?_set_self hiσ] at e2
        cases e2
        exact ⟨u, r, .inr ⟨.inl hk, c, hc, hc'⟩⟩
      · rw [List.getElem?_set_ne (Ne.symm hj)] at e2
        obtain ⟨u', r', q⟩ := hl j y v' e1 e2 e3
        refine ⟨u', r', ?_⟩
        rcases q with q | ⟨k, c', e, z'⟩
        · exact .inl q
        · refine .inr ⟨k, c', e, z'.sameBut hs ?_⟩
          rintro rfl
          exact hj (nodup_ix hN e1 (I.ok.inj _ _ _ e hc ▸ hi))
    · by_cases hcc : c' = c
      · subst hcc; exact ⟨_, hc'⟩
      · obtain ⟨w2, z2⟩ := I.cell y c' e
        exact ⟨w2, z2.sameBut hs hcc⟩
    · obtain ⟨e, n, ne, nf, d⟩ := I.pin p hp
      refine ⟨(hs.2 p.1 ?_).trans e, n, ne, nf, d⟩
      intro q
      rw [q, hoc] at e
      have q' : oc = p.2 := Option.some.inj e
      exact d w' (by rw [← q']; exact hocd)
theorem store_ok {M : Model} {A : Around} {E : Value → Shared → Prop} {i : Nat} {x : Str} {v : V} {u : Value} {Q : Unit → Shared → Prop} (I : Inv X pins σ H s) (hN : X.N.Nodup) (hi : X.N[i]? = some x) (hx : Loc X.env.scope x) (r : RelV v u)
    (h : ∀ s', Inv X pins (σ.set i (some v)) H s' → Q () s') (hf : X.fn x = true ∨ X.env.scope.names.lookup x = some .local := by first | exact .inl rfl | exact .inr rfl | assumption) : wpAny M A (storeName X.env x u) Q E s :=
  store_ok2 I hN hi hx r (fun s' I' _ => h s' I') hf
theorem Inv.call' {s' : Shared} {ch : List Addr} (I : Inv X pins σ H s) (ho : s'.os = s.os) (u : Un (frs X.stack) ch H H' s.heap s'.heap) (hok : HOk X.prog X.w H' s'.heap) (hg : AllBare s'.gens)
    (hch : ∀ b ∈ ch, (b ∈ X.ex ∨ X.s₀.heap.objs.size ≤ b) ∧ b ≠ X.env.locals ∧ (∀ x c, X.env.cells.lookup x = some c → c ≠ b) ∧ ∀ p ∈ X.pn ++ pins, p.1 ≠ b) : Inv X pins σ H' s' := by
  obtain ⟨h', g', d', t', o'⟩ := s'
  have e : o' = s.os := ho
  subst e
  exact I.call (g' := g') (t' := t') (d' := d') u hok hg hch
end

abbrev XK := Value → Option Addr → Hp → Prop
abbrev St := List (Option V)
abbrev VK := V → Hp → Prop
abbrev TE := St → Hp → VK → Prop
abbrev TT := St → Hp → (Bool → Hp → Prop) → Prop
abbrev TA := St → Hp → (List V → Hp → Prop) → Prop
structure Ends where
  nx : St → Hp → Prop
  rt : VK
  bk : St → Hp → Prop := fun _ _ => False
  ct : St → Hp → Prop := fun _ _ => False
abbrev TS := Ends → St → Hp → Prop

def EP (X : Cx) (pins : List (Addr × Obj)) (σ : St) (Q : VK) (u : Value) (s' : Shared) : Prop := ∃ v H', Inv X pins σ H' s' ∧ RelV v u ∧ Q v H'
def TP (X : Cx) (pins : List (Addr × Obj)) (σ : St) (Q : Bool → Hp → Prop) (b : Bool) (s' : Shared) : Prop := ∃ H', Inv X pins σ H' s' ∧ Q b H'
def AP (X : Cx) (pins : List (Addr × Obj)) (σ : St) (Q : List V → Hp → Prop) (us : List Value) (s' : Shared) : Prop := ∃ vs H', Inv X pins σ H' s' ∧ Vals vs us ∧ Q vs H'
def SP (X : Cx) (pins : List (Addr × Obj)) (D : Ends) (f : Flow) (s' : Shared) : Prop :=
  match f with
  | .next => ∃ σ' H', Inv X pins σ' H' s' ∧ D.nx σ' H'
  | .brk => ∃ σ' H', Inv X pins σ' H' s' ∧ D.bk σ' H'
  | .cont => ∃ σ' H', Inv X pins σ' H' s' ∧ D.ct σ' H'
  | .ret u => ∃ v σ' H', Inv X pins σ' H' s' ∧ RelV v u ∧ D.rt v H'

def PE (X : Cx) (e : Expr) (t : TE) : Prop :=
  ∀ (pins : List (Addr × Obj)) (s : Shared) (σ : St) (H : Hp) (Q : VK), Inv X pins σ H s → t σ H Q → wpAny (model X.prog X.w) X.A (eval e X.env) (EP X pins σ Q) X.xe s
def PT (X : Cx) (e : Expr) (t : TT) : Prop :=
  ∀ (pins : List (Addr × Obj)) (s : Shared) (σ : St) (H : Hp) (Q : Bool → Hp → Prop), Inv X pins σ H s → t σ H Q → wpAny (model X.prog X.w) X.A (isTrue e X.env (eval e X.env)) (TP X pins σ Q) X.xe s
def PW (X : Cx) (e : Expr) (t : TT) : Prop :=
  ∀ (whole : Sem Value) (pins : List (Addr × Obj)) (s : Shared) (σ : St) (H : Hp) (Q : Bool → Hp → Prop), Inv X pins σ H s → t σ H Q → wpAny (model X.prog X.w) X.A (isTrue e X.env whole) (TP X pins σ Q) X.xe s
theorem PW.pt {X : Cx} {e : Expr} {t : TT} (h : PW X e t) : PT X e t := h _
def PA (X : Cx) (es : List Expr) (t : TA) : Prop :=
  ∀ (pos : Pos) (pins : List (Addr × Obj)) (s : Shared) (σ : St) (H : Hp) (Q : List V → Hp → Prop), Inv X pins σ H s → t σ H Q → wpAny (model X.prog X.w) X.A (spliced (backTo pos (starEach es X.env))) (AP X pins σ Q) X.xe s
def PS (X : Cx) (st : Stmt) (t : TS) : Prop :=
  ∀ (pins : List (Addr × Obj)) (s : Shared) (σ : St) (H : Hp) (D : Ends), Inv X pins σ H s → t D σ H → wpAny (model X.prog X.w) X.A (exec st X.env) (SP X pins D) X.xe s
def PSs (X : Cx) (st : List Stmt) (t : TS) : Prop :=
  ∀ (pins : List (Addr × Obj)) (s : Shared) (σ : St) (H : Hp) (D : Ends), Inv X pins σ H s → t D σ H → wpAny (model X.prog X.w) X.A (execs st X.env) (SP X pins D) X.xe s
theorem thn {α : Type} {t : Sem α} {Q Q' : α → Shared → Prop} {M : Model} {A : Around} {E : Value → Shared → Prop} {s : Shared} (h : wpAny M A t Q E s) (hQ : ∀ a s, Q a s → Q' a s) : wpAny M A t Q' E s := wpAny_mono h hQ fun _ _ x => x
end L2

namespace L2
open PySem PySem.Spec PyProof.Rows
section
variable {X : Cx}

def tVar (i : Nat) : TE := fun σ H Q => ∃ v, σ[i]? = some (some v) ∧ Q v H
def tC (v : V) : TE := fun _ H Q => Q v H
theorem pe_var {i : Nat} {x : Str} {pos : Pos} (hN : X.N[i]? = some x) (hv : Vis X.env.scope x) (hd : (x == ("__debug__" : Str)) = false := by decide) (hcd : (x == ("__classdict__" : Str)) = false := by decide) : PE X (.Name x pos) (tVar i) := by
  intro pins s σ H Q I h
  obtain ⟨v, e, h⟩ := h
  obtain ⟨m, hn, hl⟩ := I.loc
  obtain ⟨u, r, l⟩ := hl i x v hN e hv
  have fin : EP X pins σ Q u s := ⟨v, H, I, r, h⟩
  rcases l with ⟨hk, hm⟩ | ⟨hk, c, hc, hcell⟩
  · exact wpAny_Name (wpAny_loadName_local I.ok.kind hk hn hm fin) hd
  · rcases hk with hk | hk
    · exact wpAny_Name (wpAny_loadName_cell I.ok.kind hk hc hcell fin) hd
    · exact wpAny_Name (wpAny_loadName_free I.ok.kind hk hc hcell fin hcd) hd
theorem pe_int {i j pos} : PE X (.Constant (.int i) j pos) (tC (.int i)) := fun _ _ _ H _ I h => wpAny_Constant_int ⟨.int i, H, I.tok _, ⟨_, rfl⟩, h⟩
theorem pe_bl {b j pos} : PE X (.Constant (.bool b) j pos) (tC (.bl b)) := fun _ _ _ H _ I h => Constant_bool ⟨.bl b, H, I, rfl, h⟩
theorem pe_non {j pos} : PE X (.Constant .none j pos) (tC .non) := fun _ _ _ H _ I h => Constant_none ⟨.non, H, I, rfl, h⟩
theorem pe_str {x j pos} : PE X (.Constant (.str x) j pos) (tC (.str x)) := fun _ _ _ H _ I h => Calls.Constant_str ⟨.str x, H, I.tok _, ⟨_, rfl⟩, h⟩

def Gl (X : Cx) (x : Str) : Prop := X.env.kindOf x = some .globalImplicit
theorem ld_glob {E : Value → Shared → Prop} {pins : List (Addr × Obj)} {s : Shared} {σ : St} {H : Hp} {x : Str} {u : Value} {pos : Pos} {Q : Value → Shared → Prop} (I : Inv X pins σ H s) (hg : Gl X x) (hm : X.mg x = some u) (h : Q u s)
    (hd : (x == ("__debug__" : Str)) = false := by decide) : wpAny (model X.prog X.w) X.A (eval (.Name x pos) X.env) Q E s :=
  Calls.Name_function_global I.ok.kind hg (Calls.loadGlobal_global (by rw [I.ok.glob]; exact I.mod.glob.keeps I.bk) hm h) hd
theorem ld_blt {E : Value → Shared → Prop} {pins : List (Addr × Obj)} {s : Shared} {σ : St} {H : Hp} {x : Str} {u : Value} {pos : Pos} {Q : Value → Shared → Prop} (I : Inv X pins σ H s) (hg : Gl X x) (hm : X.mg x = none) (hv : bootBuiltins x = some u) (h : Q u s)
    (hn : x ≠ "__name__" := by decide) (hd : (x == ("__debug__" : Str)) = false := by decide) : wpAny (model X.prog X.w) X.A (eval (.Name x pos) X.env) Q E s := by
  obtain ⟨mb, h1, h2⟩ := I.mod.blt
  exact Calls.Name_function_global I.ok.kind hg (Calls.loadGlobal_builtin (by rw [I.ok.glob]; exact I.mod.glob.keeps I.bk) hm (by rw [I.ok.blt]; exact h1.keeps I.bk) ((h2 x hn).trans hv) h) hd
theorem pe_glob {x : Str} {v : V} {u : Value} {pos : Pos} (hg : Gl X x) (hm : X.mg x = some u) (r : RelV v u) (hd : (x == ("__debug__" : Str)) = false := by decide) : PE X (.Name x pos) (tC v) :=
  fun _ _ _ H _ I h => ld_glob I hg hm ⟨v, H, I, r, h⟩ hd
theorem pe_bltn {x : Str} {v : V} {u : Value} {pos : Pos} (hg : Gl X x) (hm : X.mg x = none) (hv : bootBuiltins x = some u) (r : RelV v u) (hn : x ≠ "__name__" := by decide) (hd : (x == ("__debug__" : Str)) = false := by decide) : PE X (.Name x pos) (tC v) :=
  fun _ _ _ H _ I h => ld_blt I hg hm hv ⟨v, H, I, r, h⟩ hn hd

variable {a b : Expr} {ta tb : TE} {pos : Pos}
def PC (X : Cx) (op : CmpOp) (a b : Expr) (t : TE) : Prop :=
  ∀ (pins : List (Addr × Obj)) (s : Shared) (σ : St) (H : Hp) (Q : VK), Inv X pins σ H s → t σ H Q →
    wpAny (model X.prog X.w) X.A (eval a X.env) (fun v s₁ => wpAny (model X.prog X.w) X.A (eval b X.env) (fun u s₂ => wpAny (model X.prog X.w) X.A (compareOp op v u) (EP X pins σ Q) X.xe s₂) X.xe s₁) X.xe s
def tB (t : TE) : TT := fun σ H Q => t σ H fun x H1 => ∃ c, x = .bl c ∧ Q c H1
theorem pt_cmp {op : CmpOp} {t : TE} (h : PC X op a b t) (h1 : behindInMarks op b = false := by first | exact nobehind _ (by decide) (by decide) | rfl) : PT X (.Compare a [op] [b] pos) (tB t) := by
  intro pins s σ H Q I hw
  refine wpAny_isTrue_Compare1 (thn (h pins s σ H _ I hw) fun v s1 h1 => thn h1 fun u s2 h2 => thn h2 fun c s3 ⟨x, H1, I1, r1, q1⟩ => ?_) h1
  obtain ⟨d, rfl, q⟩ := q1
  cases r1
  exact wpAny_truthy_bool ⟨H1, I1, q⟩
theorem pt_val {e : Expr} {t : TE} (h : PE X e t) (he : ∀ whole, isTrue e X.env whole = (do let v ← whole; standAt e.pos; holding [v] (truthy v)) := by intro _; rfl) : PT X e (tB t) := by
  intro pins s σ H Q I hw
  refine isTrue_plain (thn (h pins s σ H _ I hw) fun v s1 ⟨x, H1, I1, r1, q1⟩ => ?_) (he _)
  obtain ⟨d, rfl, q⟩ := q1
  cases r1
  exact wpAny_truthy_bool ⟨H1, I1, q⟩

variable {tA tB' : TT} {rest : List Expr}
def tAnd (t u : TT) : TT := fun σ H Q => t σ H fun c H1 => if c = true then u σ H1 Q else Q false H1
def tOr (t u : TT) : TT := fun σ H Q => t σ H fun c H1 => if c = true then Q true H1 else u σ H1 Q
def tNot (t : TT) : TT := fun σ H Q => t σ H fun c H1 => Q (!c) H1
theorem pw_and1 (ha : PT X a tA) : PW X (.BoolOp .And [a] pos) tA := by
  intro wh pins s σ H Q I h
  refine isTrue_and (thn (ha pins s σ H Q I h) fun c s1 e => ?_)
  cases c with
  | true => exact isTrue_and_nil e
  | false => exact e
theorem pw_or1 (ha : PT X a tA) : PW X (.BoolOp .Or [a] pos) tA := by
  intro wh pins s σ H Q I h
  refine isTrue_or (thn (ha pins s σ H Q I h) fun c s1 e => ?_)
  cases c with
  | false => exact isTrue_or_nil e
  | true => exact e
theorem pw_and (ha : PT X a tA) (hb : PW X (.BoolOp .And (b :: rest) pos) tB') : PW X (.BoolOp .And (a :: b :: rest) pos) (tAnd tA tB') := by
  intro wh pins s σ H Q I h
  refine isTrue_and (thn (ha pins s σ H _ I h) fun c s1 ⟨H1, I1, q1⟩ => ?_)
  cases c with
  | true => exact hb wh pins s1 σ H1 Q I1 q1
  | false => exact ⟨H1, I1, q1⟩
theorem pw_or (ha : PT X a tA) (hb : PW X (.BoolOp .Or (b :: rest) pos) tB') : PW X (.BoolOp .Or (a :: b :: rest) pos) (tOr tA tB') := by
  intro wh pins s σ H Q I h
  refine isTrue_or (thn (ha pins s σ H _ I h) fun c s1 ⟨H1, I1, q1⟩ => ?_)
  cases c with
  | true => exact ⟨H1, I1, q1⟩
  | false => exact hb wh pins s1 σ H1 Q I1 q1
theorem pt_not (ha : PT X a tA) : PT X (.UnaryOp .Not a pos) (tNot tA) := by
  intro pins s σ H Q I h
  exact isTrue_not (ha pins s σ H (fun c H1 => Q (!c) H1) I h)
def tAndV (ta tb : TE) : TE := fun σ H Q => ta σ H fun x H1 => ∃ c, x = .bl c ∧ if c = true then tb σ H1 Q else Q (.bl false) H1
def tNotV (ta : TE) : TE := fun σ H Q => ta σ H fun x H1 => ∃ c, x = .bl c ∧ Q (.bl (!c)) H1
theorem pe_one {op} {t : TE} (h : PE X a t) : PE X (.BoolOp op [a] pos) t := fun pins s σ H Q I hw => BoolOp_one (h pins s σ H Q I hw)
theorem pe_and (ha : PE X a ta) (hb : PE X (.BoolOp .And (b :: rest) pos) tb) : PE X (.BoolOp .And (a :: b :: rest) pos) (tAndV ta tb) := by
  intro pins s σ H Q I h
  refine BoolOp_and (thn (ha pins s σ H _ I h) fun v s1 ⟨x, H1, I1, r1, q1⟩ => ?_)
  obtain ⟨c, rfl, q1⟩ := q1
  cases r1
  refine wpAny_truthy_bool ?_
  cases c with
  | true => exact hb pins s1 σ H1 Q I1 q1
  | false => exact ⟨.bl false, H1, I1, rfl, q1⟩
theorem pe_not (ha : PE X a ta) : PE X (.UnaryOp .Not a pos) (tNotV ta) := by
  intro pins s σ H Q I h
  refine UnaryOp_ (thn (ha pins s σ H _ I h) fun v s1 ⟨x, H1, I1, r1, q1⟩ => ?_)
  obtain ⟨c, rfl, q1⟩ := q1
  cases r1
  exact not_of (wpAny_truthy_bool ⟨.bl (!c), H1, I1, rfl, q1⟩)
end
end L2

namespace L2
open PySem PySem.Spec PyProof.Rows

def SqL (K : PySem.W.Frag) (H : Hp) (a : Addr) (xs : List V) : Prop :=
  Rd H a (.lst xs) ∨
    ∃ (o : Obj) (its : Array Value) (n : Nat), K.lookup a = some o ∧ o.cls = .type "list" ∧ o.dict = none ∧ o.data = .seq its n ∧ its.size ≤ sizeLine ∧ Vals xs its.toList
def SqT (K : PySem.W.Frag) (H : Hp) (a : Addr) (xs : List V) : Prop :=
  Rd H a (.tup xs) ∨
    ∃ (o : Obj) (its : Array Value) (n : Nat), K.lookup a = some o ∧ o.cls = .type "tuple" ∧ o.data = .seq its n ∧ its.size ≤ sizeLine ∧ Vals xs its.toList
def absV : Value → Option V
  | .none => some .non
  | .bool b => some (.bl b)
  | .int i _ => some (.int i)
  | .str x _ => some (.str x)
  | .bytes b _ => some (.byt b)
  | .float b _ => some (.flt b)
  | .ref a => some (.ref a)
  | .type n => some (.ty n)
  | _ => none
theorem RelV.abs {x : V} {u : Value} (r : RelV x u) : absV u = some x := by
  cases x with
  | non => cases r; rfl
  | bl _ => cases r; rfl
  | int _ => obtain ⟨t, rfl⟩ := r; rfl
  | str _ => obtain ⟨t, rfl⟩ := r; rfl
  | byt _ => obtain ⟨t, rfl⟩ := r; rfl
  | flt _ => obtain ⟨t, rfl⟩ := r; rfl
  | ref _ => cases r; rfl
  | ty _ => cases r; rfl
theorem RelV.inj {x y : V} {u : Value} (r : RelV x u) (q : RelV y u) : x = y := Option.some.inj (r.abs.symm.trans q.abs)
theorem Vals.inj : ∀ {xs ys : List V} {us : List Value}, Vals xs us → Vals ys us → xs = ys
  | _, _, _, .nil, .nil => rfl
  | _, _, _, .cons r t, .cons r' t' => by rw [r.inj r', Vals.inj t t']
section
variable {X : Cx} {pins : List (Addr × Obj)} {σ : St} {H : Hp} {s : Shared} {a : Addr} {xs ys : List V}
theorem SqL.of {K : PySem.W.Frag} (h : H a = some (.lst xs)) : SqL K H a xs := .inl (.inl h)
theorem SqT.of {K : PySem.W.Frag} (h : H a = some (.tup xs)) : SqT K H a xs := .inl (.inl h)
theorem Inv.list (I : Inv X pins σ H s) (h : SqL X.K H a xs) : ∃ its : List Value, Vals xs its ∧ PlainL s.heap a its.toArray ∧ xs.length ≤ sizeLine := by
  rcases h with h | ⟨o, its, n, hk, hc, hd, hs, hz, r⟩
  · obtain ⟨z, its, n, r, e⟩ := h.ok I.hok
    exact ⟨its, r, ⟨_, n, e, rfl, rfl, rfl⟩, z⟩
  · refine ⟨its.toList, r, ⟨o, n, I.kIn a o hk, hc, hd, by simpa using hs⟩, ?_⟩
    have e := r.length
    simp only [Array.length_toList] at e
    (first | lia | omega)
theorem Inv.tuple (I : Inv X pins σ H s) (h : SqT X.K H a xs) : ∃ its : List Value, Vals xs its ∧ IsTup s.heap a its.toArray ∧ xs.length ≤ sizeLine := by
  rcases h with h | ⟨o, its, n, hk, hc, hs, hz, r⟩
  · obtain ⟨z, its, r, p⟩ := h.ok I.hok
    exact ⟨its, r, p, z⟩
  · refine ⟨its.toList, r, ⟨o, I.kIn a o hk, hc, n, by simpa using hs⟩, ?_⟩
    have e := r.length
    simp only [Array.length_toList] at e
    (first | lia | omega)
theorem Inv.list_inj (I : Inv X pins σ H s) (h : SqL X.K H a xs) (h' : SqL X.K H a ys) : xs = ys := by
  obtain ⟨its, r, ⟨o, n, e, _, _, d⟩, _⟩ := I.list h
  obtain ⟨its', r', ⟨o', n', e', _, _, d'⟩, _⟩ := I.list h'
  rw [e] at e'; cases e'
  rw [d] at d'
  injection d' with d1 _
  have : its = its' := by simpa using congrArg Array.toList d1
  subst this
  exact r.inj r'
theorem Inv.tuple_inj (I : Inv X pins σ H s) (h : SqT X.K H a xs) (h' : SqT X.K H a ys) : xs = ys := by
  obtain ⟨its, r, ⟨o, e, _, n, d⟩, _⟩ := I.tuple h
  obtain ⟨its', r', ⟨o', e', _, n', d'⟩, _⟩ := I.tuple h'
  rw [e] at e'; cases e'
  rw [d] at d'
  injection d' with d1 _
  have : its = its' := by simpa using congrArg Array.toList d1
  subst this
  exact r.inj r'
end

abbrev Cx.wish (X : Cx) (E : Value → Shared → Prop) : Cx := { X with xe := E }
abbrev Cx.nox (X : Cx) : Cx := X.wish fun _ _ => False
theorem Cx.Ok.wish {X : Cx} (ok : X.Ok) (E : Value → Shared → Prop) : (X.wish E).Ok :=
  ⟨ok.mod, ok.kind, ok.glob, ok.blt, ok.above, ok.inj, ok.has, ok.cab, ok.hd, ok.frames, ok.stk, ok.exf, ok.bs, ok.bsz, ok.noex, ok.exfs, ok.funs, ok.frf⟩
theorem Cx.Ok.unwish {X : Cx} {E : Value → Shared → Prop} (ok : (X.wish E).Ok) : X.Ok :=
  ⟨ok.mod, ok.kind, ok.glob, ok.blt, ok.above, ok.inj, ok.has, ok.cab, ok.hd, ok.frames, ok.stk, ok.exf, ok.bs, ok.bsz, ok.noex, ok.exfs, ok.funs, ok.frf⟩
section
variable {X : Cx} {pins : List (Addr × Obj)} {σ : St} {H : Hp} {s : Shared} {E : Value → Shared → Prop}
theorem Inv.wish (I : Inv X pins σ H s) (E : Value → Shared → Prop) : Inv (X.wish E) pins σ H s := ⟨I.ok.wish E, I.os, I.bare, I.base, I.loc, I.cell, I.free, I.freeC, I.pin, I.hok, I.len⟩
theorem Inv.unwish (I : Inv (X.wish E) pins σ H s) : Inv X pins σ H s := ⟨I.ok.unwish, I.os, I.bare, I.base, I.loc, I.cell, I.free, I.freeC, I.pin, I.hok, I.len⟩
theorem SP.unwish {D : Ends} {f : Flow} {s' : Shared} (h : SP (X.wish E) pins D f s') : SP X pins D f s' := by
  cases f with
  | next => obtain ⟨σ', H', I, q⟩ := h; exact ⟨σ', H', I.unwish, q⟩
  | brk => obtain ⟨σ', H', I, q⟩ := h; exact ⟨σ', H', I.unwish, q⟩
  | cont => obtain ⟨σ', H', I, q⟩ := h; exact ⟨σ', H', I.unwish, q⟩
  | ret u => obtain ⟨v, σ', H', I, r, q⟩ := h; exact ⟨v, σ', H', I.unwish, r, q⟩
theorem PSs.nox {st : List Stmt} {t : TS} (h : PSs X.nox st t) : PSs X st t := fun pins s σ H D I hw =>
  wpAny_mono (h pins s σ H D (I.wish _) hw) (fun _ _ q => q.unwish) fun _ _ z => False.elim z
end

section
variable {X : Cx} {st : Stmt} {rest : List Stmt} {t u : TS} {e : Expr} {te : TE} {pos : Pos}
def tNext : TS := fun D σ H => D.nx σ H
def Ends.on (D : Ends) (u : TS) : Ends := { D with nx := u D }
def tSeq (t u : TS) : TS := fun D σ H => t (D.on u) σ H
theorem pss_nil : PSs X [] tNext := fun _ _ σ H _ I h => wpAny_execs_nil ⟨σ, H, I, h⟩
theorem pss_cons (h1 : PS X st t) (h2 : PSs X rest u) : PSs X (st :: rest) (tSeq t u) := by
  intro pins s σ H D I h
  refine wpAny_execs_cons (thn (h1 pins s σ H { D with nx := u D } I h) fun f s1 q => ?_)
  cases f with
  | next =>
    obtain ⟨σ', H', I', q⟩ := q
    exact h2 pins s1 σ' H' D I' q
  | ret v => exact q
  | brk => exact q
  | cont => exact q
theorem pss_one (h1 : PS X st t) : PSs X [st] t := by
  intro pins s σ H D I h
  refine wpAny_execs_cons (thn (h1 pins s σ H D I h) fun f s1 q => ?_)
  cases f with
  | next => exact wpAny_execs_nil q
  | ret v => exact q
  | brk => exact q
  | cont => exact q
theorem Inv.quiet {pins : List (Addr × Obj)} {σ : St} {H : Hp} {s : Shared} (I : Inv X pins σ H s) : interactive X.env = false := by simp [interactive, I.ok.kind]
def tDrop (te : TE) : TS := fun D σ H => te σ H fun _ H1 => D.nx σ H1
theorem ps_expr (he : PE X e te) (hs : swapsWith e none pos.line X.env = pure false := by rfl) : PS X (.Expr e pos) (tDrop te) := by
  intro pins s σ H D I h
  exact wpAny_Expr_any (thn (he pins s σ H _ I h) fun v s1 ⟨x, H1, I1, r1, q1⟩ => ⟨σ, H1, I1, q1⟩) I.quiet hs
def tRet (te : TE) : TS := fun D σ H => te σ H D.rt
theorem ps_ret (he : PE X e te) : PS X (.Return (some e) pos) (tRet te) := by
  intro pins s σ H D I h
  exact wpAny_Return_some (thn (he pins s σ H _ I h) fun v s1 ⟨x, H1, I1, r1, q1⟩ => ⟨x, σ, H1, I1, r1, q1⟩)
def tIfS (c : TT) (t u : TS) : TS := fun D σ H => c σ H fun b H1 => if b = true then t D σ H1 else u D σ H1
theorem ps_if {c : Expr} {a b : List Stmt} {tc : TT} (hc : PT X c tc) (ha : PSs X a t) (hb : PSs X b u) : PS X (.If c a b pos) (tIfS tc t u) := by
  intro pins s σ H D I h
  refine wpAny_If (thn (hc pins s σ H _ I h) fun d s1 ⟨H1, I1, q1⟩ => ?_)
  cases d with
  | true => exact ha pins s1 σ H1 D I1 q1
  | false => exact hb pins s1 σ H1 D I1 q1
end

abbrev TG := V → St → Hp → (St → Hp → Prop) → Prop
def PG (X : Cx) (target : Expr) (t : TG) : Prop :=
  ∀ (pins : List (Addr × Obj)) (s : Shared) (σ : St) (H : Hp) (v : V) (u : Value) (Q : St → Hp → Prop), Inv X pins σ H s → RelV v u → t v σ H Q →
    wpAny (model X.prog X.w) X.A (assign target X.env u) (fun _ s' => ∃ σ' H', Inv X pins σ' H' s' ∧ Q σ' H') X.xe s
section
variable {X : Cx} {pos : Pos}
def gName (i : Nat) : TG := fun v σ H Q => Q (σ.set i (some v)) H
theorem pg_name {i : Nat} {x : Str} (hN : X.N.Nodup) (hi : X.N[i]? = some x) (hx : Loc X.env.scope x) (hf : X.fn x = true ∨ X.env.scope.names.lookup x = some .local := by first | exact .inl rfl | exact .inr rfl | assumption) : PG X (.Name x pos) (gName i) := by
  intro pins s σ H v u Q I r h
  exact wpAny_assign_Name (store_ok I hN hi hx r (fun s' I' => ⟨_, H, I', h⟩) hf)
def tAsg (te : TE) (g : TG) : TS := fun D σ H => te σ H fun x H1 => g x σ H1 D.nx
theorem ps_set {i : Nat} {x : Str} {e : Expr} {te : TE} {pos' : Pos} (hN : X.N.Nodup) (hi : X.N[i]? = some x) (hx : Loc X.env.scope x) (he : PE X e te) (hs : swapsWith e (some (.Name x pos')) pos.line X.env = pure false := by rfl) (hf : X.fn x = true ∨ X.env.scope.names.lookup x = some .local := by first | exact .inl rfl | exact .inr rfl | assumption) :
    PS X (.Assign [.Name x pos'] e pos) (tAsg te (gName i)) := by
  intro pins s σ H D I h
  refine wpAny_Assign_Name (thn (he pins s σ H _ I h) fun v s1 ⟨y, H1, I1, r1, q1⟩ => ?_) hs
  exact store_ok I1 hN hi hx r1 (fun s2 I2 => ⟨_, H1, I2, q1⟩) hf
end

section
variable {X : Cx} {pos : Pos}
end

structure It where
  go : Nat → Hp → Prop
  yld : Nat → Hp → V → Hp → Prop
  stop : Nat → Hp → Prop
def FpOk (X : Cx) (pins : List (Addr × Obj)) (H : Hp) (b : Addr) : Prop :=
  H b = none ∧ b ≠ X.env.locals ∧ b ∉ X.fs ∧ (b ∈ X.ex ∨ X.s₀.heap.objs.size ≤ b) ∧ (∀ x c, X.env.cells.lookup x = some c → c ≠ b) ∧ ∀ p ∈ X.pn ++ pins, p.1 ≠ b
theorem Inv.fpOk {X : Cx} {pins : List (Addr × Obj)} {σ : St} {H H' : Hp} {s : Shared} {b : Addr} (I : Inv X pins σ H s) (hb : s.heap.objs.size ≤ b) (hn : H' b = none) : FpOk X pins H' b := by
  refine ⟨hn, Nat.ne_of_gt (Nat.lt_of_lt_of_le I.lt hb), I.nofs hb, .inr (Nat.le_trans I.sz hb), fun x c e z => ?_, fun p hp z => ?_⟩
  · obtain ⟨v, q⟩ := I.cell x c e
    exact absurd (Nat.lt_of_lt_of_le q.lt (by rw [z]; exact hb)) (Nat.lt_irrefl _)
  · exact absurd (Nat.lt_of_lt_of_le (Heap.lt_size (I.pin p hp).1) (by rw [z]; exact hb)) (Nat.lt_irrefl _)
structure Turn (P : Program) (w : World) (K : PySem.W.Frag) (tg : Expr) (J : It) (fp : List Addr) (it : Addr) (tn : Nat → Heap → Prop) : Prop where
  mem : it ∈ fp
  obj : ∀ i h, tn i h → ∀ b ∈ fp, ∃ o, h.get? b = some o ∧ ∀ v, o.data ≠ .cell v
  keep : ∀ i h h', tn i h → (∀ b ∈ fp, ∀ o, h.get? b = some o → h'.get? b = some o) → tn i h'
  item : ∀ (X : Cx), X.prog = P → X.w = w → X.K = K → X.calm = true → ∀ (i : Nat) (pins : List (Addr × Obj)) (s : Shared) (σ : St) (H : Hp) (E : Value → Shared → Prop), Inv X pins σ H s → (∀ b ∈ fp, FpOk X pins H b) → tn i s.heap → J.go i H →
    wpAny (model P w) X.A (pyNext (.ref it)) (fun r s1 => ∃ u, r = some u ∧
      wpAny (model P w) X.A (letOwnedTupleGo tg (.ref it) u) (fun _ s2 => ∃ x H', Inv X pins σ H' s2 ∧ RelV x u ∧ J.yld i H x H' ∧ tn (i + 1) s2.heap ∧ ∀ b ∈ fp, H' b = none) E s1) E s
  done : ∀ (X : Cx), X.prog = P → X.w = w → X.K = K → X.calm = true → ∀ (i : Nat) (pins : List (Addr × Obj)) (s : Shared) (σ : St) (H : Hp) (E : Value → Shared → Prop), Inv X pins σ H s → (∀ b ∈ fp, FpOk X pins H b) → tn i s.heap → J.stop i H →
    wpAny (model P w) X.A (pyNext (.ref it)) (fun r s1 => r = none ∧ Inv X pins σ H s1) E s
  self : ∀ (A : Around) (i : Nat) (s : Shared) (Q : Value → Shared → Prop) (E : Value → Shared → Prop), tn i s.heap → Q (.ref it) s → wpAny (model P w) A (pyIter (.ref it)) Q E s
abbrev TI := St → Hp → (It → Hp → Prop) → Prop
def PIE (X : Cx) (pins : List (Addr × Obj)) (σ : St) (tg : Expr) (R : It → Hp → Prop) (itv : Value) (s2 : Shared) : Prop :=
  ∃ (it : Addr) (fp : List Addr) (tn : Nat → Heap → Prop) (J : It) (H' : Hp), itv = .ref it ∧ Inv X pins σ H' s2 ∧ Turn X.prog X.w X.K tg J fp it tn ∧ tn 0 s2.heap ∧ (∀ b ∈ fp, FpOk X pins H' b) ∧ R J H'
def PI (X : Cx) (tg iter : Expr) (wi : TI) : Prop :=
  ∀ (pins : List (Addr × Obj)) (s : Shared) (σ : St) (H : Hp) (R : It → Hp → Prop), Inv X pins σ H s → wi σ H R →
    wpAny (model X.prog X.w) X.A (eval iter X.env) (fun v s1 => wpAny (model X.prog X.w) X.A (pyIter v) (PIE X pins σ tg R) X.xe s1) X.xe s

theorem go_of {M : Model} {A : Around} {E : Value → Shared → Prop} {s : Shared} {tg : Expr} {it : Addr} {u : Value} {o : Obj} {n : String} {vs : Array Value} {Q : Unit → Shared → Prop} (ho : s.heap.get? it = some o) (hc : o.cls = .type n) (hd : o.data = .fields vs)
    (hn : ["enumerate", "zip", "dict_itemiterator", "dict_reverseitemiterator", "odict_iterator", "itertools.zip_longest", "itertools.pairwise"].contains n = false) (hQ : Q () s) : wpAny M A (letOwnedTupleGo tg (.ref it) u) Q E s := by
  unfold letOwnedTupleGo
  cases tg <;> first
    | exact wpAny_pure hQ
    | (cases u <;> first
        | exact wpAny_pure hQ
        | (refine wpAny_bind (wpAny_load ho ?_)
           rw [hc, hd]
           show wpAny M A (if (["enumerate", "zip", "dict_itemiterator", "dict_reverseitemiterator", "odict_iterator", "itertools.zip_longest", "itertools.pairwise"].contains n && vs[0]? == some (rawInt _)) = true then _ else _) Q E s
           rw [if_neg (by intro h; rw [hn, Bool.false_and] at h; cases h)]
           exact wpAny_pure hQ))

def Itl (K : PySem.W.Frag) (a : Addr) : It :=
  ⟨fun i H => ∃ xs x, SqL K H a xs ∧ xs[i]? = some x, fun i H x H' => H' = H ∧ ∀ xs, SqL K H a xs → xs[i]? = some x, fun i H => ∃ xs, SqL K H a xs ∧ xs.length ≤ i⟩
def Itt (K : PySem.W.Frag) (a : Addr) : It :=
  ⟨fun i H => ∃ xs x, SqT K H a xs ∧ xs[i]? = some x, fun i H x H' => H' = H ∧ ∀ xs, SqT K H a xs → xs[i]? = some x, fun i H => ∃ xs, SqT K H a xs ∧ xs.length ≤ i⟩
def Itr (lo : Int) (n : Nat) : It := ⟨fun i _ => i < n, fun i H x H' => H' = H ∧ x = .int (lo + i), fun i _ => n ≤ i⟩
theorem turn_list {P : Program} {w : World} {K : PySem.W.Frag} {tg : Expr} (a it : Addr) : Turn P w K tg (Itl K a) [it] it (fun i h => h.IsListIter it a i) where
  mem := by simp
  obj := fun i h st b hb => by
    have e : b = it := by simpa using hb
    subst e
    obtain ⟨o, e, c, d⟩ := st
    exact ⟨o, e, fun v z => by rw [d] at z; cases z⟩
  keep := fun i h h' st k => st.at fun o e => k it (by simp) o e
  item := by
    intro X hP hw hK hc i pins s σ H E I hf st hg
    subst hP hw hK
    obtain ⟨xs, x, hq, hx⟩ := hg
    obtain ⟨its, rv, p, hz⟩ := I.list hq
    obtain ⟨u, hu, ru⟩ := rv.get hx
    obtain ⟨f0, f1, f2, f3, f4, f5⟩ := hf it (by simp)
    refine wpAny_pyNext_list_item st p.isList (x := u) (by simpa using hu) fun h' st' sb => ?_
    have I1 : Inv X pins σ H { s with heap := h' } := I.turned (t' := s.toks) (fun b o hb e => (sb.2 b hb).trans e) f0 f1 f3 f4 f5
    obtain ⟨o, e, c, d⟩ := id st'
    exact ⟨u, rfl, go_of (s := { s with heap := h' }) e c d (by decide) ⟨x, H, I1, ru, ⟨rfl, fun ys hy => by rw [I.list_inj hy hq]; exact hx⟩, st', fun b hb => (hf b hb).1⟩⟩
  done := by
    intro X hP hw hK hc i pins s σ H E I hf st hg
    subst hP hw hK
    obtain ⟨xs, hq, hx⟩ := hg
    obtain ⟨its, rv, p, hz⟩ := I.list hq
    obtain ⟨f0, f1, f2, f3, f4, f5⟩ := hf it (by simp)
    have hl := rv.length
    exact wpAny_pyNext_list_end (I.ok.hd hc) st p.isList (by simp; (first | lia | omega)) fun h' eb => ⟨rfl, I.turned (t' := s.toks) (fun b o hb e => eb b o hb e) f0 f1 f3 f4 f5⟩
  self := fun _ _ _ _ _ st h => wpAny_pyIter_listiter st h
theorem turn_tuple {P : Program} {w : World} {K : PySem.W.Frag} {tg : Expr} (a it : Addr) : Turn P w K tg (Itt K a) [it] it (fun i h => h.IsTupleIter it a i) where
  mem := by simp
  obj := fun i h st b hb => by
    have e : b = it := by simpa using hb
    subst e
    obtain ⟨o, e, c, d⟩ := st
    exact ⟨o, e, fun v z => by rw [d] at z; cases z⟩
  keep := fun i h h' st k => st.at fun o e => k it (by simp) o e
  item := by
    intro X hP hw hK hc i pins s σ H E I hf st hg
    subst hP hw hK
    obtain ⟨xs, x, hq, hx⟩ := hg
    obtain ⟨its, rv, p, hz⟩ := I.tuple hq
    obtain ⟨u, hu, ru⟩ := rv.get hx
    obtain ⟨f0, f1, f2, f3, f4, f5⟩ := hf it (by simp)
    refine wpAny_pyNext_tuple_item st (show s.heap.IsTuple a its.toArray from p) (x := u) (by simpa using hu) fun h' st' sb => ?_
    have I1 : Inv X pins σ H { s with heap := h' } := I.turned (t' := s.toks) (fun b o hb e => (sb.2 b hb).trans e) f0 f1 f3 f4 f5
    obtain ⟨o, e, c, d⟩ := id st'
    exact ⟨u, rfl, go_of (s := { s with heap := h' }) e c d (by decide) ⟨x, H, I1, ru, ⟨rfl, fun ys hy => by rw [I.tuple_inj hy hq]; exact hx⟩, st', fun b hb => (hf b hb).1⟩⟩
  done := by
    intro X hP hw hK hc i pins s σ H E I hf st hg
    subst hP hw hK
    obtain ⟨xs, hq, hx⟩ := hg
    obtain ⟨its, rv, p, hz⟩ := I.tuple hq
    obtain ⟨f0, f1, f2, f3, f4, f5⟩ := hf it (by simp)
    have hl := rv.length
    exact wpAny_pyNext_tuple_end (I.ok.hd hc) st (show s.heap.IsTuple a its.toArray from p) (by simp; (first | lia | omega)) fun h' eb => ⟨rfl, I.turned (t' := s.toks) (fun b o hb e => eb b o hb e) f0 f1 f3 f4 f5⟩
  self := fun _ _ _ _ _ st h => wpAny_pyIter_tupleiter st h
theorem turn_range {P : Program} {w : World} {K : PySem.W.Frag} {tg : Expr} (it : Addr) (lo : Int) (n : Nat) : Turn P w K tg (Itr lo n) [it] it (fun i h => IsRangeIter h it (lo + (i : Nat) * 1) ((n : Int) - (i : Nat)) 1) where
  mem := by simp
  obj := fun i h st b hb => by
    have e : b = it := by simpa using hb
    subst e
    exact ⟨_, st, fun v z => by
      have z' : Data.fields _ = Data.cell v := z
      cases z'⟩
  keep := fun i h h' st k => k it (by simp) _ st
  item := by
    intro X hP hw hK hc i pins s σ H E I hf st hg
    subst hP hw hK
    obtain ⟨f0, f1, f2, f3, f4, f5⟩ := hf it (by simp)
    have W := Walks.range (prog := X.prog) (w := X.w) (I.ok.hd hc) it lo 1 n
    refine W.item i s _ _ hg st fun v h' tk hv st' kk => ?_
    obtain ⟨t, rfl⟩ := hv
    have I1 : Inv X pins σ H { s with heap := h', toks := tk } := I.turned (fun b o hb e => kk b o (by simpa using hb) e) f0 f1 f3 f4 f5
    refine ⟨_, rfl, go_of (s := { s with heap := h', toks := tk }) (n := "range_iterator") st' rfl rfl (by decide) ⟨.int (lo + i), H, I1, ⟨t, ?_⟩, ⟨rfl, rfl⟩, st', fun b hb => (hf b hb).1⟩⟩
    rw [Int.mul_one]
  done := by
    intro X hP hw hK hc i pins s σ H E I hf st hg
    subst hP hw hK
    obtain ⟨f0, f1, f2, f3, f4, f5⟩ := hf it (by simp)
    exact wpAny_pyNext_range_end (I.ok.hd hc) st (by have : n ≤ i := hg; (first | lia | omega)) fun h' eb => ⟨rfl, I.turned (t' := s.toks) (fun b o hb e => eb b o hb e) f0 f1 f3 f4 f5⟩
  self := fun _ _ _ _ _ st h => wpAny_pyIter_rangeiter st h
end L2

namespace L2
open PySem PySem.Spec PyProof.Rows
section
variable {X : Cx} {tg : Expr}
def iList (K : PySem.W.Frag) (tl : TE) : TI := fun σ H R => tl σ H fun x H1 => ∃ a, x = .ref a ∧ (∃ xs, SqL K H1 a xs) ∧ R (Itl K a) H1
def iTup (K : PySem.W.Frag) (tl : TE) : TI := fun σ H R => tl σ H fun x H1 => ∃ a, x = .ref a ∧ (∃ xs, SqT K H1 a xs) ∧ R (Itt K a) H1
theorem pi_list {l : Expr} {tl : TE} (hl : PE X l tl) : PI X tg l (iList X.K tl) := by
  intro pins s σ H R I h
  refine thn (hl pins s σ H _ I h) fun v s1 ⟨x, H1, I1, r1, q1⟩ => ?_
  obtain ⟨a, e, ⟨xs, hq⟩, q⟩ := q1
  subst e
  cases r1
  obtain ⟨its, rv, p, hz⟩ := I1.list hq
  refine wpAny_pyIter_list p.isList ?_
  refine ⟨s1.heap.objs.size, [s1.heap.objs.size], _, _, H1, rfl, I1.kept (t' := s1.toks) fun b o e => Heap.get?_push_of_some _ e, turn_list a _, ⟨_, Heap.get?_push_size _ rfl, rfl, rfl⟩, fun b hb => ?_, q⟩
  have e : b = s1.heap.objs.size := by simpa using hb
  subst e
  exact I1.fpOk (Nat.le_refl _) (I1.hok.fresh (Nat.le_refl _))
theorem pi_tup {l : Expr} {tl : TE} (hl : PE X l tl) : PI X tg l (iTup X.K tl) := by
  intro pins s σ H R I h
  refine thn (hl pins s σ H _ I h) fun v s1 ⟨x, H1, I1, r1, q1⟩ => ?_
  obtain ⟨a, e, ⟨xs, hq⟩, q⟩ := q1
  subst e
  cases r1
  obtain ⟨its, rv, p, hz⟩ := I1.tuple hq
  refine wpAny_pyIter_tuple (show s1.heap.IsTuple a its.toArray from p) ?_
  refine ⟨s1.heap.objs.size, [s1.heap.objs.size], _, _, H1, rfl, I1.kept (t' := s1.toks) fun b o e => Heap.get?_push_of_some _ e, turn_tuple a _, ⟨_, Heap.get?_push_size _ rfl, rfl, rfl⟩, fun b hb => ?_, q⟩
  have e : b = s1.heap.objs.size := by simpa using hb
  subst e
  exact I1.fpOk (Nat.le_refl _) (I1.hok.fresh (Nat.le_refl _))
theorem range_it {pins : List (Addr × Obj)} {σ : St} {H : Hp} {s : Shared} {R : It → Hp → Prop} {E : Value → Shared → Prop} {lo hi : Int} {t u v : Tok} {tk : Nat} (I : Inv X pins σ H s) (h1 : -(2 ^ 62) ≤ lo) (h2 : lo < 2 ^ 62) (h3 : -(2 ^ 62) ≤ hi) (h4 : hi < 2 ^ 62)
    (q : R (Itr lo (hi - lo).toNat) H) : wpAny (model X.prog X.w) X.A (pyIter (.ref s.heap.objs.size)) (PIE X pins σ tg R) E { s with heap := s.heap.push { cls := .type "range", data := .fields #[.int lo t, .int hi u, .int 1 v] }, toks := tk } := by
  refine wpAny_pyIter_range (IsRange.new ..) (small_one h1 h2 h3 h4) ?_
  have I1 : Inv X pins σ H { s with heap := s.heap.push { cls := .type "range", data := .fields #[.int lo t, .int hi u, .int 1 v] }, toks := tk } := I.kept fun b o e => Heap.get?_push_of_some _ e
  refine ⟨(s.heap.push { cls := .type "range", data := .fields #[.int lo t, .int hi u, .int 1 v] }).objs.size, [(s.heap.push { cls := .type "range", data := .fields #[.int lo t, .int hi u, .int 1 v] }).objs.size], _, _, H, rfl,
    I1.kept (t' := tk) fun b o e => Heap.get?_push_of_some _ e, turn_range _ lo (hi - lo).toNat, ?_, fun b hb => ?_, q⟩
  · have e1 : lo + ((0 : Nat) : Int) * 1 = lo := by simp
    have e2 : (((hi - lo).toNat : Nat) : Int) - ((0 : Nat) : Int) = Builtin.Range.rangeSize lo hi 1 := by rw [rangeSize_one]; split <;> (first | lia | omega)
    show IsRangeIter _ _ (lo + ((0 : Nat) : Int) * 1) ((((hi - lo).toNat : Nat) : Int) - ((0 : Nat) : Int)) 1
    rw [e1, e2]
    exact Heap.get?_push_size _ rfl
  · have e : b = (s.heap.push { cls := .type "range", data := .fields #[.int lo t, .int hi u, .int 1 v] }).objs.size := by simpa using hb
    subst e
    exact I1.fpOk (Nat.le_refl _) (I1.hok.fresh (Nat.le_refl _))
def iRng1 (ta : TA) : TI := fun σ H R => ta σ H fun vs H1 => ∃ j : Int, vs = [.int j] ∧ -(2 ^ 62) ≤ j ∧ j < 2 ^ 62 ∧ R (Itr 0 j.toNat) H1
theorem pi_range1 {a : Expr} {ta : TA} {p pos : Pos} (hg : Gl X "range") (hm : X.mg "range" = none) (ha : PA X [a] ta) (hs : starEach [a] X.env = [(false, eval a X.env)] := by rfl) : PI X tg (.Call (.Name "range" p) [a] [] pos) (iRng1 ta) := by
  intro pins s σ H R I h
  refine Call_ (ld_blt I hg hm boot_range (PyProof.Rows.callWith_type1 (thn (ha pos pins s σ H _ I h) fun us s1 ⟨vs, H1, I1, r1, q1⟩ => ?_) hs rfl))
  obtain ⟨j, e, q1, q2, q⟩ := q1
  subst e
  cases r1 with
  | cons r rr =>
    cases rr
    obtain ⟨t, rfl⟩ := r
    exact call_range_1 (range_it I1 (by (first | lia | omega)) (by (first | lia | omega)) q1 q2 (by simpa using q))
def tFor (wi : TI) (g : TG) (tb : TS) : TS := fun D σ H => wi σ H fun J H1 => ∃ W : Nat → Nat → St → Hp → Prop, (∃ m, W 0 m σ H1) ∧ ∀ i m σ H, W i m σ H →
  (J.stop i H ∧ D.nx σ H) ∨ (J.go i H ∧ ∃ N : St → Hp → Prop, (∀ σ' H', N σ' H' → ∃ m', m' < m ∧ W (i + 1) m' σ' H') ∧ ∀ x H', J.yld i H x H' → g x σ H' fun σ2 H2 => tb { D with nx := N, ct := N, bk := D.nx } σ2 H2)
def pinsAt (fp : List Addr) (h : Heap) : List (Addr × Obj) := fp.filterMap fun b => (h.get? b).map fun o => (b, o)
theorem mem_pinsAt {fp : List Addr} {h : Heap} {b : Addr} {o : Obj} (hb : b ∈ fp) (e : h.get? b = some o) : (b, o) ∈ pinsAt fp h := List.mem_filterMap.mpr ⟨b, hb, by rw [e]; rfl⟩
theorem of_pinsAt {fp : List Addr} {h : Heap} {p : Addr × Obj} (hp : p ∈ pinsAt fp h) : p.1 ∈ fp ∧ h.get? p.1 = some p.2 := by
  obtain ⟨b, hb, e⟩ := List.mem_filterMap.mp hp
  cases q : h.get? b with
  | none => rw [q] at e; cases e
  | some o =>
    rw [q] at e
    have e' : (b, o) = p := Option.some.inj e
    subst e'
    exact ⟨hb, q⟩
theorem Inv.pinned {pins : List (Addr × Obj)} {σ : St} {H : Hp} {s : Shared} {fp : List Addr} (I : Inv X pins σ H s) (hf : ∀ b ∈ fp, FpOk X pins H b) (ho : ∀ b ∈ fp, ∃ o, s.heap.get? b = some o ∧ ∀ v, o.data ≠ .cell v) : Inv X (pins ++ pinsAt fp s.heap) σ H s :=
  I.pins_of fun p hp => (List.mem_append.mp hp).elim (fun z => I.pin p (List.mem_append_right _ z)) fun z => by
    obtain ⟨hb, e⟩ := of_pinsAt z
    obtain ⟨f0, f1, f2, _⟩ := hf p.1 hb
    obtain ⟨o, e', d⟩ := ho p.1 hb
    rw [e] at e'; cases e'
    exact ⟨e, f0, f1, f2, d⟩
theorem Inv.unpinned {pins pl : List (Addr × Obj)} {σ : St} {H : Hp} {s : Shared} (I : Inv X (pins ++ pl) σ H s) : Inv X pins σ H s := I.pins_of fun p hp => I.pin p (List.mem_append_right _ (List.mem_append_left _ hp))
theorem ps_for {iter : Expr} {body : List Stmt} {wi : TI} {g : TG} {tb : TS} {pos : Pos} (hp : PassesOwn (model X.prog X.w) X.A X.env X.xe) (hc : X.calm = true) (hi : PI X tg iter wi) (hg : PG X tg g) (hb : PSs X body tb)
    (hs : ∀ x, foldedSetIterable iter X.env x = pure x := by intro _; rfl) : PS X (.For tg iter body [] pos) (tFor wi g tb) := by
  intro pins s σ H D I h
  refine wpAny_For (thn (hi pins s σ H _ I h) fun v s1 h1 => thn h1 fun itv s2 h2 => ?_) hs
  obtain ⟨it, fp, tn, J, H2, e, I2, T, st2, f2, W, ⟨m0, w0⟩, turn⟩ := h2
  subst e
  -- what stays true of the iterator's objects through the loop
  have stat : ∀ {H' : Hp}, (∀ b ∈ fp, H' b = none) → ∀ b ∈ fp, FpOk X pins H' b := fun hn b hb => ⟨hn b hb, (f2 b hb).2⟩
  refine codeAny_forLoop_any (fun n s' => ∃ i σ' H', Inv X pins σ' H' s' ∧ tn i s'.heap ∧ (∀ b ∈ fp, H' b = none) ∧ W i n σ' H') ?_ m0 ⟨0, σ, H2, I2, st2, fun b hb => (f2 b hb).1, w0⟩
  rintro n s3 ⟨i, σ3, H3, I3, st3, fr3, w3⟩
  rcases turn i n σ3 H3 w3 with ⟨stop, qn⟩ | ⟨go, N, hN, step⟩
  · refine wpAny_passesOwn hp (thn (T.done X rfl rfl rfl hc i pins s3 σ3 H3 X.xe I3 (stat fr3) st3 stop) fun r s4 ⟨hr, I4⟩ => ?_)
    subst hr
    exact wpAny_execs_nil ⟨σ3, H3, I4, qn⟩
  · refine wpAny_passesOwn hp (thn (T.item X rfl rfl rfl hc i pins s3 σ3 H3 X.xe I3 (stat fr3) st3 go) fun r s4 ⟨u, hr, h4⟩ => ?_)
    subst hr
    refine wpAny_passesOwn hp (thn h4 fun _ s5 ⟨x, H5, I5, r5, y5, st5, fr5⟩ => ?_)
    have I5' := I5.pinned (stat fr5) (T.obj _ _ st5)
    refine wpAny_passesOwn hp (thn (hg _ s5 σ3 H5 x u _ I5' r5 (step x H5 y5)) fun _ s6 ⟨σ6, H6, I6, q6⟩ => ?_)
    refine wpAny_passesOwn hp (thn (hb _ s6 σ6 H6 _ I6 q6) fun f s7 q7 => ?_)
    have again : ∀ {σ7 : St} {H7 : Hp}, Inv X (pins ++ pinsAt fp s5.heap) σ7 H7 s7 → N σ7 H7 → ∃ m, m < n ∧ ∃ i σ' H', Inv X pins σ' H' s7 ∧ tn i s7.heap ∧ (∀ b ∈ fp, H' b = none) ∧ W i m σ' H' := fun {σ7 H7} I7 n7 => by
      obtain ⟨m', hm, w7⟩ := hN σ7 H7 n7
      refine ⟨m', hm, i + 1, σ7, H7, I7.unpinned, T.keep _ _ _ st5 fun b hb o e => (I7.pin (b, o) (List.mem_append_right _ (List.mem_append_right _ (mem_pinsAt hb e)))).1, fun b hb => ?_, w7⟩
      obtain ⟨o, e, d⟩ := T.obj _ _ st5 b hb
      exact (I7.pin (b, o) (List.mem_append_right _ (List.mem_append_right _ (mem_pinsAt hb e)))).2.1
    cases f with
    | next => obtain ⟨σ7, H7, I7, n7⟩ := q7; exact again I7 n7
    | cont => obtain ⟨σ7, H7, I7, n7⟩ := q7; exact again I7 n7
    | brk => obtain ⟨σ7, H7, I7, q7⟩ := q7; exact ⟨σ7, H7, I7.unpinned, q7⟩
    | ret v => obtain ⟨x7, σ7, H7, I7, r7, q7⟩ := q7; exact ⟨x7, σ7, H7, I7.unpinned, r7, q7⟩
end

theorem for_list {K : PySem.W.Frag} {a : Addr} {xs : List V} {g : TG} {tb : TS} {D : Ends} {σ : St} {H : Hp} (Pv : Nat → St → Hp → Prop) (h0 : Pv 0 σ H) (hl : ∀ i σ H, i ≤ xs.length → Pv i σ H → SqL K H a xs)
    (hs : ∀ i x σ H, xs[i]? = some x → Pv i σ H → g x σ H fun σ2 H2 => tb { D with nx := Pv (i + 1), ct := Pv (i + 1), bk := D.nx } σ2 H2) (hd : ∀ σ H, Pv xs.length σ H → D.nx σ H) :
    ∃ W : Nat → Nat → St → Hp → Prop, (∃ m, W 0 m σ H) ∧ ∀ i m σ H, W i m σ H →
      ((Itl K a).stop i H ∧ D.nx σ H) ∨ ((Itl K a).go i H ∧ ∃ N : St → Hp → Prop, (∀ σ' H', N σ' H' → ∃ m', m' < m ∧ W (i + 1) m' σ' H') ∧ ∀ x H', (Itl K a).yld i H x H' → g x σ H' fun σ2 H2 => tb { D with nx := N, ct := N, bk := D.nx } σ2 H2) := by
  refine ⟨fun i m σ H => m = xs.length - i ∧ i ≤ xs.length ∧ Pv i σ H, ⟨xs.length, by simp, Nat.zero_le _, h0⟩, ?_⟩
  rintro i m σ H ⟨rfl, hi, p⟩
  have q := hl i σ H hi p
  by_cases hlt : i < xs.length
  · refine .inr ⟨⟨xs, xs[i], q, by simp [hlt]⟩, Pv (i + 1), fun σ' H' p' => ⟨xs.length - (i + 1), by (first | lia | omega), rfl, hlt, p'⟩, fun x H' y => ?_⟩
    obtain ⟨e, y⟩ := y
    subst e
    exact hs i x σ _ (y xs q) p
  · have e : i = xs.length := by (first | lia | omega)
    subst e
    exact .inl ⟨⟨xs, q, Nat.le_refl _⟩, hd σ H p⟩
theorem for_tup {K : PySem.W.Frag} {a : Addr} {xs : List V} {g : TG} {tb : TS} {D : Ends} {σ : St} {H : Hp} (Pv : Nat → St → Hp → Prop) (h0 : Pv 0 σ H) (hl : ∀ i σ H, i ≤ xs.length → Pv i σ H → SqT K H a xs)
    (hs : ∀ i x σ H, xs[i]? = some x → Pv i σ H → g x σ H fun σ2 H2 => tb { D with nx := Pv (i + 1), ct := Pv (i + 1), bk := D.nx } σ2 H2) (hd : ∀ σ H, Pv xs.length σ H → D.nx σ H) :
    ∃ W : Nat → Nat → St → Hp → Prop, (∃ m, W 0 m σ H) ∧ ∀ i m σ H, W i m σ H →
      ((Itt K a).stop i H ∧ D.nx σ H) ∨ ((Itt K a).go i H ∧ ∃ N : St → Hp → Prop, (∀ σ' H', N σ' H' → ∃ m', m' < m ∧ W (i + 1) m' σ' H') ∧ ∀ x H', (Itt K a).yld i H x H' → g x σ H' fun σ2 H2 => tb { D with nx := N, ct := N, bk := D.nx } σ2 H2) := by
  refine ⟨fun i m σ H => m = xs.length - i ∧ i ≤ xs.length ∧ Pv i σ H, ⟨xs.length, by simp, Nat.zero_le _, h0⟩, ?_⟩
  rintro i m σ H ⟨rfl, hi, p⟩
  have q := hl i σ H hi p
  by_cases hlt : i < xs.length
  · refine .inr ⟨⟨xs, xs[i], q, by simp [hlt]⟩, Pv (i + 1), fun σ' H' p' => ⟨xs.length - (i + 1), by (first | lia | omega), rfl, hlt, p'⟩, fun x H' y => ?_⟩
    obtain ⟨e, y⟩ := y
    subst e
    exact hs i x σ _ (y xs q) p
  · have e : i = xs.length := by (first | lia | omega)
    subst e
    exact .inl ⟨⟨xs, q, Nat.le_refl _⟩, hd σ H p⟩
theorem for_range {lo : Int} {n : Nat} {g : TG} {tb : TS} {D : Ends} {σ : St} {H : Hp} (Pv : Nat → St → Hp → Prop) (h0 : Pv 0 σ H)
    (hs : ∀ i σ H, i < n → Pv i σ H → g (.int (lo + i)) σ H fun σ2 H2 => tb { D with nx := Pv (i + 1), ct := Pv (i + 1), bk := D.nx } σ2 H2) (hd : ∀ σ H, Pv n σ H → D.nx σ H) :
    ∃ W : Nat → Nat → St → Hp → Prop, (∃ m, W 0 m σ H) ∧ ∀ i m σ H, W i m σ H →
      ((Itr lo n).stop i H ∧ D.nx σ H) ∨ ((Itr lo n).go i H ∧ ∃ N : St → Hp → Prop, (∀ σ' H', N σ' H' → ∃ m', m' < m ∧ W (i + 1) m' σ' H') ∧ ∀ x H', (Itr lo n).yld i H x H' → g x σ H' fun σ2 H2 => tb { D with nx := N, ct := N, bk := D.nx } σ2 H2) := by
  refine ⟨fun i m σ H => m = n - i ∧ i ≤ n ∧ Pv i σ H, ⟨n, by simp, Nat.zero_le _, h0⟩, ?_⟩
  rintro i m σ H ⟨rfl, hi, p⟩
  by_cases hlt : i < n
  · refine .inr ⟨hlt, Pv (i + 1), fun σ' H' p' => ⟨n - (i + 1), by (first | lia | omega), rfl, hlt, p'⟩, fun x H' y => ?_⟩
    obtain ⟨e, y⟩ := y
    subst e y
    exact hs i σ _ hlt p
  · have e : i = n := by (first | lia | omega)
    subst e
    exact .inl ⟨Nat.le_refl _, hd σ H p⟩
end L2

namespace L2
open PySem PySem.Spec PyProof.Rows

abbrev R2 := V → V → Hp → VK → Prop
def OpR (X : Cx) (f : Value → Value → Sem Value) (r : R2) : Prop :=
  ∀ (pins : List (Addr × Obj)) (s : Shared) (σ : St) (H : Hp) (x y : V) (v u : Value) (Q : VK), Inv X pins σ H s → RelV x v → RelV y u → r x y H Q →
    wpAny (model X.prog X.w) X.A (f v u) (EP X pins σ Q) X.xe s
def UnR (X : Cx) (f : Value → Sem Value) (r : V → Hp → VK → Prop) : Prop :=
  ∀ (pins : List (Addr × Obj)) (s : Shared) (σ : St) (H : Hp) (x : V) (v : Value) (Q : VK), Inv X pins σ H s → RelV x v → r x H Q →
    wpAny (model X.prog X.w) X.A (f v) (EP X pins σ Q) X.xe s
def CallR (X : Cx) (f : Value) (r : List V → Hp → VK → Prop) : Prop :=
  ∀ (pins : List (Addr × Obj)) (s : Shared) (σ : St) (H : Hp) (xs : List V) (us : List Value) (Q : VK), Inv X pins σ H s → Vals xs us → r xs H Q →
    wpAny (model X.prog X.w) X.A (call f us) (EP X pins σ Q) X.xe s
def tOp (r : R2) (ta tb : TE) : TE := fun σ H Q => ta σ H fun x H1 => tb σ H1 fun y H2 => r x y H2 Q
def tUn (r : V → Hp → VK → Prop) (ta : TE) : TE := fun σ H Q => ta σ H fun x H1 => r x H1 Q
def rI (C : Int → Int → Prop) (g : Int → Int → V) : R2 := fun x y H Q => ∃ i j, x = .int i ∧ y = .int j ∧ C i j ∧ Q (g i j) H
def rI0 (g : Int → Int → V) : R2 := fun x y H Q => ∃ i j, x = .int i ∧ y = .int j ∧ Q (g i j) H
def rU (g : Int → V) : V → Hp → VK → Prop := fun x H Q => ∃ i, x = .int i ∧ Q (g i) H

section
variable {X : Cx} {a b c : Expr} {ta tb tc : TE} {pos : Pos}

theorem binT (ha : PE X a ta) (hb : PE X b tb) {pins : List (Addr × Obj)} {s : Shared} {σ : St} {H : Hp} {R : V → V → Hp → Prop} (I : Inv X pins σ H s)
    (h : ta σ H fun x H1 => tb σ H1 fun y H2 => R x y H2) {Q : Value → Shared → Prop} {f : Value → Value → Sem Value}
    (hf : ∀ v u s2 x y H2, Inv X pins σ H2 s2 → RelV x v → RelV y u → R x y H2 → wpAny (model X.prog X.w) X.A (f v u) Q X.xe s2) :
    wpAny (model X.prog X.w) X.A (eval a X.env) (fun v s₁ => wpAny (model X.prog X.w) X.A (eval b X.env) (fun u s₂ => wpAny (model X.prog X.w) X.A (f v u) Q X.xe s₂) X.xe s₁) X.xe s := by
  refine thn (ha pins s σ H _ I h) fun v s1 ⟨x, H1, I1, r1, q1⟩ => ?_
  refine thn (hb pins s1 σ H1 _ I1 q1) fun u s2 ⟨y, H2, I2, r2, q2⟩ => ?_
  exact hf v u s2 x y H2 I2 r1 r2 q2

theorem pe_op {op : Operator} {r : R2} (ho : OpR X (binaryOp op) r) (ha : PE X a ta) (hb : PE X b tb) : PE X (.BinOp a op b pos) (tOp r ta tb) := by
  intro pins s σ H Q I h
  exact wpAny_BinOp (binT ha hb I h fun v u s2 x y H2 I2 rx ry q => ho pins s2 σ H2 x y v u Q I2 rx ry q)
theorem pe_un {op : UnaryOp} {r : V → Hp → VK → Prop} (ho : UnR X (unaryOp op) r) (ha : PE X a ta) : PE X (.UnaryOp op a pos) (tUn r ta) := by
  intro pins s σ H Q I h
  exact UnaryOp_ (thn (ha pins s σ H _ I h) fun v s1 ⟨x, H1, I1, r1, q1⟩ => ho pins s1 σ H1 x v Q I1 r1 q1)
theorem opI {f : Value → Value → Sem Value} {C : Int → Int → Prop} {g : Int → Int → Int}
    (rule : ∀ (i j : Int) (t u : Tok) (s : Shared) (Q : Value → Shared → Prop) (E : Value → Shared → Prop), C i j → Q (.int (g i j) s.toks) { s with toks := s.toks + 1 } → wpAny (model X.prog X.w) X.A (f (.int i t) (.int j u)) Q E s) :
    OpR X f (rI C fun i j => .int (g i j)) := by
  intro pins s σ H x y v u Q I rx ry h
  obtain ⟨i, j, rfl, rfl, hc, q⟩ := h
  obtain ⟨t, rfl⟩ := rx
  obtain ⟨t', rfl⟩ := ry
  exact rule i j t t' s _ _ hc ⟨.int (g i j), H, I.tok _, ⟨_, rfl⟩, q⟩
theorem opI0 {f : Value → Value → Sem Value} {g : Int → Int → Int}
    (rule : ∀ (i j : Int) (t u : Tok) (s : Shared) (Q : Value → Shared → Prop) (E : Value → Shared → Prop), Q (.int (g i j) s.toks) { s with toks := s.toks + 1 } → wpAny (model X.prog X.w) X.A (f (.int i t) (.int j u)) Q E s) :
    OpR X f (rI0 fun i j => .int (g i j)) := by
  intro pins s σ H x y v u Q I rx ry h
  obtain ⟨i, j, rfl, rfl, q⟩ := h
  obtain ⟨t, rfl⟩ := rx
  obtain ⟨t', rfl⟩ := ry
  exact rule i j t t' s _ _ ⟨.int (g i j), H, I.tok _, ⟨_, rfl⟩, q⟩
theorem opB0 {f : Value → Value → Sem Value} {g : Int → Int → Bool}
    (rule : ∀ (i j : Int) (t u : Tok) (s : Shared) (Q : Value → Shared → Prop) (E : Value → Shared → Prop), Q (.bool (g i j)) s → wpAny (model X.prog X.w) X.A (f (.int i t) (.int j u)) Q E s) :
    OpR X f (rI0 fun i j => .bl (g i j)) := by
  intro pins s σ H x y v u Q I rx ry h
  obtain ⟨i, j, rfl, rfl, q⟩ := h
  obtain ⟨t, rfl⟩ := rx
  obtain ⟨t', rfl⟩ := ry
  exact rule i j t t' s _ _ ⟨.bl (g i j), H, I, rfl, q⟩

def CDiv (i j : Int) : Prop := 0 < j ∧ j < 1073741824
def CPow (i j : Int) : Prop := 0 ≤ j ∧ j ≤ 1000000 ∧ i.natAbs < 2 ^ 64
def CMul (i j : Int) : Prop := (-(2 ^ 64) < i ∧ i < 2 ^ 64) ∨ (-(2 ^ 64) < j ∧ j < 2 ^ 64)
theorem CMul.ok {i j : Int} (h : CMul i j) : IntMulOk i j := by
  rcases h with ⟨h1, h2⟩ | ⟨h1, h2⟩
  · exact .of_left (intBits_le_64 h1 h2)
  · exact .of_right (intBits_le_64 h1 h2)
theorem op_add : OpR X (binaryOp .Add) (rI0 fun i j => .int (i + j)) := opI0 fun _ _ _ _ _ _ _ q => add_int q
theorem op_sub : OpR X (binaryOp .Sub) (rI0 fun i j => .int (i - j)) := opI0 fun _ _ _ _ _ _ _ q => sub_int q
theorem op_mul : OpR X (binaryOp .Mult) (rI CMul fun i j => .int (i * j)) := opI fun _ _ _ _ _ _ _ hc q => mul_int q hc.ok
theorem op_fdiv : OpR X (binaryOp .FloorDiv) (rI CDiv fun i j => .int (i / j)) := opI fun i j _ _ _ _ _ hc q => by
  have h1 : (0 : Int) < j := hc.1
  have h2 : j < 1073741824 := hc.2
  exact floordiv_int (by (first | lia | omega)) (by rw [Int.fdiv_eq_ediv_of_nonneg i (by (first | lia | omega))]; exact q) (.inl (PyProof.noPylong_small (by (first | lia | omega))))
theorem op_mod : OpR X (binaryOp .Mod) (rI (fun _ j => 0 < j) fun i j => .int (i % j)) := opI fun i j _ _ _ _ _ hc q => by
  have h1 : (0 : Int) < j := hc
  exact mod_int' (by (first | lia | omega)) (by rw [Int.fmod_eq_emod_of_nonneg i (by (first | lia | omega))]; exact q)
theorem op_pow : OpR X (binaryOp .Pow) (rI CPow fun i j => .int (i ^ j.toNat)) := opI fun _ _ _ _ _ _ _ hc q => pow_int_small hc.1 hc.2.1 hc.2.2 q
theorem unI {f : Value → Sem Value} {g : Int → Int}
    (rule : ∀ (i : Int) (t : Tok) (s : Shared) (Q : Value → Shared → Prop) (E : Value → Shared → Prop), Q (.int (g i) s.toks) { s with toks := s.toks + 1 } → wpAny (model X.prog X.w) X.A (f (.int i t)) Q E s) :
    UnR X f (rU fun i => .int (g i)) := by
  intro pins s σ H x v Q I rx h
  obtain ⟨i, rfl, q⟩ := h
  obtain ⟨t, rfl⟩ := rx
  exact rule i t s _ _ ⟨.int (g i), H, I.tok _, ⟨_, rfl⟩, q⟩
theorem un_neg : UnR X (unaryOp .USub) (rU fun i => .int (-i)) := unI fun _ _ _ _ _ q => neg_int q
end

def scal : V → V → Bool
  | .non, .non => true | .non, .int _ => true | .int _, .non => true | .non, .bl _ => true | .bl _, .non => true | .non, .str _ => true | .str _, .non => true
  | .int _, .int _ => true | .bl _, .bl _ => true | .str _, .str _ => true | .byt _, .byt _ => true
  | .int _, .str _ => true | .str _, .int _ => true | .bl _, .str _ => true | .str _, .bl _ => true
  | _, _ => false
def rEq : R2 := fun x y H Q => scal x y = true ∧ Q (.bl (decide (x = y))) H
def rNe : R2 := fun x y H Q => scal x y = true ∧ Q (.bl (!decide (x = y))) H

theorem dec_int {i j : Int} : decide (V.int i = V.int j) = (i == j) := by
  rw [Bool.eq_iff_iff]
  simp
theorem dec_bl {i j : Bool} : decide (V.bl i = V.bl j) = (i == j) := by
  rw [Bool.eq_iff_iff]
  simp
theorem dec_str {i j : Str} : decide (V.str i = V.str j) = (i == j) := by
  rw [Bool.eq_iff_iff]
  simp
theorem dec_byt {i j : Array UInt8} : decide (V.byt i = V.byt j) = (i.toList == j.toList) := by
  rw [Bool.eq_iff_iff]
  cases i
  cases j
  simp

section
variable {X : Cx} {a b c : Expr} {ta tb tc : TE} {pos : Pos}
theorem fin_bl {pins : List (Addr × Obj)} {σ : St} {H : Hp} {s : Shared} {Q : VK} {k k' : Bool} (I : Inv X pins σ H s) (q : Q (.bl k) H) (e : k = k') : EP X pins σ Q (.bool k') s := by
  subst e
  exact ⟨.bl k, H, I, rfl, q⟩
theorem op_eq : OpR X (compareOp .Eq) rEq := by
  intro pins s σ H x y v u Q I rx ry h
  obtain ⟨hs, q⟩ := h
  cases x with
  | non =>
    cases rx
    cases y with
    | non => cases ry; exact PySem.EqNone.eq_none_none (fin_bl I q (by simp))
    | bl j => cases ry; exact PySem.EqNone.eq_none_bool (fin_bl I q (by simp))
    | int j => obtain ⟨t', rfl⟩ := ry; exact PySem.EqNone.eq_none_int (fin_bl I q (by simp))
    | str j => obtain ⟨t', rfl⟩ := ry; exact PySem.EqNone.eq_none_str (fin_bl I q (by simp))
    | _ => exact absurd (show false = true from hs) Bool.false_ne_true
  | bl i =>
    cases rx
    cases y with
    | non => cases ry; exact PySem.EqNone.eq_bool_none (fin_bl I q (by simp))
    | bl j => cases ry; exact eq_bool (fin_bl I q dec_bl)
    | str j => obtain ⟨t', rfl⟩ := ry; exact PySem.EqMixed.eq_bool_str (fin_bl I q (by simp))
    | _ => exact absurd (show false = true from hs) Bool.false_ne_true
  | int i =>
    obtain ⟨t, rfl⟩ := rx
    cases y with
    | non => cases ry; exact PySem.EqNone.eq_int_none (fin_bl I q (by simp))
    | int j => obtain ⟨t', rfl⟩ := ry; exact eq_int (fin_bl I q dec_int)
    | str j => obtain ⟨t', rfl⟩ := ry; exact PySem.EqMixed.eq_int_str (fin_bl I q (by simp))
    | _ => exact absurd (show false = true from hs) Bool.false_ne_true
  | str i =>
    obtain ⟨t, rfl⟩ := rx
    cases y with
    | non => cases ry; exact PySem.EqNone.eq_str_none (fin_bl I q (by simp))
    | bl j => cases ry; exact PySem.EqMixed.eq_str_bool (fin_bl I q (by simp))
    | int j => obtain ⟨t', rfl⟩ := ry; exact PySem.EqMixed.eq_str_int (fin_bl I q (by simp))
    | str j => obtain ⟨t', rfl⟩ := ry; exact eq_str (fin_bl I q dec_str)
    | _ => exact absurd (show false = true from hs) Bool.false_ne_true
  | byt i =>
    obtain ⟨t, rfl⟩ := rx
    cases y with
    | byt j => obtain ⟨t', rfl⟩ := ry; exact PySem.W.eq_bytes (fin_bl I q dec_byt)
    | _ => exact absurd (show false = true from hs) Bool.false_ne_true
  | _ => cases y <;> exact absurd (show false = true from hs) Bool.false_ne_true
theorem op_ne : OpR X (compareOp .NotEq) rNe := by
  intro pins s σ H x y v u Q I rx ry h
  obtain ⟨hs, q⟩ := h
  cases x with
  | non =>
    cases rx
    cases y with
    | non => cases ry; exact PySem.EqNone.ne_none_none (fin_bl I q (by simp))
    | bl j => cases ry; exact PySem.EqNone.ne_none_bool (fin_bl I q (by simp))
    | int j => obtain ⟨t', rfl⟩ := ry; exact PySem.EqNone.ne_none_int (fin_bl I q (by simp))
    | str j => obtain ⟨t', rfl⟩ := ry; exact PySem.EqNone.ne_none_str (fin_bl I q (by simp))
    | _ => exact absurd (show false = true from hs) Bool.false_ne_true
  | bl i =>
    cases rx
    cases y with
    | non => cases ry; exact PySem.EqNone.ne_bool_none (fin_bl I q (by simp))
    | bl j => cases ry; exact ne_bool (fin_bl I q (congrArg not dec_bl))
    | str j => obtain ⟨t', rfl⟩ := ry; exact PySem.EqMixed.ne_bool_str (fin_bl I q (by simp))
    | _ => exact absurd (show false = true from hs) Bool.false_ne_true
  | int i =>
    obtain ⟨t, rfl⟩ := rx
    cases y with
    | non => cases ry; exact PySem.EqNone.ne_int_none (fin_bl I q (by simp))
    | int j => obtain ⟨t', rfl⟩ := ry; exact ne_int (fin_bl I q (congrArg not dec_int))
    | str j => obtain ⟨t', rfl⟩ := ry; exact PySem.EqMixed.ne_int_str (fin_bl I q (by simp))
    | _ => exact absurd (show false = true from hs) Bool.false_ne_true
  | str i =>
    obtain ⟨t, rfl⟩ := rx
    cases y with
    | non => cases ry; exact PySem.EqNone.ne_str_none (fin_bl I q (by simp))
    | bl j => cases ry; exact PySem.EqMixed.ne_str_bool (fin_bl I q (by simp))
    | int j => obtain ⟨t', rfl⟩ := ry; exact PySem.EqMixed.ne_str_int (fin_bl I q (by simp))
    | str j => obtain ⟨t', rfl⟩ := ry; exact ne_str (fin_bl I q (congrArg not dec_str))
    | _ => exact absurd (show false = true from hs) Bool.false_ne_true
  | byt i =>
    obtain ⟨t, rfl⟩ := rx
    cases y with
    | byt j => obtain ⟨t', rfl⟩ := ry; exact PySem.W.ne_bytes (fin_bl I q (congrArg not dec_byt))
    | _ => exact absurd (show false = true from hs) Bool.false_ne_true
  | _ => cases y <;> exact absurd (show false = true from hs) Bool.false_ne_true

theorem op_lt : OpR X (compareOp .Lt) (rI0 fun i j => .bl (decide (i < j))) := opB0 fun _ _ _ _ _ _ _ q => lt_int q
theorem op_le : OpR X (compareOp .LtE) (rI0 fun i j => .bl (decide (i ≤ j))) := opB0 fun _ _ _ _ _ _ _ q => le_int q
theorem op_gt : OpR X (compareOp .Gt) (rI0 fun i j => .bl (decide (j < i))) := opB0 fun _ _ _ _ _ _ _ q => gt_int q
theorem op_ge : OpR X (compareOp .GtE) (rI0 fun i j => .bl (decide (j ≤ i))) := opB0 fun _ _ _ _ _ _ _ q => ge_int q
theorem op_isN : OpR X (compareOp .Is) (fun x y H Q => y = .non ∧ Q (.bl (decide (x = .non))) H) := by
  intro pins s σ H x y v u Q I rx ry h
  obtain ⟨rfl, q⟩ := h
  cases ry
  refine is_none_gen (fin_bl I q ?_)
  cases x <;> first
    | (cases rx; rfl)
    | (obtain ⟨t, rfl⟩ := rx; rfl)
theorem nomark (b : Expr) {op : CmpOp} (h : op ≠ .In := by decide) (h2 : op ≠ .NotIn := by decide) : behindInMarks op b = false := by
  have e1 : (op == CmpOp.In) = false := by cases op <;> first | rfl | exact absurd rfl h
  have e2 : (op == CmpOp.NotIn) = false := by cases op <;> first | rfl | exact absurd rfl h2
  cases b <;> simp [behindInMarks, e1, e2]
theorem pe_cmpR {op : CmpOp} {r : R2} (ho : OpR X (compareOp op) r) (ha : PE X a ta) (hb : PE X b tb) (hm : behindInMarks op b = false) : PE X (.Compare a [op] [b] pos) (tOp r ta tb) := by
  intro pins s σ H Q I h
  exact wpAny_Compare1 (binT ha hb I h fun v u s2 x y H2 I2 rx ry q => ho pins s2 σ H2 x y v u Q I2 rx ry q) hm
def tTest (t : TE) : TT := fun σ H Q => t σ H fun x H' => ∃ k, x = .bl k ∧ Q k H'
theorem pt_cmpR {op : CmpOp} {r : R2} (ho : OpR X (compareOp op) r) (ha : PE X a ta) (hb : PE X b tb) (hm : behindInMarks op b = false) : PT X (.Compare a [op] [b] pos) (tTest (tOp r ta tb)) := by
  intro pins s σ H Q I h
  refine wpAny_isTrue_Compare1 (thn (ha pins s σ H _ I h) fun v s1 ⟨x, H1, I1, r1, q1⟩ => thn (hb pins s1 σ H1 _ I1 q1) fun u s2 ⟨y, H2, I2, r2, q2⟩ =>
    thn (ho pins s2 σ H2 x y v u _ I2 r1 r2 q2) fun c s3 ⟨z, H3, I3, r3, k, e, q3⟩ => ?_) hm
  subst e
  cases r3
  exact wpAny_truthy_bool ⟨H3, I3, q3⟩
def tChain (r r' : R2) (ta tb tc : TE) : TE := fun σ H Q => ta σ H fun x H1 => tb σ H1 fun y H2 => r x y H2 fun z H3 => ∃ k, z = .bl k ∧
  (if k = true then tc σ H3 fun w' H4 => r' y w' H4 Q else Q (.bl false) H3)
theorem pe_chain {op op' : CmpOp} {r r' : R2} (ho : OpR X (compareOp op) r) (ho' : OpR X (compareOp op') r') (ha : PE X a ta) (hb : PE X b tb) (hc : PE X c tc)
    (hm : lastMarks [op, op'] [b, c] = false := by with_unfolding_all rfl) : PE X (.Compare a [op, op'] [b, c] pos) (tChain r r' ta tb tc) := by
  intro pins s σ H Q I h
  refine Compare_chain (thn (ha pins s σ H _ I h) fun v s1 ⟨x, H1, I1, r1, q1⟩ => chain_link (thn (hb pins s1 σ H1 _ I1 q1) fun u s2 ⟨y, H2, I2, r2, q2⟩ =>
    thn (ho pins s2 σ H2 x y v u _ I2 r1 r2 q2) fun d s3 ⟨z, H3, I3, r3, k, e, q3⟩ => ?_)) hm
  subst e
  cases r3
  refine wpAny_truthy_bool ?_
  cases k with
  | false => exact ite_ff ⟨.bl false, H3, I3, rfl, q3⟩
  | true => exact ite_tt (chain_last (thn (hc pins s3 σ H3 _ I3 q3) fun w' s4 ⟨z', H4, I4, r4, q4⟩ => ho' pins s4 σ H4 y z' u w' Q I4 r2 r4 q4))
theorem line63 : (sizeLine : Nat) < 2 ^ 63 := by rw [sizeLine_eq]; decide
theorem vals1 {x : V} {us : List Value} (r : Vals [x] us) : ∃ u, us = [u] ∧ RelV x u := by
  cases r with
  | cons r1 r2 => cases r2; exact ⟨_, rfl, r1⟩
theorem vals2 {x y : V} {us : List Value} (r : Vals [x, y] us) : ∃ u w', us = [u, w'] ∧ RelV x u ∧ RelV y w' := by
  cases r with
  | cons r1 r2 =>
    cases r2 with
    | cons r3 r4 => cases r4; exact ⟨_, _, rfl, r1, r3⟩
theorem call_max2 (hc : X.calm = true) : CallR X (.builtin "max") (fun xs H Q => ∃ i j, xs = [.int i, .int j] ∧ Q (.int (if j > i then j else i)) H) := by
  intro pins s σ H xs us Q I r h
  obtain ⟨i, j, rfl, q⟩ := h
  obtain ⟨u, w', rfl, ⟨t, rfl⟩, ⟨t', rfl⟩⟩ := vals2 r
  refine max_two_ints (I.ok.hd hc) fun h' tk k => ⟨_, H, I.kept k, ?_, q⟩
  by_cases hj : j > i
  · rw [if_pos hj, if_pos hj]; exact ⟨_, rfl⟩
  · rw [if_neg hj, if_neg hj]; exact ⟨_, rfl⟩
end
end L2

namespace L2
open PySem PySem.Spec PyProof.Rows

structure ObjM (h : Heap) (x dx C : Addr) (mA : Str → Option Value) : Prop where
  obj : h.get? x = some (PySem.W.instObj C dx)
  ns : h.Ns1 dx mA
  ne : dx ≠ x

theorem lookIn_ns {h : Heap} {dx : Addr} {mA : Str → Option Value} (n : h.Ns1 dx mA) : ∃ od, h.get? dx = some od ∧ ∀ name, PySem.W.lookIn name od = some (mA name) := by
  obtain ⟨o, es, ep, ho, hd, hk, _, hm⟩ := n
  refine ⟨o, ho, fun name => ?_⟩
  have e := hm name
  unfold nsFind findBy at e
  rw [← Array.find?_toList] at e
  unfold PySem.W.lookIn
  rw [hd]
  dsimp only
  split
  · rename_i y q
    rw [q] at e
    exact congrArg some e
  · rename_i q
    rw [q] at e
    have a : es.toList.any (·.refKey) = false := by
      rw [List.any_eq_false]
      intro y hy
      obtain ⟨z, t, hkey⟩ := hk y (Array.mem_toList_iff.mp hy)
      simp [DictEntry.refKey, hkey]
    have a' : ¬ es.toList.any (·.refKey) = true := by rw [a]; exact Bool.false_ne_true
    rw [if_neg a']
    exact congrArg some e

theorem ObjM.look {h : Heap} {x dx C : Addr} {mA : Str → Option Value} (I : ObjM h x dx C mA) : ∃ od, PySem.W.InstAt h x (PySem.W.instObj C dx) C (some od) ∧ ∀ name, PySem.W.lookIn name od = some (mA name) :=
  let ⟨od, ho, hl⟩ := lookIn_ns I.ns
  ⟨od, ⟨I.obj, rfl, rfl, ho⟩, hl⟩

section
variable {prog : Program} {w : World} {A : Around} {E : Value → Shared → Prop} {s : Shared} {K : PySem.W.Frag} {x dx C f : Addr} {mA : Str → Option Value} {name : Str} {v : Value}

theorem get_map {expr : Bool} {Q : Value → Shared → Prop} (X : K.In s.heap) (I : ObjM s.heap x dx C mA) (hg : PySem.W.plainGet K C name = true) (hh : PySem.W.hasDictIn K C = true)
    (ha : PySem.W.findIn K (.ref C) name = some none) (hv : mA name = some v) (hv' : PySem.W.handedIn v = true) (h : Q v { s with toks := s.toks + 1 }) :
    wpAny (model prog w) A (getAttr (.ref x) name expr) Q E s := by
  obtain ⟨od, J, hl⟩ := I.look
  exact PySem.W.get_value X J (PySem.W.plainGet_of hg).1 (PySem.W.findObj_own hh ha rfl (by rw [hl, hv])) hv' h

theorem get_meth {pl : Sem Bool} {Q : Value × List Value → Shared → Prop} (X : K.In s.heap) (I : ObjM s.heap x dx C mA) (hg : PySem.W.plainGet K C name = true)
    (hf : PySem.W.findIn K (.ref C) name = some (some (.ref f))) (ht : PySem.W.isFn K (.ref f) = true) (hv : mA name = none) (h : Q (.ref f, [.ref x]) s) :
    wpAny (model prog w) A (getMethod (.ref x) name pl) Q E s := by
  obtain ⟨od, J, hl⟩ := I.look
  exact PySem.W.method_fn X J (PySem.W.plainGet_of hg).1 (PySem.W.plainGet_of hg).2 hf (beq_iff_eq.mp ht) (by show (PySem.W.lookIn name od).map (·.isSome) = some false; rw [hl, hv]; rfl) h

theorem set_map {ns : List Str} {Q : Unit → Shared → Prop} (X : K.In s.heap) (I : ObjM s.heap x dx C mA)
    (hs : PySem.W.findIn K (.ref C) "__setattr__" = some (some (.builtin "object.__setattr__"))) (hp : PySem.W.plainOver K C = true) (ht : PySem.W.takerIn K C name = some none) (hh : PySem.W.hasDictIn K C = true)
    (hw : PySem.Within mA ns) (hsz : ns.length ≤ sizeLine)
    (h : ∀ h', ObjM h' x dx C (fun y => if y = name then some v else mA y) → Heap.SameBut dx s.heap h' → Q () { s with heap := h', toks := s.toks + 2 }) :
    wpAny (model prog w) A (setAttr (.ref x) name v) Q E s := by
  obtain ⟨od, J, hl⟩ := I.look
  refine PySem.W.set_plain X J hs (PySem.W.osa_open (s := { s with toks := s.toks + 1 }) (r := none) X J hp ht fun b => ?_)
  obtain ⟨cd, hc, hd'⟩ := PySem.W.any_some hh
  have hx : s.heap.get? x = some ⟨.ref C, some dx, .plain, #[]⟩ := I.obj
  refine wpAny_bind (wpAny_pure (wpAny_bind (wpAny_bind (wpAny_loadPart hx (wpAny_bind (PySem.W.Looks.here (s := { s with toks := s.toks + 1 }) (PySem.W.looks_clsIn X hc) ?_))))))
  rw [hd']
  refine wpAny_pure (a := some dx) (wpAny_bind (wpAny_pure (wpAny_bind ?_)))
  refine wpAny_nsSet1 (s := { s with toks := s.toks + 1 }) I.ns fun h' hn2 hs2 => ?_
  obtain ⟨oD, esD, epD, hoD, hdD, hcD⟩ := hn2.count (PySem.Within.cons name v hw)
  refine wpAny_bind (wpAny_lookBehind hoD (by rw [hdD]; exact pastItsLine_dict (Nat.le_trans hcD (by rw [List.length_cons]; (first | lia | omega)))) ?_)
  exact wpAny_pure (h _ ⟨(hs2.2 _ (Ne.symm I.ne)).trans I.obj, hn2, I.ne⟩ hs2)

theorem make_map {R : Result → Shared → Prop} {vs : List Value} {kw : List (Str × Value)} (X : K.In s.heap) (hm : PySem.W.makesIn K C = true)
    (hi : PySem.W.findIn K (.ref C) "__init__" = some (some (.ref f))) (hf : PySem.W.typeIn K (.ref f) = some (.type "function"))
    (h : codeAny (model prog w) (A.under (.builtin "type.__call__" ⟨.ref C :: vs, kw⟩)) (.call (.ref f) ⟨.ref (s.heap.objs.size + 1) :: vs, kw⟩) (PySem.W.InitBack (s.heap.objs.size + 1) R)
      { s with heap := (s.heap.push PySem.W.emptyDict).push (PySem.W.instObj C s.heap.objs.size) }) :
    codeAny (model prog w) A (.call (.ref C) ⟨vs, kw⟩) R s := by
  obtain ⟨hh, g, d, t, os⟩ := s
  exact PySem.W.make_core (PySem.W.makes_of X hm) (PySem.W.looks_findIn X hi) (fun self => PySem.W.bind_fn X self hf) (.inl rfl) h
end

def putF (f : Str) (v : V) : List (Str × V) → List (Str × V)
  | [] => [(f, v)]
  | (g, x) :: r => if g = f then (g, v) :: r else (g, x) :: putF f v r
theorem lookup_putF (f g : Str) (v : V) : ∀ fs : List (Str × V), (putF f v fs).lookup g = if g = f then some v else fs.lookup g
  | [] => by
    show List.lookup g [(f, v)] = _
    by_cases h : g = f
    · have hb : (g == f) = true := beq_iff_eq.mpr h
      simp only [List.lookup, hb, if_pos h]
    · have hb : (g == f) = false := beq_eq_false_iff_ne.mpr h
      simp only [List.lookup, hb, if_neg h]
  | (k, x) :: r => by
    have ih := lookup_putF f g v r
    rw [show putF f v ((k, x) :: r) = (if k = f then (k, v) :: r else (k, x) :: putF f v r) from rfl]
    by_cases hk : k = f
    · rw [if_pos hk]
      by_cases h : g = k
      · have hb : (g == k) = true := beq_iff_eq.mpr h
        simp only [List.lookup, hb, if_pos (h.trans hk)]
      · have hb : (g == k) = false := beq_eq_false_iff_ne.mpr h
        simp only [List.lookup, hb, if_neg (fun e : g = f => h (e.trans hk.symm))]
    · rw [if_neg hk]
      by_cases h : g = k
      · have hb : (g == k) = true := beq_iff_eq.mpr h
        simp only [List.lookup, hb, if_neg (fun e : g = f => hk (h.symm.trans e))]
      · have hb : (g == k) = false := beq_eq_false_iff_ne.mpr h
        simp only [List.lookup, hb]
        exact ih
theorem keys_putF (f : Str) (v : V) : ∀ fs : List (Str × V), f ∈ (putF f v fs).map (·.1) ∧ ∀ g, g ∈ fs.map (·.1) → g ∈ (putF f v fs).map (·.1)
  | [] => ⟨by simp [putF], fun g h => by simp at h⟩
  | (k, x) :: r => by
    obtain ⟨i1, i2⟩ := keys_putF f v r
    rw [show putF f v ((k, x) :: r) = (if k = f then (k, v) :: r else (k, x) :: putF f v r) from rfl]
    by_cases hk : k = f
    · rw [if_pos hk]
      subst hk
      exact ⟨by simp, fun g h => by simpa using h⟩
    · rw [if_neg hk]
      refine ⟨?_, fun g h => ?_⟩
      · rw [List.map_cons]
        exact List.mem_cons_of_mem _ i1
      · rw [List.map_cons] at h ⊢
        rcases List.mem_cons.mp h with e | e
        · exact List.mem_cons.mpr (.inl e)
        · exact List.mem_cons_of_mem _ (i2 g e)
theorem length_putF (f : Str) (v : V) : ∀ fs : List (Str × V), (putF f v fs).length ≤ fs.length + 1
  | [] => by simp [putF]
  | (k, x) :: r => by
    have ih := length_putF f v r
    rw [show putF f v ((k, x) :: r) = (if k = f then (k, v) :: r else (k, x) :: putF f v r) from rfl]
    by_cases hk : k = f
    · rw [if_pos hk, List.length_cons, List.length_cons]; (first | lia | omega)
    · rw [if_neg hk, List.length_cons, List.length_cons]; (first | lia | omega)

theorem RelO.some_of {v : V} {o : Option Value} (r : RelO (some v) o) : ∃ u, o = some u ∧ RelV v u := by
  cases o with
  | none => exact (show False from r).elim
  | some u => exact ⟨u, rfl, r⟩
theorem RelO.none_of {o : Option Value} (r : RelO none o) : o = none := by
  cases o with
  | none => rfl
  | some u => exact (show False from r).elim
theorem handed_of {v : V} {u : Value} (r : RelV v u) : PySem.W.handedIn u = true := by
  cases v with
  | non => cases (show u = Value.none from r); rfl
  | bl b => cases (show u = Value.bool b from r); rfl
  | int i => obtain ⟨t, e⟩ := (show ∃ t, u = Value.int i t from r); cases e; rfl
  | str x => obtain ⟨t, e⟩ := (show ∃ t, u = Value.str x t from r); cases e; rfl
  | byt b => obtain ⟨t, e⟩ := (show ∃ t, u = Value.bytes b t from r); cases e; rfl
  | flt b => obtain ⟨t, e⟩ := (show ∃ t, u = Value.float b t from r); cases e; rfl
  | ref a => cases (show u = Value.ref a from r); rfl
  | ty n => cases (show u = Value.type n from r); rfl

section
variable {P : Program} {w : World} {H H' : Hp} {h h' : Heap} {a C dx : Addr} {fs fs' : List (Str × V)}
theorem ins_get (hok : HOk P w H h) (e : H a = some (.ins C dx fs)) : ∃ mA, ObjM h a dx C mA ∧ (∀ f, RelO (fs.lookup f) (mA f)) ∧ PySem.Within mA (fs.map (·.1)) ∧ fs.length ≤ 1000 ∧ H dx = some (.own a) := by
  obtain ⟨d, z, ne, ob, mA, n, r, q⟩ := (show ObjOk P w H h a (.ins C dx fs) from hok a _ e)
  exact ⟨mA, ⟨ob, n, ne⟩, r, q, z, d⟩
end

structure Cls (K : PySem.W.Frag) (C : Addr) : Prop where
  pg : PySem.W.plainGet K C Str.empty = true
  hd : PySem.W.hasDictIn K C = true
  po : PySem.W.plainOver K C = true
  sa : PySem.W.findIn K (.ref C) "__setattr__" = some (some (.builtin "object.__setattr__"))
theorem Cls.get {K : PySem.W.Frag} {C : Addr} (c : Cls K C) (f : Str) : PySem.W.plainGet K C f = true := c.pg
def NoAttr (K : PySem.W.Frag) (C : Addr) (f : Str) : Prop := PySem.W.findIn K (.ref C) f = some none
theorem NoAttr.taker {K : PySem.W.Frag} {C : Addr} {f : Str} (n : NoAttr K C f) : PySem.W.takerIn K C f = some none := by
  unfold PySem.W.takerIn
  rw [show PySem.W.findIn K (.ref C) f = some none from n]
  rfl
structure Meth (K : PySem.W.Frag) (C : Addr) (m : Str) (f : Addr) : Prop where
  at_ : PySem.W.findIn K (.ref C) m = some (some (.ref f))
  fn : PySem.W.isFn K (.ref f) = true
  kp : PySem.W.keepIn K (.ref f) = true

section
variable {X : Cx} {pins : List (Addr × Obj)} {σ : St} {H : Hp} {s : Shared} {a C dx : Addr} {fs : List (Str × V)} {f : Str} {v : V} {A : Around} {E : Value → Shared → Prop}

theorem getattr_ok {b : Bool} {Q : Value → Shared → Prop} (I : Inv X pins σ H s) (e : H a = some (.ins C dx fs)) (c : Cls X.K C) (n : NoAttr X.K C f) (l : fs.lookup f = some v)
    (h : ∀ u s', Inv X pins σ H s' → RelV v u → Q u s') : wpAny (model X.prog X.w) A (getAttr (.ref a) f b) Q E s := by
  obtain ⟨mA, O, r, _, _, _⟩ := ins_get I.hok e
  obtain ⟨u, hu, ru⟩ := RelO.some_of (v := v) (o := mA f) (by rw [← l]; exact r f)
  exact get_map I.kIn O (c.get f) c.hd n hu (handed_of ru) (h u _ (I.tok _) ru)

theorem getmeth_ok {m : Str} {g : Addr} {pl : Sem Bool} {Q : Value × List Value → Shared → Prop} (I : Inv X pins σ H s) (e : H a = some (.ins C dx fs)) (c : Cls X.K C) (k : Meth X.K C m g) (l : fs.lookup m = none)
    (h : Q (.ref g, [.ref a]) s) : wpAny (model X.prog X.w) A (getMethod (.ref a) m pl) Q E s := by
  obtain ⟨mA, O, r, _, _, _⟩ := ins_get I.hok e
  have hn : mA m = none := RelO.none_of (by rw [← l]; exact r m)
  exact get_meth I.kIn O (c.get m) k.at_ k.fn hn h

theorem setattr_ok {y : V} {u : Value} {Q : Unit → Shared → Prop} (I : Inv X pins σ H s) (e : H a = some (.ins C dx fs)) (c : Cls X.K C) (n : NoAttr X.K C f) (hl : fs.length < 1000) (ry : RelV y u)
    (h : ∀ s', Inv X pins σ (upd H a (.ins C dx (putF f y fs))) s' → Q () s') : wpAny (model X.prog X.w) A (setAttr (.ref a) f u) Q E s := by
  obtain ⟨mA, O, r, wi, _, ho⟩ := ins_get I.hok e
  have hz : (fs.map (·.1)).length ≤ sizeLine := by rw [List.length_map, sizeLine_eq]; (first | lia | omega)
  refine set_map I.kIn O c.sa c.po n.taker c.hd wi hz fun h' O' sb => h _ ?_
  have hd : ∃ o, h'.get? dx = some o := let ⟨o, _, _, e', _⟩ := O'.ns; ⟨o, e'⟩
  refine I.write (x := a) (e := dx) (by rw [e]; exact True.intro) (.inr ho) (fun b q hb z => (sb.2 b hb).trans z) hd ?_
  refine ⟨by rw [upd_ne O.ne]; exact ho, ?_, O.ne, O'.obj, _, O'.ns, fun g => ?_, fun g hg => ?_⟩
  · have := length_putF f y fs; (first | lia | omega)
  · show RelO ((putF f y fs).lookup g) (if g = f then some u else mA g)
    rw [lookup_putF]
    by_cases q : g = f
    · rw [if_pos q, if_pos q]; exact ry
    · rw [if_neg q, if_neg q]; exact r g
  · by_cases q : g = f
    · rw [q]; exact (keys_putF f y fs).1
    · refine (keys_putF f y fs).2 g (wi g fun z => hg ?_)
      show (if g = f then some u else mA g) = none
      rw [if_neg q]; exact z

theorem Inv.made (I : Inv X pins σ H s) : Inv X pins σ (upd (upd H s.heap.objs.size (.own (s.heap.objs.size + 1))) (s.heap.objs.size + 1) (.ins C s.heap.objs.size []))
    { s with heap := (s.heap.push PySem.W.emptyDict).push (PySem.W.instObj C s.heap.objs.size) } := by
  have e1 : (s.heap.push PySem.W.emptyDict).get? s.heap.objs.size = some PySem.W.emptyDict := Heap.get?_push_size s.heap rfl
  have e2 : ((s.heap.push PySem.W.emptyDict).push (PySem.W.instObj C s.heap.objs.size)).get? (s.heap.objs.size + 1) = some (PySem.W.instObj C s.heap.objs.size) := by
    have := Heap.get?_push_size (s.heap.push PySem.W.emptyDict) (o := PySem.W.instObj C s.heap.objs.size) rfl
    rwa [Heap.size_push] at this
  have e3 : (s.heap.push PySem.W.emptyDict).Ns s.heap.objs.size (fun _ => none) := ⟨PySem.W.emptyDict, #[], _, e1, rfl, (fun e he => absurd he (by simp)), fun _ => rfl⟩
  have I1 := I.laid (a := s.heap.objs.size) (o := .own (s.heap.objs.size + 1)) (h' := s.heap.push PySem.W.emptyDict) (t' := s.toks) (fun b u q => Heap.get?_push_of_some _ q) (Nat.le_refl _) ⟨_, e1⟩
  refine I1.laid (a := s.heap.objs.size + 1) (o := .ins C s.heap.objs.size []) (t' := s.toks) (fun b u q => Heap.get?_push_of_some _ q) (Nat.le_of_eq (Heap.size_push _ _)) ?_
  have ne : s.heap.objs.size ≠ s.heap.objs.size + 1 := Nat.ne_of_lt (Nat.lt_succ_self _)
  refine ⟨by rw [upd_ne ne, upd_same], Nat.zero_le _, ne, e2, fun _ => none, (Heap.Ns1.of_empty e3).at fun o q => Heap.get?_push_of_some _ q, fun _ => True.intro, fun y hy => absurd rfl hy⟩

theorem attr_of {prog : Program} {w : World} {env : Env} {e : Expr} {f : Str} {pos : Pos} {s : Shared} {Q : Value → Shared → Prop} (hb : attributeBase e f env (eval e env) = eval e env)
    (h : wpAny (model prog w) A (eval e env) (fun o s₁ => wpAny (model prog w) A (getAttr o f true) Q E s₁) E s) : wpAny (model prog w) A (eval (.Attribute e f pos) env) Q E s :=
  Attribute_any_ h (by rw [arm_eval_Attribute, hb])
end

def tFld (K : PySem.W.Frag) (ta : TE) (f : Str) : TE := fun σ H Q => ta σ H fun x H1 => ∃ a C dx fs v, x = .ref a ∧ H1 a = some (.ins C dx fs) ∧ Cls K C ∧ NoAttr K C f ∧ fs.lookup f = some v ∧ Q v H1
def sFld (K : PySem.W.Frag) (ta tv : TE) (f : Str) : TS := fun D σ H => tv σ H fun y H1 => ta σ H1 fun x H2 => ∃ a C dx fs, x = .ref a ∧ H2 a = some (.ins C dx fs) ∧ Cls K C ∧ NoAttr K C f ∧ fs.length < 1000 ∧
  D.nx σ (upd H2 a (.ins C dx (putF f y fs)))
section
variable {X : Cx} {o e value : Expr} {f : Str} {pos pos' tpos : Pos} {ta tv : TE}
theorem pe_fld (he : PE X e ta) (hb : attributeBase e f X.env (eval e X.env) = eval e X.env) : PE X (.Attribute e f pos) (tFld X.K ta f) := by
  intro pins s σ H Q I h
  refine attr_of hb (thn (he pins s σ H _ I h) fun u s1 ⟨x, H1, I1, rx, a, C, dx, fs, v, ex, ea, c, n, l, q⟩ => ?_)
  subst ex
  obtain rfl : u = Value.ref a := rx
  exact getattr_ok I1 ea c n l fun u' s2 I2 ru => ⟨v, H1, I2, ru, q⟩
theorem ps_fld (ha : PE X o ta) (hv : PE X value tv) (hs : swapsWith value (some (.Attribute o f pos')) pos.line X.env = pure false) : PS X (.Assign [.Attribute o f pos'] value pos) (sFld X.K ta tv f) := by
  intro pins s σ H D I h
  refine plainObj_wpAny_Assign_Attribute (thn (hv pins s σ H _ I h) fun u s1 ⟨y, H1, I1, ry, q⟩ => thn (ha pins s1 σ H1 _ I1 q) fun ov s2 ⟨x, H2, I2, rx, a, C, dx, fs, ex, ea, c, n, l, q2⟩ => ?_) hs
  subst ex
  obtain rfl : ov = Value.ref a := rx
  exact setattr_ok I2 ea c n l ry fun s3 I3 => ⟨σ, _, I3, q2⟩
end

section
variable {X : Cx} {pins : List (Addr × Obj)} {σ : St} {H : Hp} {s : Shared} {A : Around} {E : Value → Shared → Prop} {Q : Value → Shared → Prop} {c : Value} {b : Bool}
inductive TyOf (K : PySem.W.Frag) (H : Hp) : V → Value → Prop where
  | non : TyOf K H .non (.type "NoneType")
  | bl (x : Bool) : TyOf K H (.bl x) (.type "bool")
  | int (i : Int) : TyOf K H (.int i) (.type "int")
  | str (x : Str) : TyOf K H (.str x) (.type "str")
  | flt (x : UInt64) : TyOf K H (.flt x) (.type "float")
  | lst {a : Addr} {xs : List V} (e : H a = some (.lst xs)) : TyOf K H (.ref a) (.type "list")
  | frz {a : Addr} {o : Obj} {xs : List V} (e : H a = some (.frz o (.lst xs))) : TyOf K H (.ref a) (.type "list")
  | tup {a : Addr} {xs : List V} (e : H a = some (.tup xs)) : TyOf K H (.ref a) (.type "tuple")
  | dK {a : Addr} {kvs : List (Key × V)} (e : H a = some (.dK kvs)) : TyOf K H (.ref a) (.type "dict")
  | dT {a : Addr} {kvs : List (List Key × V)} (e : H a = some (.dT kvs)) : TyOf K H (.ref a) (.type "dict")
  | ins {a C dx : Addr} {fs : List (Str × V)} (e : H a = some (.ins C dx fs)) (cl : Cls K C) (ha : PySem.W.findIn K (.ref C) "__class__" = some (some (.builtin "object.__class__")))
      (hn : PySem.W.specialIn K (.builtin "object.__class__") "__get__" = some (some (.builtin "getset_descriptor.__get__"))) (htk : PySem.W.takesIn K (.builtin "object.__class__") = some true)
      (hm : PySem.W.mroIn K C (.type "object") = some true) : TyOf K H (.ref a) (.ref C)
theorem isinst_ok {x : V} {u t : Value} (I : Inv X pins σ H s) (rx : RelV x u) (ty : TyOf X.K H x t) (e : PySem.W.kitOne X.K t c = some b) (h : ∀ tk, Q (.bool b) { s with toks := tk }) :
    wpAny (model X.prog X.w) A (call (.builtin "isinstance") [u, c]) Q E s := by
  cases ty with
  | non => cases (show u = Value.none from rx); exact PySem.W.kia_one PySem.W.kitx_none I.kIn True.intro e (fun z => nomatch z) h
  | bl y => cases (show u = Value.bool y from rx); exact PySem.W.kia_one PySem.W.kitx_bool I.kIn True.intro e (fun z => nomatch z) h
  | int i => obtain ⟨t, q⟩ := (show ∃ t, u = Value.int i t from rx); cases q; exact PySem.W.kia_one PySem.W.kitx_int I.kIn True.intro e (fun z => nomatch z) h
  | str y => obtain ⟨t, q⟩ := (show ∃ t, u = Value.str y t from rx); cases q; exact PySem.W.kia_one PySem.W.kitx_str I.kIn True.intro e (fun z => nomatch z) h
  | flt y => obtain ⟨t, q⟩ := (show ∃ t, u = Value.float y t from rx); cases q; exact PySem.W.kia_one PySem.W.kitx_float I.kIn True.intro e (fun z => nomatch z) h
  | @lst a xs ea =>
    cases (show u = Value.ref a from rx)
    obtain ⟨_, _, n, _, h1⟩ := (show ObjOk X.prog X.w H s.heap a (.lst xs) from I.hok a _ ea)
    exact PySem.W.kia_one PySem.W.kitx_list I.kIn ⟨_, h1, rfl⟩ e (fun z => nomatch z) h
  | @frz a ob xs ea =>
    cases (show u = Value.ref a from rx)
    obtain ⟨_, _, _, n, _, h1⟩ := (show ObjOk X.prog X.w H s.heap a (.frz ob (.lst xs)) from I.hok a _ ea)
    exact PySem.W.kia_one PySem.W.kitx_list I.kIn ⟨_, h1, rfl⟩ e (fun z => nomatch z) h
  | @tup a xs ea =>
    cases (show u = Value.ref a from rx)
    obtain ⟨_, _, _, p⟩ := (show ObjOk X.prog X.w H s.heap a (.tup xs) from I.hok a _ ea)
    obtain ⟨o, h1, h2, _⟩ := p
    exact PySem.W.kia_one PySem.W.kitx_tuple I.kIn ⟨o, h1, h2⟩ e (fun z => nomatch z) h
  | @dK a kvs ea =>
    cases (show u = Value.ref a from rx)
    obtain ⟨_, _, vs, _, p⟩ := (show ObjOk X.prog X.w H s.heap a (.dK kvs) from I.hok a _ ea)
    obtain ⟨o, es, ep, h1, h2, _⟩ := p
    exact PySem.W.kia_one PySem.W.kitx_dict I.kIn ⟨o, h1, h2.1⟩ e (fun z => nomatch z) h
  | @dT a kvs ea =>
    cases (show u = Value.ref a from rx)
    obtain ⟨_, _, xs, _, o, es, ep, h1, h2, _⟩ := (show ObjOk X.prog X.w H s.heap a (.dT kvs) from I.hok a _ ea)
    exact PySem.W.kia_one PySem.W.kitx_dict I.kIn ⟨o, h1, h2.1⟩ e (fun z => nomatch z) h
  | @ins a C dx fs ea cl ha hn htk hm =>
    cases (show u = Value.ref a from rx)
    obtain ⟨mA, O, _⟩ := ins_get I.hok ea
    obtain ⟨od, J, _⟩ := O.look
    exact PySem.W.kia_one (PySem.W.kitx_own (cl.get _) cl.hd ha hn htk hm) I.kIn J e (fun z => nomatch z) h
end
end L2

namespace L2
open PySem PySem.Spec PyProof.Rows

structure Room (k : Nat) (A : Around) : Prop where
  hd : A.handled = none
  dp : A.depth + 3 * k + 5 < recursionLimit
  un : A.units + 16 * k + 200 < cLine
theorem Room.mono {j k : Nat} {A : Around} (r : Room k A) (h : j ≤ k) : Room j A := ⟨r.hd, by have := r.dp; (first | lia | omega), by have := r.un; (first | lia | omega)⟩
theorem Room.deeper {k : Nat} {A : Around} (r : Room (k + 1) A) (env : Env) : Room k (A.deeper env) :=
  ⟨r.hd, by have := r.dp; show A.depth + 1 + 3 * k + 5 < _; (first | lia | omega), by have := r.un; show A.units + 3 + 16 * k + 200 < _; (first | lia | omega)⟩
theorem make_depth {A : Around} {C : Addr} {us : List Value} {kw : List (Str × Value)} : (A.under (.builtin "type.__call__" ⟨.ref C :: us, kw⟩)).depth = A.depth + 1 := by
  first | rfl | simp [Around.under, Code.weight, Code.isCreation, Code.isGuard, Code.isCaller, Code.frames, Code.isFrame, guardIds]
theorem make_units {A : Around} {C : Addr} {us : List Value} {kw : List (Str × Value)} : (A.under (.builtin "type.__call__" ⟨.ref C :: us, kw⟩)).units = A.units + 1 := by
  first | rfl | simp [Around.under, Code.cUnits, Code.frames, Code.isFrame]
theorem Room.make {k : Nat} {A : Around} (r : Room (k + 1) A) (C : Addr) (us : List Value) (kw : List (Str × Value)) : Room k (A.under (.builtin "type.__call__" ⟨.ref C :: us, kw⟩)) :=
  ⟨r.hd, by have := r.dp; rw [make_depth]; (first | lia | omega), by have := r.un; rw [make_units]; (first | lia | omega)⟩
theorem Room.depth {k : Nat} {A : Around} (r : Room k A) : A.depth < recursionLimit := by have := r.dp; (first | lia | omega)
theorem Room.units {k : Nat} {A : Around} (r : Room k A) : A.units + 64 < cLine := by have := r.un; (first | lia | omega)
def tNil : TA := fun _ H Q => Q [] H
def tCons (ta : TE) (tr : TA) : TA := fun σ H Q => ta σ H fun x H1 => tr σ H1 fun xs H2 => Q (x :: xs) H2
section
variable {X : Cx} {e : Expr} {es : List Expr} {te : TE} {t : TA} {pos : Pos}
theorem pa_nil : PA X [] tNil := fun _ _ _ _ H Q I h => Calls.spliced_nil ⟨[], H, I, .nil, h⟩
theorem pa_cons (ha : PE X e te) (hr : PA X es t) (hs : starEach (e :: es) X.env = (false, eval e X.env) :: starEach es X.env := by rfl) : PA X (e :: es) (tCons te t) := by
  intro pos pins s σ H Q I h
  rw [hs]
  show wpAny _ _ (spliced ((false, eval e X.env) :: backTo pos (starEach es X.env))) _ _ s
  refine Calls.spliced_cons (thn (ha pins s σ H _ I h) fun u s1 ⟨x, H1, I1, r1, q1⟩ => ?_)
  exact thn (hr pos pins s1 σ H1 _ I1 q1) fun us s2 ⟨xs, H2, I2, r2, q2⟩ => ⟨x :: xs, H2, I2, .cons r1 r2, q2⟩

def tTup (t : TA) : TE := fun σ H Q => t σ H fun xs H1 => xs.length ≤ sizeLine ∧ ∀ p, H1 p = none → Q (.ref p) (upd H1 p (.tup xs))
def tLst (t : TA) : TE := fun σ H Q => t σ H fun xs H1 => xs.length ≤ sizeLine ∧ ∀ p, H1 p = none → Q (.ref p) (upd H1 p (.lst xs))
theorem pe_tup {x1} (h : PA X es t) : PE X (.Tuple es x1 pos) (tTup t) := by
  intro pins s σ H Q I hq
  refine wpAny_Tuple_spliced (thn (h pos pins s σ H _ I hq) fun us s1 ⟨xs, H1, I1, r, z, q⟩ => ⟨by rw [← r.length]; exact z, ?_⟩)
  have hf : H1 s1.heap.objs.size = none := I1.hok.fresh (Nat.le_refl _)
  refine ⟨.ref s1.heap.objs.size, upd H1 s1.heap.objs.size (.tup xs), I1.laid (t' := s1.toks) (fun b u e => Heap.get?_push_of_some _ e) (Nat.le_refl _) ?_, rfl, q _ hf⟩
  exact ⟨z, us, r, ⟨_, Heap.get?_push_size _ rfl, rfl, _, rfl⟩⟩
theorem pe_lst (h : PA X es t) : PE X (.List es pos) (tLst t) := by
  intro pins s σ H Q I hq
  refine wpAny_List_spliced (thn (h pos pins s σ H _ I hq) fun us s1 ⟨xs, H1, I1, r, z, q⟩ => ⟨by rw [← r.length]; exact z, ?_⟩)
  have hf : H1 s1.heap.objs.size = none := I1.hok.fresh (Nat.le_refl _)
  refine ⟨.ref s1.heap.objs.size, upd H1 s1.heap.objs.size (.lst xs), I1.laid (t' := s1.toks) (fun b u e => Heap.get?_push_of_some _ e) (Nat.le_refl _) ?_, rfl, q _ hf⟩
  exact ⟨z, us, 0, r, Heap.get?_push_size _ rfl⟩
end

abbrev Sp := List V → Hp → VK → XK → Prop
abbrev CXT := List Env → Hp → Shared → XK → Value → Shared → Prop

structure Env0 (P : Program) (w : World) (K : PySem.W.Frag) (mg : Str → Option Value) (base : Heap) (A : Around) (outer : List Env) (s : Shared) (H : Hp) : Prop where
  frames : A.frames = some outer
  mod : Mod K mg base
  bs : ∀ b o, base.get? b = some o → s.heap.get? b = some o ∧ H b = none
  bsz : base.objs.size ≤ s.heap.objs.size
  funs : s.heap.FunFrames base outer
  frf : ∀ b ∈ frs outer, H b = none
  hok : HOk P w H s.heap
  bare : AllBare s.gens
def CE (outer : List Env) (P : Program) (w : World) (H : Hp) (s : Shared) (Q : VK) (u : Value) (s' : Shared) : Prop :=
  ∃ v H', s'.os = s.os ∧ AllBare s'.gens ∧ Un (frs outer) [] H H' s.heap s'.heap ∧ HOk P w H' s'.heap ∧ RelV v u ∧ Q v H'
def CR (CX : CXT) (outer : List Env) (P : Program) (w : World) (H : Hp) (s : Shared) (Q : VK) (E : XK) (r : Result) (s' : Shared) : Prop :=
  match r with
  | .ok (.ret u) => CE outer P w H s Q u s'
  | .ok _ => False
  | .error e => CX outer H s E e s'
structure FnOk (P : Program) (w : World) (K : PySem.W.Frag) (mg : Str → Option Value) (base : Heap) (CX : CXT) (k : Nat) (f : Addr) (fd : FuncData) (ps : List Str) (sp : Sp) : Prop where
  len : ∀ vs H Q E, sp vs H Q E → vs.length = ps.length
  run : ∀ (A : Around) (outer : List Env) (s : Shared) (H : Hp) (args : Args) (us : List Value) (vs : List V) (Q : VK) (E : XK), Room k A → Env0 P w K mg base A outer s H → BindsTo s fd args (ps.zip us) → Vals vs us → sp vs H Q E →
    codeAny (model P w) A (.call (.ref f) args) (CR CX outer P w H s Q E) s
theorem Env0.make {P : Program} {w : World} {K : PySem.W.Frag} {mg : Str → Option Value} {base : Heap} {A : Around} {outer : List Env} {s : Shared} {H : Hp} (e : Env0 P w K mg base A outer s H) (C : Addr) (us : List Value) (kw : List (Str × Value)) :
    Env0 P w K mg base (A.under (.builtin "type.__call__" ⟨.ref C :: us, kw⟩)) outer s H := ⟨by first | exact e.frames | (simpa [Around.under, Code.envs, Code.isFrame, pushEnvs] using e.frames), e.mod, e.bs, e.bsz, e.funs, e.frf, e.hok, e.bare⟩
section
variable {X : Cx} {pins : List (Addr × Obj)} {σ : St} {H : Hp} {s s' : Shared}
theorem Inv.env0 (I : Inv X pins σ H s) : Env0 X.prog X.w X.K X.mg X.base X.A X.stack s H :=
  ⟨I.ok.frames, I.ok.mod, I.bs, Nat.le_trans I.ok.bsz I.sz, I.stack, I.stkFree, I.hok, I.bare⟩
theorem Inv.after {Q : VK} {u : Value} (I : Inv X pins σ H s) (h : CE X.stack X.prog X.w H s Q u s') : EP X pins σ Q u s' := by
  obtain ⟨v, H', os, bare, un, hok, r, q⟩ := h
  obtain ⟨hh, g, d, t, os'⟩ := s'
  obtain rfl : os' = s.os := os
  exact ⟨v, H', I.call (h' := hh) (g' := g) (d' := d) (t' := t) (ch := []) un hok bare (fun b z => absurd z (by simp)), r, q⟩
end

def tCall (sp : Sp) (dvs : List V) (E : XK) (t : TA) : TE := fun σ H Q => t σ H fun vs H1 => sp (vs ++ dvs) H1 Q E
def tMeth (C : Addr) (m : Str) (sp : Sp) (dvs : List V) (E : XK) (ta : TE) (t : TA) : TE := fun σ H Q => ta σ H fun x H1 => ∃ a dx fs, x = .ref a ∧ H1 a = some (.ins C dx fs) ∧ fs.lookup m = none ∧
  t σ H1 fun vs H2 => sp (x :: (vs ++ dvs)) H2 Q E
def tMake (C : Addr) (sp : Sp) (dvs : List V) (E : XK) (t : TA) : TE := fun σ H Q => t σ H fun vs H1 => ∀ x dx, H1 x = none → H1 dx = none → dx ≠ x →
  sp (.ref x :: (vs ++ dvs)) (upd (upd H1 dx (.own x)) x (.ins C dx [])) (fun v H2 => v = .non ∧ Q (.ref x) H2) E

def Binds (K : PySem.W.Frag) (fd : FuncData) (ps : List Str) (ds : List Value) : Prop :=
  ∀ (s : Shared) (us : List Value), K.In s.heap → (us ++ ds).length = ps.length → BindsTo s fd ⟨us, []⟩ (ps.zip (us ++ ds))
theorem Binds.all {K : PySem.W.Frag} {fd : FuncData} {ps : List Str} (h : ∀ us : List Value, us.length = ps.length → bindArgs fd ⟨us, []⟩ = pure (ps.zip us)) : Binds K fd ps [] := fun s us _ hl => by
  rw [List.append_nil] at hl ⊢
  exact .of_eq (h us hl)

def Passes (CX : CXT) (X : Cx) (E : XK) : Prop := ∀ (pins : List (Addr × Obj)) (σ : St) (H : Hp) (s : Shared) (e : Value) (s' : Shared), Inv X pins σ H s → CX X.stack H s E e s' → X.xe e s'

section
variable {X : Cx} {CX : CXT} {k : Nat} {f C : Addr} {fd : FuncData} {ps : List Str} {sp : Sp} {dvs : List V} {ds : List Value} {E : XK} {x m : Str} {p pos apos : Pos} {e o : Expr} {es : List Expr} {ta : TE} {t : TA}

theorem run_fn {pins : List (Addr × Obj)} {σ : St} {H : Hp} {s : Shared} {Q : VK} {us : List Value} {vs : List V} (F : FnOk X.prog X.w X.K X.mg X.base CX k f fd ps sp) (hr : Room k X.A) (hb : Binds X.K fd ps ds) (hd : Vals dvs ds) (hx : Passes CX X E)
    (I : Inv X pins σ H s) (r : Vals vs us) (h : sp (vs ++ dvs) H Q E) : wpAny (model X.prog X.w) X.A (call (.ref f) us) (EP X pins σ Q) X.xe s := by
  have r2 : Vals (vs ++ dvs) (us ++ ds) := r.append hd
  have hl : (us ++ ds).length = ps.length := by rw [← r2.length]; exact F.len _ _ _ _ h
  refine wpAny_call (codeAny_mono (F.run X.A X.stack s H ⟨us, []⟩ (us ++ ds) (vs ++ dvs) Q E hr I.env0 (hb s us I.kIn hl) r2 h) fun r s' hq => ?_)
  cases r with
  | error e => exact hx pins σ H s e s' I hq
  | ok fl =>
    cases fl with
    | ret u => exact I.after hq
    | next => exact False.elim hq
    | brk => exact False.elim hq
    | cont => exact False.elim hq

theorem pe_call (F : FnOk X.prog X.w X.K X.mg X.base CX k f fd ps sp) (hr : Room k X.A) (hg : Gl X x) (hm : X.mg x = some (.ref f)) (hk : PySem.W.keepIn X.K (.ref f) = true) (hb : Binds X.K fd ps ds) (hd : Vals dvs ds) (hx : Passes CX X E)
    (ha : PA X (e :: es) t) (hdb : (x == ("__debug__" : Str)) = false := by decide) (he : starEach (e :: es) X.env = (false, eval e X.env) :: starEach es X.env := by rfl) (hpl : (backTo pos (starEach es X.env)).any (·.1) = false := by rfl) :
    PE X (.Call (.Name x p) (e :: es) [] pos) (tCall sp dvs E t) := by
  intro pins s σ H Q I h
  refine wpAny_Call_Name_kw (ld_glob I hg hm ?_ hdb)
  refine PySem.W.callWith_K (h₀ := X.base) I.ok.mod.kin hk (thn (ha pos pins s σ H _ I h) fun us s1 ⟨vs, H1, I1, r, q⟩ => ⟨I1.kIn, ?_⟩) he hpl
  exact run_fn F hr hb hd hx I1 r q
theorem pe_meth {pl : Sem Bool} (he : PE X o ta) (c : Cls X.K C) (hm : Meth X.K C m f) (F : FnOk X.prog X.w X.K X.mg X.base CX k f fd ps sp) (hr : Room k X.A) (hb : Binds X.K fd ps ds) (hd : Vals dvs ds) (hx : Passes CX X E) (ha : PA X (e :: es) t)
    (hst : starEach (e :: es) X.env = (false, eval e X.env) :: starEach es X.env := by rfl) (hpl : (backTo pos (starEach es X.env)).any (·.1) = false := by rfl)
    (ht : eval (.Call (.Attribute o m apos) (e :: es) [] pos) X.env = (do
      let ov ← eval o X.env
      standAt apos.atName
      let (f, first) ← holding [ov] (getMethod ov m pl)
      callWith pos f first (backTo pos (starEach (e :: es) X.env)) (backToKw pos (keywordEach [] X.env))) := by rfl) :
    PE X (.Call (.Attribute o m apos) (e :: es) [] pos) (tMeth C m sp dvs E ta t) := by
  intro pins s σ H Q I h
  refine PySem.W.methodCall_KW (pl := pl) (thn (he pins s σ H _ I h) fun u s1 ⟨x, H1, I1, rx, a, dx, fs, ex, ea, l, q⟩ => ?_) ht
  subst ex
  obtain rfl : u = Value.ref a := rx
  refine getmeth_ok I1 ea c hm l ?_
  refine PySem.W.callWith_K (first := [.ref a]) (h₀ := X.base) I.ok.mod.kin hm.kp (thn (ha pos pins s1 σ H1 _ I1 q) fun us s2 ⟨vs, H2, I2, r, q2⟩ => ⟨I2.kIn, ?_⟩) hst hpl
  exact run_fn (us := .ref a :: us) (vs := .ref a :: vs) F hr hb hd hx I2 (.cons rfl r) q2
theorem pe_meth0 {pl : Sem Bool} (he : PE X o ta) (c : Cls X.K C) (hm : Meth X.K C m f) (F : FnOk X.prog X.w X.K X.mg X.base CX k f fd ps sp) (hr : Room k X.A) (hb : Binds X.K fd ps ds) (hd : Vals dvs ds) (hx : Passes CX X E)
    (ht : eval (.Call (.Attribute o m apos) [] [] pos) X.env = (do
      let ov ← eval o X.env
      standAt apos.atName
      let (f, first) ← holding [ov] (getMethod ov m pl)
      callWith pos f first (backTo pos (starEach [] X.env)) (backToKw pos (keywordEach [] X.env))) := by rfl) :
    PE X (.Call (.Attribute o m apos) [] [] pos) (tMeth C m sp dvs E ta tNil) := by
  intro pins s σ H Q I h
  refine PySem.W.methodCall_KW (pl := pl) (thn (he pins s σ H _ I h) fun u s1 ⟨x, H1, I1, rx, a, dx, fs, ex, ea, l, q⟩ => ?_) ht
  subst ex
  obtain rfl : u = Value.ref a := rx
  refine getmeth_ok I1 ea c hm l ?_
  exact PySem.W.callWith_K0 (first := [.ref a]) I1.kIn hm.kp (run_fn (us := [.ref a]) (vs := [.ref a]) F hr hb hd hx I1 (.cons rfl .nil) q)

structure Mk (K : PySem.W.Frag) (C f : Addr) : Prop where
  makes : PySem.W.makesIn K C = true
  init : PySem.W.findIn K (.ref C) "__init__" = some (some (.ref f))
  fn : PySem.W.isFn K (.ref f) = true
  kp : PySem.W.keepIn K (.ref C) = true

theorem run_make {pins : List (Addr × Obj)} {σ : St} {H : Hp} {s : Shared} {Q : VK} {us : List Value} {vs : List V} (M : Mk X.K C f) (F : FnOk X.prog X.w X.K X.mg X.base CX k f fd ps sp) (hr : Room (k + 1) X.A) (hb : Binds X.K fd ps ds) (hd : Vals dvs ds)
    (hx : Passes CX X E) (I : Inv X pins σ H s) (r : Vals vs us)
    (h : ∀ x dx, H x = none → H dx = none → dx ≠ x → sp (.ref x :: (vs ++ dvs)) (upd (upd H dx (.own x)) x (.ins C dx [])) (fun v H2 => v = .non ∧ Q (.ref x) H2) E) :
    wpAny (model X.prog X.w) X.A (call (.ref C) us) (EP X pins σ Q) X.xe s := by
  have hq := h (s.heap.objs.size + 1) s.heap.objs.size (I.hok.fresh (Nat.le_succ _)) (I.hok.fresh (Nat.le_refl _)) (Nat.ne_of_lt (Nat.lt_succ_self _))
  have I2 := Inv.made (C := C) I
  have r2 : Vals (V.ref (s.heap.objs.size + 1) :: (vs ++ dvs)) (Value.ref (s.heap.objs.size + 1) :: (us ++ ds)) := .cons rfl (r.append hd)
  have hl : (Value.ref (s.heap.objs.size + 1) :: us ++ ds).length = ps.length := by
    have e := r2.length
    rw [F.len _ _ _ _ hq] at e
    exact e.symm
  refine wpAny_call (make_map (f := f) I.kIn M.makes M.init (beq_iff_eq.mp M.fn) (codeAny_mono (F.run _ X.stack _ _ ⟨Value.ref (s.heap.objs.size + 1) :: us, []⟩ (Value.ref (s.heap.objs.size + 1) :: (us ++ ds)) _ _ E (hr.make C us [])
    (I2.env0.make C us []) (hb _ (Value.ref (s.heap.objs.size + 1) :: us) I2.kIn hl) r2 hq) fun r s' hq' => ?_))
  cases r with
  | error e => exact hx pins σ _ _ e s' I2 hq'
  | ok fl =>
    cases fl with
    | ret u =>
      obtain ⟨v, H', I3, rv, ev, q3⟩ := I2.after hq'
      subst ev
      exact ⟨rv, ⟨V.ref (s.heap.objs.size + 1), H', I3, rfl, q3⟩⟩
    | next => exact False.elim hq'
    | brk => exact False.elim hq'
    | cont => exact False.elim hq'
theorem pe_make (M : Mk X.K C f) (F : FnOk X.prog X.w X.K X.mg X.base CX k f fd ps sp) (hr : Room (k + 1) X.A) (hg : Gl X x) (hm : X.mg x = some (.ref C)) (hb : Binds X.K fd ps ds) (hd : Vals dvs ds) (hx : Passes CX X E)
    (ha : PA X (e :: es) t) (hdb : (x == ("__debug__" : Str)) = false := by decide) (he : starEach (e :: es) X.env = (false, eval e X.env) :: starEach es X.env := by rfl) (hpl : (backTo pos (starEach es X.env)).any (·.1) = false := by rfl) :
    PE X (.Call (.Name x p) (e :: es) [] pos) (tMake C sp dvs E t) := by
  intro pins s σ H Q I h
  refine wpAny_Call_Name_kw (ld_glob I hg hm ?_ hdb)
  refine PySem.W.callWith_K (h₀ := X.base) I.ok.mod.kin M.kp (thn (ha pos pins s σ H _ I h) fun us s1 ⟨vs, H1, I1, r, q⟩ => ⟨I1.kIn, ?_⟩) he hpl
  exact run_make M F hr hb hd hx I1 r q
end

section
variable {X : Cx} {CX : CXT} {k : Nat} {f C : Addr} {fd : FuncData} {ps ks : List Str} {sp : Sp} {E : XK} {x m : Str} {p pos apos kpos : Pos} {e o : Expr} {es : List Expr} {kws : List Keyword} {te ta : TE} {t tk : TA} {nm : Option Str}
variable {g : List Value → List Value → List Value} {gV : List V → List V → List V}
end

structure FnScope (N P : List Str) (sc : Scope) : Prop where
  kind : sc.kind = .function
  co : sc.isCoroutine = false
  gen : sc.isGenerator = false
  nd : N.Nodup
  pre : N.take P.length = P
  par : ∀ x ∈ P, sc.names.lookup x = some .local ∨ sc.names.lookup x = some .cell
  nofree : ∀ y ∈ sc.names, y.2 ≠ .free

theorem bindL_out {kindOf : Str → Option NameKind} {x : Str} : ∀ {binds : List (Str × Value)} {m : Str → Option Value}, (∀ v, (x, v) ∉ binds) → bindL kindOf binds m x = m x
  | [], _, _ => rfl
  | (n, v) :: r, m, h => by
    unfold bindL
    rw [bindL_out fun w hw => h w (List.mem_cons_of_mem _ hw)]
    split
    · have : x ≠ n := by rintro rfl; exact h v List.mem_cons_self
      simp [this]
    · rfl
theorem bindC_out {kindOf : Str → Option NameKind} {x : Str} : ∀ {binds : List (Str × Value)} {m : Str → Option Value}, (∀ v, (x, v) ∉ binds) → bindC kindOf binds m x = m x
  | [], _, _ => rfl
  | (n, v) :: r, m, h => by
    unfold bindC
    rw [bindC_out fun w hw => h w (List.mem_cons_of_mem _ hw)]
    split
    · rfl
    · have : x ≠ n := by rintro rfl; exact h v List.mem_cons_self
      simp [this]
theorem bindL_get {kindOf : Str → Option NameKind} {x : Str} {v : Value} : ∀ {P : List Str} {vs : List Value} {i : Nat} {m : Str → Option Value}, P.Nodup → P[i]? = some x → vs[i]? = some v → kindOf x = some .local →
    bindL kindOf (P.zip vs) m x = some v
  | [], _, _, _, _, h, _, _ => by simp at h
  | _ :: _, [], _, _, _, _, h, _ => by simp at h
  | p :: P, w :: vs, 0, m, nd, h1, h2, hk => by
    simp at h1 h2; subst h1; subst h2
    show bindL kindOf ((p, w) :: P.zip vs) m p = _
    unfold bindL
    rw [bindL_out fun v hv => (List.nodup_cons.mp nd).1 (List.of_mem_zip hv).1, if_pos hk]
    simp
  | p :: P, w :: vs, i + 1, m, nd, h1, h2, hk => by
    show bindL kindOf ((p, w) :: P.zip vs) m x = _
    unfold bindL
    exact bindL_get (i := i) (List.nodup_cons.mp nd).2 (by simpa using h1) (by simpa using h2) hk
theorem bindC_get {kindOf : Str → Option NameKind} {x : Str} {v : Value} : ∀ {P : List Str} {vs : List Value} {i : Nat} {m : Str → Option Value}, P.Nodup → P[i]? = some x → vs[i]? = some v → kindOf x ≠ some .local →
    bindC kindOf (P.zip vs) m x = some v
  | [], _, _, _, _, h, _, _ => by simp at h
  | _ :: _, [], _, _, _, _, h, _ => by simp at h
  | p :: P, w :: vs, 0, m, nd, h1, h2, hk => by
    simp at h1 h2; subst h1; subst h2
    show bindC kindOf ((p, w) :: P.zip vs) m p = _
    unfold bindC
    rw [bindC_out fun v hv => (List.nodup_cons.mp nd).1 (List.of_mem_zip hv).1, if_neg hk]
    simp
  | p :: P, w :: vs, i + 1, m, nd, h1, h2, hk => by
    show bindC kindOf ((p, w) :: P.zip vs) m x = _
    unfold bindC
    exact bindC_get (i := i) (List.nodup_cons.mp nd).2 (by simpa using h1) (by simpa using h2) hk

def start (N : List Str) (vs : List V) : St := vs.map some ++ List.replicate (N.length - vs.length) none

def cxOf (CX : CXT) (P : Program) (w : World) (K : PySem.W.Frag) (mg : Str → Option Value) (base : Heap) (N : List Str) (qual : Str) (scope : Scope) (f : Addr) (cd : Value) (A : Around) (outer : List Env) (s : Shared) (H : Hp) (E : XK) : Cx where
  prog := P
  w := w
  K := K
  mg := mg
  base := base
  A := A.deeper (envOfC qual scope s.heap.objs.size f cd)
  N := N
  s₀ := s
  H₀ := H
  env := envOfC qual scope s.heap.objs.size f cd
  outer := outer
  stack := envOfC qual scope s.heap.objs.size f cd :: outer
  ex := []
  calm := true
  fn := fun _ => true
  pn := []
  xe := fun e s' => wpAny (model P w) (A.deeper (envOfC qual scope s.heap.objs.size f cd)) (leaving (envOfC qual scope s.heap.objs.size f cd) e) (fun _ s'' => CX outer H s E e s'') (fun e' s'' => CX outer H s E e' s'') s'

theorem cell_has {sc : Scope} {n : Nat} {x : Str} (h : sc.names.lookup x = some .cell) : ∃ c, (cellsFrom n sc.names []).lookup x = some c := by
  have q := PySem.W.cellsFrom_some sc.names n [] (.inl h)
  exact Option.isSome_iff_exists.mp q

theorem inv_start {CX : CXT} {P : Program} {w : World} {K : PySem.W.Frag} {mg : Str → Option Value} {base : Heap} {N ps : List Str} {qual : Str} {scope : Scope} {f : Addr} {cd : Value} {A : Around} {outer : List Env} {s s1 : Shared} {H : Hp} {E : XK} {us : List Value} {vs : List V}
    (S : FnScope N ps scope) (hd : A.handled = none) (e0 : Env0 P w K mg base A outer s H) (hl : vs.length = ps.length) (r : Vals vs us)
    (x : InCallC s s.heap.objs.size (bindL (envOfC qual scope s.heap.objs.size f cd).kindOf (ps.zip us) fun _ => none) (cellsFrom (s.heap.objs.size + 1) scope.names []) (bindC (envOfC qual scope s.heap.objs.size f cd).kindOf (ps.zip us) fun _ => none) s1) :
    Inv (cxOf CX P w K mg base N qual scope f cd A outer s H E) [] (start N vs) H s1 := by
  have hpl : ps.length ≤ N.length := by have := congrArg List.length S.pre; rw [List.length_take] at this; (first | lia | omega)
  obtain ⟨h1, tk, rfl, hk⟩ := x.done
  have noA : ∀ b : Addr, b ∉ (cxOf CX P w K mg base N qual scope f cd A outer s H E).ex := fun b z => absurd (show b ∈ ([] : List Addr) from z) (by simp)
  refine ⟨⟨e0.mod, S.kind, rfl, rfl, Nat.le_refl _, fun y z c h1 h2 => ?_, fun y hy => ?_, fun y c _ h => ?_, fun _ => hd, Around.frames_deeper e0.frames, .inr ⟨rfl, rfl⟩, fun b z => absurd z (noA b), e0.bs, e0.bsz, fun b _ _ => noA b, fun b z => absurd z (noA b), e0.funs, e0.frf⟩,
    rfl, e0.bare, Un.kept hk, ⟨_, x.toInCall.ns, fun i y v h1 h2 h3 => ?_⟩, fun y c h => ⟨_, x.cell y c h⟩, e0.hok.fresh (Nat.le_refl _), fun y c h => ?_, fun p hp => absurd (show p ∈ ([] : List (Addr × Obj)) from hp) (by simp), e0.hok.kept hk, ?_⟩
  · exact name_of_addr x.apart (PySem.mem_of_lookup h1) (PySem.mem_of_lookup h2)
  · have hy : scope.names.lookup y = some .cell ∨ scope.names.lookup y = some .free := hy
    rcases hy with hy | hy
    · exact cell_has hy
    · exact absurd rfl (S.nofree _ (PySem.mem_of_lookup hy))
  · exact Nat.le_of_lt (x.above y c (PySem.mem_of_lookup h))
  · have hi : i < vs.length := by
      unfold start at h2
      by_cases hi : i < vs.length
      · exact hi
      · rw [List.getElem?_append_right (by simpa using hi)] at h2
        rw [List.getElem?_replicate] at h2
        split at h2 <;> cases h2
    have ha : vs[i]? = some v := by
      unfold start at h2
      rw [List.getElem?_append_left (by simpa using hi), List.getElem?_map] at h2
      cases e : vs[i]? with
      | none => rw [e] at h2; cases h2
      | some a => rw [e] at h2; cases h2; rfl
    obtain ⟨u, hu, rv⟩ := r.get ha
    have hp : ps[i]? = some y := by
      rw [← S.pre, List.getElem?_take_of_lt (by (first | lia | omega))]; exact h1
    have ndP : ps.Nodup := by rw [← S.pre]; exact S.nd.sublist (List.take_sublist _ _)
    refine ⟨u, rv, ?_⟩
    rcases S.par y (List.mem_of_getElem? hp) with k | k
    · exact .inl ⟨k, bindL_get ndP hp hu k⟩
    · obtain ⟨c, e⟩ := cell_has (n := s.heap.objs.size + 1) k
      refine .inr ⟨.inl k, c, e, ?_⟩
      have q := x.cell y c e
      rw [bindC_get ndP hp hu (by show scope.names.lookup y ≠ _; rw [k]; decide)] at q
      exact q
  · exact e0.hok.fresh (Nat.le_of_lt (x.above y c (PySem.mem_of_lookup h)))
  · unfold start
    show _ = N.length
    rw [List.length_append, List.length_map, List.length_replicate]
    (first | lia | omega)

theorem fn_of {CX : CXT} {P : Program} {w : World} {K : PySem.W.Frag} {mg : Str → Option Value} {base : Heap} {k : Nat} {f : Addr} {name qual : Str} {params : Arguments} {body : List Stmt} {scope : Scope} {dV kV doc pm cdv ct oc : Value} {an od : Option Addr}
    {osl : Array (Option Value)} {N ps : List Str} {sp : Sp} (lk : K.lookup f = some ⟨oc, od, .func (PySem.W.fnOf name qual params body scope dV kV doc pm an cdv ct), osl⟩) (hcd : PySem.W.codeIn K cdv qual = true) (S : FnScope N ps scope)
    (len : ∀ vs H Q E, sp vs H Q E → vs.length = ps.length)
    (hbody : ∀ (A : Around) (outer : List Env) (s : Shared) (H : Hp) (vs : List V) (Q : VK) (E : XK), Room k (A.deeper (envOfC qual scope s.heap.objs.size f cdv)) → sp vs H Q E →
      ∃ t, PSs (cxOf CX P w K mg base N qual scope f cdv A outer s H E) body t ∧ t { nx := fun _ H' => Q .non H', rt := Q } (start N vs) H) :
    FnOk P w K mg base CX (k + 1) f (PySem.W.fnOf name qual params body scope dV kV doc pm an cdv ct) ps sp := by
  refine ⟨len, fun A outer s H args us vs Q E hr e0 hb r hsp => ?_⟩
  have hl := len _ _ _ _ hsp
  have KX : K.In s.heap := e0.mod.kin.keeps fun b o e => (e0.bs b o e).1
  have lim : s.heap.NoLimit := e0.mod.nolimit.keeps fun b o e => (e0.bs b o e).1
  have hkind : ∀ y ∈ ps.zip us, scope.names.lookup y.1 = some .local ∨ (scope.names.lookup y.1 = some .cell ∧ ((cellsFrom (s.heap.objs.size + 1) scope.names []).lookup y.1).isSome = true) := fun ⟨n, v⟩ hy => by
    rcases S.par n (List.of_mem_zip hy).1 with q | q
    · exact .inl q
    · exact .inr ⟨q, PySem.W.cellsFrom_some _ _ _ (.inl q)⟩
  refine codeAny_call_function hr.depth (KX _ _ lk) rfl S.co S.gen rfl (PySem.W.codeRec_of KX hcd) (hb _ _ _ _ ?_)
  refine wpAny_newFunctionEnv_cells S.kind hkind fun env he s1 x => ?_
  subst he
  refine ⟨lim.keeps x.toInCall.keep, codeAny_func ?_⟩
  obtain ⟨t, ht, hq⟩ := hbody A outer s H vs Q E (hr.deeper _) hsp
  have I : Inv (cxOf CX P w K mg base N qual scope f cdv A outer s H E) [] (start N vs) H s1 := inv_start S hr.hd e0 hl r x
  refine wpAny_mono (ht [] s1 (start N vs) H _ I hq) (fun fl s' hs => ?_) fun e s' hs => hs
  have fin : ∀ {σ' : St} {H' : Hp} {v : V} {u : Value}, Inv (cxOf CX P w K mg base N qual scope f cdv A outer s H E) [] σ' H' s' → RelV v u → Q v H' → CE outer P w H s Q u s' :=
    fun {σ' H' v u} J rv q => ⟨v, H', J.os, J.bare, J.base, J.hok, rv, q⟩
  cases fl with
  | ret u =>
    obtain ⟨v, σ', H', J, rv, q⟩ := hs
    exact fin J rv q
  | next =>
    obtain ⟨σ', H', J, q⟩ := hs
    exact fin (v := V.non) (u := Value.none) J rfl q
  | brk =>
    obtain ⟨_, _, _, q⟩ := hs
    exact False.elim q
  | cont =>
    obtain ⟨_, _, _, q⟩ := hs
    exact False.elim q
end L2

namespace L2
open PySem PySem.Spec PyProof.Rows
section
variable {X : Cx} {x : Str} {p pos : Pos} {e : Expr} {es : List Expr} {t : TA} {id T : String} {r : List V → Hp → VK → Prop}

def tCB (r : List V → Hp → VK → Prop) (t : TA) : TE := fun σ H Q => t σ H fun vs H1 => r vs H1 Q
theorem pe_callB (hc : CallR X (.builtin id) r) (hg : Gl X x) (hm : X.mg x = none) (hv : bootBuiltins x = some (.builtin id)) (ha : PA X (e :: es) t) (hn : x ≠ "__name__" := by decide) (hdb : (x == ("__debug__" : Str)) = false := by decide)
    (he : starEach (e :: es) X.env = (false, eval e X.env) :: starEach es X.env := by rfl) (hpl : (backTo pos (starEach es X.env)).any (·.1) = false := by rfl) : PE X (.Call (.Name x p) (e :: es) [] pos) (tCB r t) := by
  intro pins s σ H Q I h
  refine wpAny_Call_Name_kw (ld_blt I hg hm hv ?_ hn hdb)
  exact PyProof.Rows.callWith_builtin1 (thn (ha pos pins s σ H _ I h) fun us s1 ⟨vs, H1, I1, r1, q1⟩ => hc pins s1 σ H1 vs us Q I1 r1 q1) he hpl
theorem pe_callTy (hc : CallR X (.type T) r) (hg : Gl X x) (hm : X.mg x = none) (hv : bootBuiltins x = some (.type T)) (ha : PA X (e :: es) t) (hn : x ≠ "__name__" := by decide) (hdb : (x == ("__debug__" : Str)) = false := by decide)
    (he : starEach (e :: es) X.env = (false, eval e X.env) :: starEach es X.env := by rfl) (hpl : (backTo pos (starEach es X.env)).any (·.1) = false := by rfl) : PE X (.Call (.Name x p) (e :: es) [] pos) (tCB r t) := by
  intro pins s σ H Q I h
  refine wpAny_Call_Name_kw (ld_blt I hg hm hv ?_ hn hdb)
  exact PyProof.Rows.callWith_type1 (thn (ha pos pins s σ H _ I h) fun us s1 ⟨vs, H1, I1, r1, q1⟩ => hc pins s1 σ H1 vs us Q I1 r1 q1) he hpl
end
end L2

namespace HT
open PySem PyProof.Rows

section
open PySem.SeqAt
open PySem.AutoSeq1 (wpAny_loadPart')
open PySem.MeetsSeq PySem.MeetsSeq2 PySem.MeetsSeq3

end

section
variable {prog : Program} {w : World} {A : Around} {E : Value → Shared → Prop} {s : Shared}

def sIx (n d : Nat) : Option Int → Nat
  | none => d
  | some v => if v < 0 then (v + (n : Int)).toNat else min v.toNat n
end
end HT

namespace L2
open PySem PySem.Spec PyProof.Rows

abbrev TO := St → Hp → (Option Int → Hp → Prop) → Prop
def PO (X : Cx) (e : Option Expr) (t : TO) : Prop :=
  ∀ (pins : List (Addr × Obj)) (s : Shared) (σ : St) (H : Hp) (Q : Option Int → Hp → Prop), Inv X pins σ H s → t σ H Q →
    wpAny (model X.prog X.w) X.A (evalPart e X.env) (fun u s' => ∃ o H', Inv X pins σ H' s' ∧ IsPart u o ∧ Q o H') X.xe s
def tPart (t : TE) : TO := fun σ H Q => t σ H fun x H1 => ∃ i, x = .int i ∧ Q (some i) H1

section
variable {X : Cx} {e : Expr} {te : TE} {lo hi : Option Expr} {tl th : TO} {pos p2 : Pos}

theorem po_some (h : PE X e te) : PO X (some e) (tPart te) := by
  intro pins s σ H Q I hw
  rw [evalPart_some]
  refine thn (h pins s σ H _ I hw) fun u s1 ⟨x, H1, I1, r1, q1⟩ => ?_
  obtain ⟨i, rfl, q⟩ := q1
  obtain ⟨t, rfl⟩ := r1
  exact ⟨some i, H1, I1, .int i t, q⟩

def SlR (X : Cx) (r : V → Option Int → Option Int → Hp → VK → Prop) : Prop :=
  ∀ (pins : List (Addr × Obj)) (s : Shared) (σ : St) (H : Hp) (x : V) (v vl vu : Value) (lo hi : Option Int) (sl : Addr) (Q : VK), Inv X pins σ H s → RelV x v → s.heap.IsSliceOf sl vl vu .none → IsPart vl lo → IsPart vu hi → r x lo hi H Q →
    ∃ T id, typeLookup (.type T) "__getitem__" = pure (some (.builtin id)) ∧ s.TypeIs v T ∧ wpAny (model X.prog X.w) X.A (getItem v (.ref sl)) (EP X pins σ Q) X.xe s
def tSl (r : V → Option Int → Option Int → Hp → VK → Prop) (te : TE) (tl th : TO) : TE := fun σ H Q => te σ H fun x H1 => tl σ H1 fun l H2 => th σ H2 fun u H3 => r x l u H3 Q
theorem pe_slice {r : V → Option Int → Option Int → Hp → VK → Prop} (hr : SlR X r) (he : PE X e te) (hl : PO X lo tl) (hu : PO X hi th) : PE X (.Subscript e (.Slice lo hi none p2) pos) (tSl r te tl th) := by
  intro pins s σ H Q I h
  refine Subscript_ (thn (he pins s σ H _ I h) fun v s1 ⟨x, H1, I1, r1, q1⟩ => ?_)
  refine wpAny_Slice (thn (hl pins s1 σ H1 _ I1 q1) fun vl s2 ⟨l, H2, I2, pl, q2⟩ => thn (hu pins s2 σ H2 _ I2 q2) fun vu s3 ⟨u, H3, I3, pu, q3⟩ => ?_)
  rw [evalPart_none]
  refine wpAny_pure ?_
  have I4 : Inv X pins σ H3 { s3 with heap := s3.heap.push { cls := .type "slice", data := .fields #[vl, vu, .none] } } := I3.kept (t' := s3.toks) fun b ob q => Heap.get?_push_of_some _ q
  obtain ⟨T, id, hT, ht, hg⟩ := hr pins { s3 with heap := s3.heap.push { cls := .type "slice", data := .fields #[vl, vu, .none] } } σ H3 x v vl vu l u s3.heap.objs.size Q I4 r1 (Heap.IsSliceOf.new ..) pl pu q3
  show wpAny (model X.prog X.w) X.A (subscriptTail e (.Slice lo hi none p2) v (.ref s3.heap.objs.size)) (EP X pins σ Q) X.xe { s3 with heap := s3.heap.push { cls := .type "slice", data := .fields #[vl, vu, .none] } }
  exact tail_any (ops := [.ref s3.heap.objs.size, v]) ht hT hg (by with_unfolding_all rfl)

def cutV (xs : List V) (lo hi : Option Int) : List V := (xs.drop (HT.sIx xs.length 0 lo)).take (HT.sIx xs.length xs.length hi - HT.sIx xs.length 0 lo)
theorem cutV_length (xs : List V) (lo hi : Option Int) : (cutV xs lo hi).length ≤ xs.length := by
  unfold cutV
  rw [List.length_take, List.length_drop]
  (first | lia | omega)
end
end L2

namespace L2
open PySem PySem.Spec PyProof.Rows

def ixN (n : Nat) (i : Int) : Option Nat := if 0 ≤ i then (if i < n then some i.toNat else none) else if -(n : Int) ≤ i then some (i + n).toNat else none
def atI {α : Type} (xs : List α) (i : Int) : Option α := (ixN xs.length i).bind fun j => xs[j]?
theorem ixN_seq {n : Nat} {i : Int} {j : Nat} (h : ixN n i = some j) : seqIndex? i n = some j ∧ j < n ∧ -(n : Int) ≤ i ∧ i < n := by
  unfold ixN at h
  by_cases h0 : 0 ≤ i
  · rw [if_pos h0] at h
    by_cases h1 : i < n
    · rw [if_pos h1] at h
      have e : i.toNat = j := Option.some.inj h
      exact ⟨by rw [seqIndex_of h0 h1, e], by (first | lia | omega), by (first | lia | omega), h1⟩
    · rw [if_neg h1] at h; cases h
  · rw [if_neg h0] at h
    by_cases h1 : -(n : Int) ≤ i
    · rw [if_pos h1] at h
      have e : (i + n).toNat = j := Option.some.inj h
      exact ⟨by rw [seqIndex_neg (by (first | lia | omega)) h1, e], by (first | lia | omega), h1, by (first | lia | omega)⟩
    · rw [if_neg h1] at h; cases h
theorem atI_get {α : Type} {xs : List α} {i : Int} {v : α} (h : atI xs i = some v) : ∃ j, seqIndex? i xs.length = some j ∧ xs[j]? = some v ∧ j < xs.length ∧ -(xs.length : Int) ≤ i ∧ i < xs.length := by
  unfold atI at h
  cases e : ixN xs.length i with
  | none => rw [e] at h; cases h
  | some j =>
    rw [e] at h
    obtain ⟨h1, h2, h3, h4⟩ := ixN_seq e
    exact ⟨j, h1, h, h2, h3, h4⟩
theorem atI_nat {α : Type} {xs : List α} {j : Nat} {v : α} (h : xs[j]? = some v) : atI xs (j : Int) = some v := by
  have hj : j < xs.length := (List.getElem?_eq_some_iff.mp h).1
  have e : ixN xs.length (j : Int) = some j := by
    unfold ixN
    rw [if_pos (by (first | lia | omega)), if_pos (by (first | lia | omega))]; simp
  unfold atI; rw [e]; exact h
def PlainIx (b : Expr) : Prop := ∀ o i, subscripted b false o i = operate [o, i] (getItem o i)
def IxR (X : Cx) (r : R2) : Prop :=
  ∀ (value slice : Expr) (pins : List (Addr × Obj)) (s : Shared) (σ : St) (H : Hp) (x y : V) (v u : Value) (Q : VK), Inv X pins σ H s → RelV x v → RelV y u → r x y H Q →
    subscripted slice false v u = operate [v, u] (getItem v u) → wpAny (model X.prog X.w) X.A (subscriptTail value slice v u) (EP X pins σ Q) X.xe s
def MtR (X : Cx) (id : String) (r : V → List V → Hp → VK → Prop) : Prop :=
  ∀ (pins : List (Addr × Obj)) (s : Shared) (σ : St) (H : Hp) (x : V) (xs : List V) (v : Value) (us : List Value) (Q : VK), Inv X pins σ H s → RelV x v → Vals xs us → r x xs H Q →
    wpAny (model X.prog X.w) X.A (call (.builtin id) (v :: us)) (EP X pins σ Q) X.xe s
section
variable {X : Cx} {a b : Expr} {ta tb : TE} {pos : Pos}
theorem IxR.or {r r' : R2} (h : IxR X r) (h' : IxR X r') : IxR X (fun x y H Q => r x y H Q ∨ r' x y H Q) := by
  intro value slice pins s σ H x y v u Q I rx ry q hs
  rcases q with q | q
  · exact h value slice pins s σ H x y v u Q I rx ry q hs
  · exact h' value slice pins s σ H x y v u Q I rx ry q hs
theorem pe_ix {r : R2} (hr : IxR X r) (ha : PE X a ta) (hb : PE X b tb) (hs : PlainIx b) : PE X (.Subscript a b pos) (tOp r ta tb) := by
  intro pins s σ H Q I h
  exact Subscript_ (binT ha hb I h fun v u s2 x y H2 I2 rx ry q => hr a b pins s2 σ H2 x y v u Q I2 rx ry q (hs _ _))

def rIxL (K : PySem.W.Frag) : R2 := fun x y H Q => ∃ p xs i v, x = .ref p ∧ y = .int i ∧ SqL K H p xs ∧ atI xs i = some v ∧ Q v H
def rIxT (K : PySem.W.Frag) : R2 := fun x y H Q => ∃ p xs i v, x = .ref p ∧ y = .int i ∧ SqT K H p xs ∧ atI xs i = some v ∧ Q v H
def rIxS : R2 := fun x y H Q => ∃ z i c, x = .str z ∧ y = .int i ∧ z.length ≤ sizeLine ∧ atI z.cps.toList i = some c ∧ Q (.str ⟨#[c]⟩) H
theorem ix_list : IxR X (rIxL X.K) := by
  intro value slice pins s σ H x y v u Q I rx ry h hs
  obtain ⟨p, xs, i, z, rfl, rfl, hq, he, q⟩ := h
  cases rx
  obtain ⟨t, rfl⟩ := ry
  obtain ⟨its, r, pl, hz⟩ := I.list hq
  obtain ⟨j, h1, h2, h3, h4, h5⟩ := atI_get he
  obtain ⟨w, ew, rw'⟩ := r.get h2
  have hl := r.length
  have hn := line63
  have fin : EP X pins σ Q w s := ⟨z, H, I, rw', q⟩
  by_cases h0 : 0 ≤ i
  · have hj : i.toNat = j := by
      rw [seqIndex_of h0 h5] at h1
      exact Option.some.inj h1
    exact item_listR pl.isList h0 (by (first | lia | omega)) (by rw [hj]; simpa using ew) fin hs
  · have hj : (i + (its.toArray.size : Int)).toNat = j := by
      rw [seqIndex_neg (by (first | lia | omega)) h4] at h1
      rw [List.size_toArray, ← hl]
      exact Option.some.inj h1
    exact subscriptTail_builtinR (x := w) pl.isList.typeIs slot_list_getitem.lookup
      (wpAny_getItem_list_neg (Q := fun r s' => r = w ∧ EP X pins σ Q r s') pl.isList (by (first | lia | omega)) (by rw [List.size_toArray] <;> (first | lia | omega)) (by (first | lia | omega)) (by rw [hj]; simpa using ew) ⟨rfl, fin⟩) hs
theorem ix_tup : IxR X (rIxT X.K) := by
  intro value slice pins s σ H x y v u Q I rx ry h hs
  obtain ⟨p, xs, i, z, rfl, rfl, hq, he, q⟩ := h
  cases rx
  obtain ⟨t, rfl⟩ := ry
  obtain ⟨its, r, pl, hz⟩ := I.tuple hq
  obtain ⟨j, h1, h2, h3, h4, h5⟩ := atI_get he
  obtain ⟨w, ew, rw'⟩ := r.get h2
  have hl := r.length
  have hn := line63
  have fin : EP X pins σ Q w s := ⟨z, H, I, rw', q⟩
  exact subscriptTail_builtinR (x := w) pl.typeIs slot_tuple_getitem.lookup
    (getItem_tuple (j := j) (Q := fun r s' => r = w ∧ EP X pins σ Q r s') pl (by (first | lia | omega)) (by (first | lia | omega)) (by rw [List.size_toArray, ← hl]; exact h1) (by simpa using ew) ⟨rfl, fin⟩) hs
theorem ix_str : IxR X rIxS := by
  intro value slice pins s σ H x y v u Q I rx ry h hs
  obtain ⟨z, i, c, rfl, rfl, hz, he, q⟩ := h
  obtain ⟨t, rfl⟩ := rx
  obtain ⟨t', rfl⟩ := ry
  obtain ⟨j, h1, h2, h3, h4, h5⟩ := atI_get he
  have hl : z.cps.toList.length = z.length := by simp [Str.length]
  rw [hl] at h1 h4 h5
  have hn := line63
  exact tail_any (typeIs_str s z t) slot_str_getitem.lookup (getItem_str (c := c) (by
    have e1 : decide (i < -(2 ^ 63 : Int)) = false := decide_eq_false (by (first | lia | omega))
    have e2 : decide (i ≥ 2 ^ 63) = false := decide_eq_false (by (first | lia | omega))
    rw [e1, e2, Bool.or_false]) (by rw [h1]; simpa using h2) ⟨.str ⟨#[c]⟩, H, I.tok _, ⟨_, rfl⟩, q⟩) hs
def rIx (K : PySem.W.Frag) : R2 := fun x y H Q => rIxL K x y H Q ∨ rIxT K x y H Q ∨ rIxS x y H Q
theorem ix_seq : IxR X (rIx X.K) := ix_list.or (ix_tup.or ix_str)

theorem slice_bounds (lo hi : Option Int) (n : Nat) : (sliceBounds lo hi none n).1 = ((HT.sIx n 0 lo : Nat) : Int) ∧ (sliceBounds lo hi none n).2.1 = ((HT.sIx n n hi : Nat) : Int) ∧ (sliceBounds lo hi none n).2.2 = 1 := by
  refine ⟨?_, ?_, rfl⟩
  · cases lo with
    | none => simp [sliceBounds, HT.sIx]
    | some i =>
      simp only [sliceBounds, HT.sIx, Option.getD_none, show (1 : Int) > 0 by decide, if_true]
      by_cases h : i < 0
      · simp only [h, if_true] <;> (first | lia | omega)
      · simp only [h, if_false] <;> (first | lia | omega)
  · cases hi with
    | none => simp [sliceBounds, HT.sIx]
    | some i =>
      simp only [sliceBounds, HT.sIx, Option.getD_none, show (1 : Int) > 0 by decide, if_true]
      by_cases h : i < 0
      · simp only [h, if_true] <;> (first | lia | omega)
      · simp only [h, if_false] <;> (first | lia | omega)
theorem slicePick_cut (its : List Value) (lo hi : Option Int) : slicePick its.toArray lo hi none = ((its.drop (HT.sIx its.length 0 lo)).take (HT.sIx its.length its.length hi - HT.sIx its.length 0 lo)).toArray := by
  obtain ⟨h1, h2, h3⟩ := slice_bounds lo hi its.toArray.size
  unfold slicePick
  rw [h1, h2, h3]
  simp only [sliceRange_one, pick_run, List.size_toArray] <;> rfl
def rSlL (K : PySem.W.Frag) : V → Option Int → Option Int → Hp → VK → Prop := fun x lo hi H Q => ∃ a xs, x = .ref a ∧ SqL K H a xs ∧ ∀ p, H p = none → Q (.ref p) (upd H p (.lst (cutV xs lo hi)))
theorem sl_list : SlR X (rSlL X.K) := by
  intro pins s σ H x v vl vu lo hi sl Q I rx hs pl pu h
  obtain ⟨a, xs, rfl, hx, q⟩ := h
  cases rx
  obtain ⟨its, r, ht, hz⟩ := I.list hx
  have hlen := r.length
  refine ⟨"list", _, slot_list_getitem.lookup, ht.isList.typeIs, ?_⟩
  refine wpAny_getItem_list_slice ht.isList hs pl pu .none (by simp) ?_ (by rw [List.size_toArray] <;> (first | lia | omega))
  rw [slicePick_cut, ← hlen]
  refine ⟨.ref s.heap.objs.size, _, I.laid (t' := s.toks) (o := .lst (cutV xs lo hi)) (fun b ob q => Heap.get?_push_of_some _ q) (Nat.le_refl _) ?_, rfl, q _ (I.hok.fresh (Nat.le_refl _))⟩
  exact ⟨Nat.le_trans (cutV_length xs lo hi) hz, _, 0, (r.drop (HT.sIx xs.length 0 lo)).take (HT.sIx xs.length xs.length hi - HT.sIx xs.length 0 lo), Heap.get?_push_size _ rfl⟩

theorem call_len_seq : CallR X (.builtin "len") (fun xs H Q => ∃ p ys, xs = [.ref p] ∧ (SqL X.K H p ys ∨ SqT X.K H p ys) ∧ Q (.int ys.length) H) := by
  intro pins s σ H xs us Q I r h
  obtain ⟨p, ys, rfl, hq, q⟩ := h
  obtain ⟨u, rfl, rx⟩ := vals1 r
  cases rx
  have hn := line63
  rcases hq with hq | hq
  · obtain ⟨its, r', pl, hz⟩ := I.list hq
    have hlen := r'.length
    exact Calls.call_len_list pl.isList (by simp only [List.size_toArray] <;> (first | lia | omega)) ⟨.int ys.length, H, I.tok _, ⟨s.toks + 1, by rw [List.size_toArray, hlen]⟩, q⟩
  · obtain ⟨its, r', pl, hz⟩ := I.tuple hq
    have hlen := r'.length
    exact len_tuple pl (by simp only [List.size_toArray] <;> (first | lia | omega)) ⟨.int ys.length, H, I.tok _, ⟨s.toks + 1, by rw [List.size_toArray, hlen]⟩, q⟩
theorem call_tuple_of : CallR X (.type "tuple") (fun xs H Q => ∃ p ys, xs = [.ref p] ∧ ((SqL X.K H p ys ∧ ∀ l, H l = none → Q (.ref l) (upd H l (.tup ys))) ∨ (SqT X.K H p ys ∧ Q (.ref p) H))) := by
  intro pins s σ H xs us Q I r h
  obtain ⟨p, ys, rfl, h⟩ := h
  obtain ⟨u, rfl, rx⟩ := vals1 r
  cases rx
  rcases h with ⟨hq, q⟩ | ⟨hq, q⟩
  · obtain ⟨its, r', pl, hz⟩ := I.list hq
    have hlen := r'.length
    refine call_tuple_list pl.isList (fun h' kp => ?_) (by simp only [List.size_toArray] <;> (first | lia | omega))
    have I1 : Inv X pins σ H { s with heap := h' } := I.kept (t' := s.toks) kp
    have I2 : Inv X pins σ (upd H h'.objs.size (.tup ys)) { s with heap := h'.push { cls := .type "tuple", data := .seq its.toArray } } :=
      I1.laid (t' := s.toks) (fun b o e => Heap.get?_push_of_some _ e) (Nat.le_refl _) (show ObjOk X.prog X.w _ _ _ (.tup ys) from ⟨hz, its, r', IsTup.new _ _⟩)
    exact ⟨.ref h'.objs.size, _, I2, rfl, q _ (I1.hok.fresh (Nat.le_refl _))⟩
  · obtain ⟨its, r', pl, hz⟩ := I.tuple hq
    exact call_tuple_same pl ⟨.ref p, H, I, rfl, q⟩

def tyV (K : PySem.W.Frag) (T : String) (x : V) (H : Hp) : Prop := match x with
  | .str _ => T = "str"
  | .int _ => T = "int"
  | .ref p => (T = "list" ∧ ∃ xs, SqL K H p xs) ∨ (T = "tuple" ∧ ∃ o, K.lookup p = some o ∧ o.cls = .type "tuple" ∧ o.dict = none) ∨
      (T = "dict" ∧ ((∃ kvs, H p = some (.dK kvs)) ∨ ∃ kvs, H p = some (.dT kvs))) ∨ (T = "set" ∧ ∃ S n, H p = some (.set S n))
  | _ => False
theorem tyV_is {pins : List (Addr × Obj)} {σ : St} {H : Hp} {s : Shared} {T : String} {x : V} {v : Value} (I : Inv X pins σ H s) (r : RelV x v) (ty : tyV X.K T x H) :
    s.TypeIs v T ∧ ∀ a, v = .ref a → ∃ ob, s.heap.get? a = some ob ∧ ob.dict = none := by
  cases x with
  | str z =>
    obtain ⟨t, rfl⟩ := r
    cases (show T = "str" from ty)
    exact ⟨typeIs_str s z t, fun _ e => nomatch e⟩
  | int i =>
    obtain ⟨t, rfl⟩ := r
    cases (show T = "int" from ty)
    exact ⟨typeIs_int s i t, fun _ e => nomatch e⟩
  | ref p =>
    cases r
    rcases ty with ⟨rfl, xs, hq⟩ | ⟨rfl, o, hk, hc, hd⟩ | ⟨rfl, hk⟩ | ⟨rfl, S, n, hk⟩
    · obtain ⟨its, _, pl, _⟩ := I.list hq
      refine ⟨pl.isList.typeIs, fun a e => ?_⟩
      cases e
      obtain ⟨o, n, e, c, hd, _⟩ := pl
      exact ⟨o, e, hd⟩
    · refine ⟨⟨o, I.kIn p o hk, hc⟩, fun a e => ?_⟩
      cases e
      exact ⟨o, I.kIn _ o hk, hd⟩
    · have z : ∃ o, s.heap.get? p = some o ∧ o.ExactDict := by
        rcases hk with ⟨kvs, hk⟩ | ⟨kvs, hk⟩
        · obtain ⟨_, _, _, _, o, _, _, e, ex, _⟩ := I.hok p _ hk
          exact ⟨o, e, ex⟩
        · obtain ⟨_, _, _, _, o, _, _, e, ex, _⟩ := I.hok p _ hk
          exact ⟨o, e, ex⟩
      obtain ⟨o, e, ex⟩ := z
      refine ⟨⟨o, e, ex.1⟩, fun a e2 => ?_⟩
      cases e2
      exact ⟨o, e, ex.2.1⟩
    · obtain ⟨o, _, _, _, e, ex, _⟩ := I.hok p _ hk
      refine ⟨⟨o, e, ex.1⟩, fun a e2 => ?_⟩
      cases e2
      exact ⟨o, e, ex.2.1⟩
  | _ => exact False.elim ty
def tBM0 (K : PySem.W.Frag) (T : String) (r : V → List V → Hp → VK → Prop) (to : TE) : TE := fun σ H Q => to σ H fun x H1 => tyV K T x H1 ∧ r x [] H1 Q
def tBM (K : PySem.W.Frag) (T : String) (r : V → List V → Hp → VK → Prop) (to : TE) (t : TA) : TE := fun σ H Q => to σ H fun x H1 => tyV K T x H1 ∧ t σ H1 fun xs H2 => r x xs H2 Q
variable {o e : Expr} {es : List Expr} {to : TE} {t : TA} {name : Str} {apos cpos : Pos} {T id : String} {r : V → List V → Hp → VK → Prop}
theorem pe_bm0 (pa : PlainAttrs T) (slot : Slot T name id) (hty : typeOf (.builtin id) = pure (.type "method_descriptor")) (hm : MtR X id r) (ho : PE X o to)
    (hbase : attributeBase o name X.env (eval o X.env) = eval o X.env := by rfl) (hline : (apos.endLine == cpos.line) = true := by rfl) : PE X (.Call (.Attribute o name apos) [] [] cpos) (tBM0 X.K T r to) := by
  intro pins s σ H Q I h
  refine wpAny_Call_method0_late hbase hline (thn (ho pins s σ H _ I h) fun v s1 ⟨x, H1, I1, r1, ty, q1⟩ => ?_)
  obtain ⟨h1, h2⟩ := tyV_is I1 r1 ty
  exact ⟨T, id, pa, slot, hty, h1, h2, Calls.callWith_builtin rfl (PySem.evalArgs_none (hm pins s1 σ H1 x [] v [] Q I1 r1 .nil q1))⟩
theorem pe_bm (pa : PlainAttrs T) (slot : Slot T name id) (hty : typeOf (.builtin id) = pure (.type "method_descriptor")) (hm : MtR X id r) (ho : PE X o to) (ha : PA X (e :: es) t)
    (hbase : attributeBase o name X.env (eval o X.env) = eval o X.env := by rfl)
    (hfew : ((backTo cpos (starEach (e :: es) X.env)).all (fun x => !x.1) && (backToKw cpos (keywordEach [] X.env)).all (fun x => x.1.isSome)
      && decide ((e :: es).length + ([] : List Keyword).length + (if ([] : List Keyword).isEmpty then 0 else 1) < 30)) = true := by rfl)
    (hline : (apos.endLine == cpos.line) = true := by rfl) (hs : starEach (e :: es) X.env = (false, eval e X.env) :: starEach es X.env := by rfl) (hplain : (backTo cpos (starEach es X.env)).any (·.1) = false := by rfl) :
    PE X (.Call (.Attribute o name apos) (e :: es) [] cpos) (tBM X.K T r to t) := by
  intro pins s σ H Q I h
  refine wpAny_Call_method_late hbase hfew hline rfl (thn (ho pins s σ H _ I h) fun v s1 ⟨x, H1, I1, r1, ty, q1⟩ => ?_)
  obtain ⟨h1, h2⟩ := tyV_is I1 r1 ty
  refine ⟨T, id, pa, slot, hty, h1, h2, ?_⟩
  have hA := ha cpos pins s1 σ H1 _ I1 q1
  rw [hs] at hA ⊢
  refine Calls.callWith_builtin (by show (false || (backTo cpos (starEach es X.env)).any (·.1)) = false; rw [hplain] <;> rfl) (Calls.evalArgs_plain ?_)
  exact thn hA fun us s2 ⟨vs, H2, I2, r2, q2⟩ => hm pins s2 σ H2 x vs v us Q I2 r1 r2 q2
/- xs.append(e), list.index on a module's tuple .. are MtR facts of 06m -/
end
end L2

namespace L2
open PySem PySem.Spec PyProof.Rows

def MtM (X : Cx) (id : String) (r : V → List V → Hp → VK → Prop) : Prop :=
  ∀ (pins : List (Addr × Obj)) (s : Shared) (σ : St) (H : Hp) (x : V) (xs : List V) (v : Value) (us : List Value) (Q : VK), Inv X pins σ H s → RelV x v → Vals xs us → r x xs H Q →
    wpAny (model X.prog X.w) X.A (call (.builtin id) (v :: us)) (EP X pins σ Q) X.xe s

theorem Vals.one : ∀ {x : V} {us : List Value}, Vals [x] us → ∃ u, us = [u] ∧ RelV x u
  | _, _, .cons r .nil => ⟨_, rfl, r⟩
theorem Vals.zero : ∀ {us : List Value}, Vals [] us → us = []
  | _, .nil => rfl
theorem Vals.dropLast {xs : List V} {us : List Value} (h : Vals xs us) : Vals xs.dropLast us.dropLast := by
  induction h with
  | nil => exact .nil
  | cons r t ih =>
    cases t with
    | nil => exact .nil
    | cons q t' => exact .cons r ih
theorem erase_last {α : Type} (l : List α) : l.eraseIdx (l.length - 1) = l.dropLast := by
  induction l with
  | nil => rfl
  | cons a r ih =>
    cases r with
    | nil => rfl
    | cons b r =>
      have e : (a :: b :: r).length - 1 = ((b :: r).length - 1) + 1 := by
        have h1 : (a :: b :: r).length = r.length + 2 := rfl
        have h2 : (b :: r).length = r.length + 1 := rfl
        (first | lia | omega)
      rw [e, List.eraseIdx_cons_succ, ih]
      all_goals rfl
section
variable {X : Cx} {pins : List (Addr × Obj)} {σ : St} {H : Hp} {s : Shared} {l b : Addr} {xs ys zs : List V}

theorem Inv.lset {its its' : List Value} {n : Nat} {f : Array Value → Array Value} {t' : Nat} (I : Inv X pins σ H s) (hH : H l = some (.lst xs))
    (e : s.heap.get? l = some { cls := .type "list", data := .seq its.toArray n }) (hf : f its.toArray = its'.toArray) (hv : Vals ys its') (hz : ys.length ≤ sizeLine) :
    Inv X pins σ (upd H l (.lst ys)) { s with heap := s.heap.update l (Obj.mapSeq f), toks := t' } := by
  have q := PySem.IsL.update e f
  rw [hf] at q
  refine I.write (x := l) (e := l) (by rw [hH]; exact trivial) (.inl rfl) (fun b' u hb hu => (Heap.get?_update_other s.heap (Obj.mapSeq f) (Ne.symm hb)).trans hu) ⟨_, q⟩ ?_
  exact ⟨hz, its', _, hv, q⟩
theorem Inv.lnew {its : List Value} {t' : Nat} (I : Inv X pins σ H s) (hv : Vals ys its) (hz : ys.length ≤ sizeLine) :
    Inv X pins σ (upd H s.heap.objs.size (.lst ys)) { s with heap := s.heap.push { cls := .type "list", data := .seq its.toArray }, toks := t' } :=
  I.laid (fun _ _ q => Heap.get?_push_of_some _ q) (Nat.le_refl _) ⟨hz, its, 0, hv, Heap.get?_push_size _ rfl⟩
theorem Inv.fresh (I : Inv X pins σ H s) : H s.heap.objs.size = none := I.hok.fresh (Nat.le_refl _)
theorem Inv.lstM (I : Inv X pins σ H s) (hH : H l = some (.lst xs)) : xs.length ≤ sizeLine ∧ ∃ (its : List Value) (n : Nat), Vals xs its ∧ xs.length = its.length ∧ s.heap.get? l = some { cls := .type "list", data := .seq its.toArray n } := by
  obtain ⟨z, its, n, r, e⟩ := I.hok l _ hH
  exact ⟨z, its, n, r, r.length, e⟩

end

section
variable {X : Cx}

def rAppend : V → List V → Hp → VK → Prop := fun x vs H Q => ∃ l xs y, x = .ref l ∧ vs = [y] ∧ H l = some (.lst xs) ∧ xs.length < sizeLine ∧ Q .non (upd H l (.lst (xs ++ [y])))
theorem mt_append : MtM X "list.append" rAppend := by
  intro pins s σ H x vs v us Q I rx rv h
  obtain ⟨l, xs, y, rfl, rfl, hH, hz, q⟩ := h
  cases rx
  obtain ⟨u, rfl, ru⟩ := rv.one
  obtain ⟨z, its, n, r, hl, e⟩ := I.lstM hH
  refine call_meets F.slot_list_append ⟨_, e, rfl⟩ F.entry_list_append (F.args_list_append_2 _ _) (PySem.list_append l its.toArray n u (by rw [List.size_toArray]; (first | lia | omega))) ⟨e, ?_⟩
  refine ⟨.non, _, I.lset (its' := its ++ [u]) hH e (by simp) (r.append (.cons ru .nil)) ?_, rfl, q⟩
  rw [List.length_append, List.length_singleton]
  (first | lia | omega)

def rPop : V → List V → Hp → VK → Prop := fun x vs H Q => ∃ l xs y, x = .ref l ∧ vs = [] ∧ H l = some (.lst xs) ∧ xs[xs.length - 1]? = some y ∧ Q y (upd H l (.lst xs.dropLast))
theorem mt_pop : MtM X "list.pop" rPop := by
  intro pins s σ H x vs v us Q I rx rv h
  obtain ⟨l, xs, y, rfl, rfl, hH, hy, q⟩ := h
  cases rx
  have hus := rv.zero
  subst hus
  obtain ⟨z, its, n, r, hl, e⟩ := I.lstM hH
  obtain ⟨u, hu, ru⟩ := r.get hy
  have hy' : its.toArray[its.toArray.size - 1]? = some u := by
    show its.toArray[its.length - 1]? = some u
    rw [← Array.getElem?_toList, ← hl]
    exact hu
  refine call_meets F.slot_list_pop ⟨_, e, rfl⟩ F.entry_list_pop (F.args_list_pop_1 _) (MeetsSeq.list_pop_last l its.toArray n u hy' (by rw [List.size_toArray]; (first | lia | omega))) ⟨e, ?_⟩
  refine ⟨y, _, I.lset (its' := its.dropLast) hH e ?_ r.dropLast ?_, ru, q⟩
  · show its.toArray.eraseIdxIfInBounds (its.toArray.size - 1) = its.dropLast.toArray
    rw [List.size_toArray, List.eraseIdxIfInBounds_toArray, erase_last]
  · rw [List.length_dropLast]
    (first | lia | omega)

end

section
variable {prog : Program} {w : World} {A : Around} {E : Value → Shared → Prop} {s : Shared}
end

section
variable {X : Cx}
end
end L2

namespace Att
open PySem PySem.W PySem.Calls PyProof.Rows

theorem ints_of_wellAll {P : Params} {h : Heap} : ∀ (ns : List Int) (vs : List Value), WellAll P h vs (ns.map WData.int) → IntsAre vs ns := by
  intro ns
  induction ns with
  | nil =>
    intro vs w
    rw [List.map_nil] at w
    cases w
    exact .nil
  | cons n ns ih =>
    intro vs w
    rw [List.map_cons] at w
    cases w with
    | cons a b =>
      cases a
      exact .cons _ _ (ih _ b)

theorem script_of {l : OpenLaw} {n : Nat} (hn : l.most = some n) {P : Params} {h : Heap} {args : List WData} {vals : List Value}
    (hpre : l.row.toRowW.claim.pre args = true) (hwl : WellAll P h vals args) :
    ∃ a vs ns, vals = [Value.ref a] ∧ args = [WData.list (ns.map WData.int)] ∧ h.get? a = some { cls := .type "list", data := .seq vs.toArray } ∧ IntsAre vs ns ∧ ns.length ≤ n := by
  have hsh : WShape.hasAll [] args [.list .int] = true := (pre_splitW hpre).1
  have hc : l.pre.holds [] { args := args } = true := (pre_splitW hpre).2
  obtain ⟨d, r, rfl, h1, h2⟩ := hasAllW_cons hsh
  obtain rfl := hasAllW_nil h2
  obtain ⟨xs, rfl, h3⟩ := hasW_list h1
  obtain ⟨ns, rfl⟩ := items_int h3
  have hlen : ns.length ≤ n := by
    unfold OpenLaw.pre at hc
    have h4 : (WTm.not (.lt (.lit (.int (n : Int))) (.len (.arg 0)))).holds [] { args := [.list (ns.map .int)] } = true := by
      have h4 := (holds_andW hc).1
      rw [hn] at h4
      exact h4
    have h5 := condW_of h4 (w_not (w_lt w_lit (w_len_list (w_arg rfl))))
    rw [List.length_map] at h5
    refine Nat.le_of_not_lt fun q => ?_
    have q' : (n : Int) < ((ns.length : Nat) : Int) := by (first | lia | omega)
    first
      | (rw [decide_eq_true q'] at h5; exact absurd h5 (by decide))
      | (simp at h5; (first | lia | omega))
  cases hwl with
  | cons w1 w2 =>
    cases w2
    cases w1 with
    | list ho hall => exact ⟨_, _, ns, rfl, rfl, ho, ints_of_wellAll ns _ hall, hlen⟩

theorem post_true (l : OpenLaw) (args : List WData) : l.row.toRowW.claim.post args (.bool true) args = true :=
  postW_of (r := l.row.toRowW) (X := (true == true))
    (show WShape.has [] (.bool true) .bool = true by first | rfl | decide | simp [WShape.has, WShape.arms, WShape.armsAll])
    (show (WTm.eq .res (.lit (.bool true))).value [] { args := args, res := some (.bool true), after := args } = some (.bool (true == true)) from w_eq_bool (w_res rfl) w_lit) rfl

theorem attach_call {l : OpenLaw} {n : Nat} {q : Program} {loose : List Str} {XP : (Str → Option Value) → Heap → Prop} {YP : World → Heap → Prop} {d : DefRec}
    (hn : l.most = some n) (hdf : d.params.defaults = [])
    (call : ∀ (w : World) (s₀ s₁ : Shared) (mg mb : Str → Option Value) (fa : Addr) (o : Obj) (pm cd doc : Value) (a : Addr) (vs : List Value) (ns : List Int),
      Ground q loose [] XP w s₀ mg mb s₁.heap → YP w s₁.heap →
      s₁.heap.get? fa = some o → o.data = .func (docDef d.name d.params d.body d.scope pm cd doc) → s₁.heap.CodeRec cd d.name → mg d.name = some (.ref fa) →
      s₁.heap.get? a = some { cls := .type "list", data := .seq vs.toArray } → IntsAre vs ns → ns.length ≤ n → s₁.gens = #[] →
      codeAny (model l.prog w) callerA (.call (.ref fa) ⟨[.ref a], []⟩) (fun r s' => r = .ok (.ret (.bool true)) ∧ OldK s₁.heap s'.heap ∧ s'.os = s₁.os ∧ AllBare s'.gens) s₁) :
    WalkO q loose XP YP l.row.toRowW d [] (fun f vs => PySem.call f vs) := by
  intro w s₀ s₁ mg mb G Y fa o pm cd doc dV kV ho hd hcd hD hmg hg args vals as hpre hlay hrd hwl hlo
  obtain rfl : dV = .none := Dflts.none hD hdf
  obtain rfl : kV = .none := Dflts.noKw hD
  obtain ⟨a, vs, ns, rfl, rfl, hobj, hints, hlen⟩ := script_of hn hpre hwl
  refine enter_call (codeAny_mono (call w s₀ s₁ mg mb fa o pm cd doc a vs ns G Y ho (fd_plain hd) hcd hmg hobj hints hlen hg) fun r s' hq => ?_)
  obtain ⟨rfl, h2, h3, h4⟩ := hq
  exact ⟨.inl ⟨.bool true, .bool true, [], rfl, fun _ => rfl, .bool true, post_true l _, fun _ => ⟨List.Pairwise.nil, fun _ hm => (nomatch hm)⟩⟩, h2, h3, h4⟩

section
variable {prog : Program} {w : World} {A : Around} {E : Value → Shared → Prop} {s : Shared} {K : Frag}

end
end Att

namespace L2
open PySem PySem.Spec PyProof.Rows

theorem vals_ints : ∀ {vs : List Value} {ns : List Int}, IntsAre vs ns → Vals (ns.map V.int) vs
  | _, _, .nil => .nil
  | _, _, .cons n t h => .cons ⟨t, rfl⟩ (vals_ints h)

def Only (H : Hp) : Prop := ∀ b, H b = none ∨ ∃ o xs, H b = some (.frz o (.lst xs))

theorem law_call {P : Program} {w : World} {K : PySem.W.Frag} {mg mb : Str → Option Value} {CX : CXT} {k : Nat} {fa a : Addr} {fd : FuncData} {x : Str} {sp : Sp} {s₁ : Shared} {vs : List Value} {ns : List Int}
    (KX : K.In s₁.heap) (hns : s₁.heap.Ns mainGlobals mg) (hb : s₁.heap.Ns builtinsNs mb) (hbb : ∀ x : Str, x ≠ "__name__" → mb x = bootBuiltins x) (hlim : s₁.heap.NoLimit) (hg : s₁.gens = #[])
    (ha : s₁.heap.get? a = some { cls := .type "list", data := .seq vs.toArray }) (hi : IntsAre vs ns) (hl : ns.length ≤ sizeLine) (hr : Room k callerA)
    (F : ∀ base : Heap, K.In base → base.Ns mainGlobals mg → FnOk P w K mg base CX k fa fd [x] sp) (hbind : ∀ (s : Shared) (u : Value), BindsTo s fd ⟨[u], []⟩ [(x, u)])
    (hsp : ∀ H : Hp, Only H → SqL K H a (ns.map V.int) → sp [.ref a] H (fun v _ => v = .bl true) fun _ _ _ => False)
    (hCX : ∀ H e s', CX [] H s₁ (fun _ _ _ => False) e s' → False) :
    codeAny (model P w) callerA (.call (.ref fa) ⟨[.ref a], []⟩) (fun r s' => r = .ok (.ret (.bool true)) ∧ OldK s₁.heap s'.heap ∧ s'.os = s₁.os ∧ AllBare s'.gens) s₁ := by
  have rv := vals_ints hi
  have lenV := hi.length
  -- from an abstract heap in which nothing but the script may be tracked
  have core : ∀ H : Hp, Only H → SqL K H a (ns.map V.int) → HOk P w H s₁.heap → (∀ b, H b ≠ none → b = a) → (H a ≠ none → K.lookup a = none) →
      codeAny (model P w) callerA (.call (.ref fa) ⟨[.ref a], []⟩) (fun r s' => r = .ok (.ret (.bool true)) ∧ OldK s₁.heap s'.heap ∧ s'.os = s₁.os ∧ AllBare s'.gens) s₁ := by
    intro H hO hS hok hA hK
    have base_of : ∀ {b : Addr} {o : Obj}, s₁.heap.get? b = some o → H b = none → (hidT s₁.heap H).get? b = some o := fun e n => hidT_get e n
    have noA : ∀ {b : Addr} {o : Obj} {es : Array DictEntry} {ep : Nat}, s₁.heap.get? b = some o → o.data = .dict es ep → H b = none := fun {b o es ep} e d => by
      cases q : H b with
      | none => rfl
      | some u =>
        have e' : b = a := hA b (by rw [q]; simp)
        subst e'
        rw [ha] at e; cases e
        have d' : Data.seq vs.toArray _ = Data.dict es ep := d
        cases d'
    have nsK : ∀ {b : Addr} {m : Str → Option Value}, s₁.heap.Ns b m → (hidT s₁.heap H).Ns b m := fun {b m} ⟨o, es, ep, e, d, r⟩ => ⟨o, es, ep, base_of e (noA e d), d, r⟩
    have hKb : K.In (hidT s₁.heap H) := fun b o e => base_of (KX b o e) (by
      cases q : H b with
      | none => rfl
      | some u =>
        have e' : b = a := hA b (by rw [q]; simp)
        subst e'
        rw [hK (by rw [q]; simp)] at e; cases e)
    have hM : Mod K mg (hidT s₁.heap H) := ⟨hKb, nsK hns, ⟨mb, nsK hb, hbb⟩, let ⟨mc, h1, h2⟩ := hlim; ⟨mc, nsK h1, h2⟩⟩
    have e0 : Env0 P w K mg (hidT s₁.heap H) callerA [] s₁ H := ⟨rfl, hM, fun b o e => of_hidT e, Nat.le_of_eq (hidT_size _ _), trivial, fun b hb => absurd (show b ∈ ([] : List Addr) from hb) (by simp), hok, .of_eq hg⟩
    refine codeAny_mono ((F _ hKb (nsK hns)).run callerA [] s₁ H ⟨[.ref a], []⟩ [.ref a] [.ref a] _ _ hr e0 (hbind s₁ (.ref a)) (.cons rfl .nil) (hsp H hO hS)) fun r s' h => ?_
    cases r with
    | error e => exact (hCX H e s' h).elim
    | ok fl =>
      cases fl with
      | next => exact False.elim h
      | brk => exact False.elim h
      | cont => exact False.elim h
      | ret u =>
        obtain ⟨v, H', os, bare, un, hok', r', q⟩ := h
        have q' : v = .bl true := q
        subst q'
        obtain rfl : u = Value.bool true := r'
        refine ⟨rfl, OldK.of_keep fun b o e => ?_, os, bare⟩
        cases q : H b with
        | none => exact un.keep b o e q (by intro z; exact absurd (show b ∈ ([] : List Addr) from z) (by simp)) (by simp)
        | some u =>
          rcases hO b with z | ⟨ob, xs, z⟩
          · rw [q] at z; cases z
          · have z2 := un.frzs b ob _ z
            obtain ⟨e1, _⟩ := hok b _ z
            obtain ⟨e2, _⟩ := hok' b _ z2
            rw [e] at e1; cases e1
            exact e2
  cases hk : K.lookup a with
  | some o =>
    -- the script is one of the module's own objects
    have e := KX a o hk
    rw [ha] at e
    cases e
    refine core (fun _ => none) (fun _ => .inl rfl) (.inr ⟨_, vs.toArray, _, hk, rfl, rfl, rfl, by rw [List.size_toArray, lenV]; exact hl, by simpa using rv⟩) (fun b u z => by have z' : (none : Option HO) = some u := z; cases z') (fun b z => absurd rfl z) fun z => absurd rfl z
  | none =>
    refine core (fun b => if b = a then some (.frz { cls := .type "list", data := .seq vs.toArray } (.lst (ns.map V.int))) else none) (fun b => ?_) (.inl (.inr ⟨{ cls := .type "list", data := .seq vs.toArray }, if_pos rfl⟩)) (fun b u z => ?_) (fun b z => ?_) fun _ => hk
    · by_cases hb : b = a
      · exact .inr ⟨_, _, if_pos hb⟩
      · exact .inl (if_neg hb)
    · by_cases hb : b = a
      · have z' := (if_pos hb).symm.trans z
        cases z'
        subst hb
        exact ⟨ha, by rw [List.length_map]; exact hl, vs, _, rv, ha⟩
      · have z' := (if_neg hb).symm.trans z
        cases z'
    · by_cases hb : b = a
      · exact hb
      · exact absurd (if_neg hb) z
end L2

namespace L2
open PySem PySem.Spec PyProof.Rows

theorem walk_of {l : PySem.W.OpenLaw} {n k : Nat} {q : Program} {loose : List Str} {XP : (Str → Option Value) → Heap → Prop} {YP : World → Heap → Prop} {d : DefRec} {K : Params → PySem.W.Frag} {CX : World → CXT} {sp : World → Sp} {x : Str}
    (hn : l.most = some n) (hn2 : n ≤ sizeLine) (hdf : d.params.defaults = []) (hr : Room k callerA)
    (hY : ∀ (w : World) (h : Heap), YP w h → (K w.params).In h)
    (F : ∀ (w : World) (mg : Str → Option Value) (fa : Addr) (h : Heap), (K w.params).In h → h.Ns mainGlobals mg → mg d.name = some (.ref fa) →
      ∃ fd : FuncData, (∀ (s : Shared) (u : Value), BindsTo s fd ⟨[u], []⟩ [(x, u)]) ∧
        ∀ base : Heap, (K w.params).In base → base.Ns mainGlobals mg → FnOk l.prog w (K w.params) mg base (CX w) k fa fd [x] (sp w))
    (hsp : ∀ (w : World) (H : Hp) (a : Addr) (ns : List Int), ns.length ≤ n → Only H → SqL (K w.params) H a (ns.map V.int) → sp w [.ref a] H (fun v _ => v = .bl true) fun _ _ _ => False)
    (hCX : ∀ (w : World) (H : Hp) (s : Shared) (e : Value) (s' : Shared), CX w [] H s (fun _ _ _ => False) e s' → False) :
    PySem.W.WalkO q loose XP YP l.row.toRowW d [] (fun f vs => PySem.call f vs) := by
  refine Att.attach_call hn hdf fun w s₀ s₁ mg mb fa o pm cd doc a vs ns G Y ho hd hcd hmg hobj hints hlen hg => ?_
  have KX := hY w _ Y
  obtain ⟨fd, hb, hF⟩ := F w mg fa _ KX G.T.g hmg
  exact law_call KX G.T.g G.T.b G.T.builtins G.T.nolimit hg hobj hints (Nat.le_trans hlen hn2) hr hF hb (fun H hO hS => hsp w H a ns hlen hO hS) fun H e s' => hCX w H s₁ e s'
end L2

/- THE LAST THEOREM (shape; LID, My.* are yours):
   My.Adr: a structure of the addresses that your layer names (classes, functions); My.Txt K t: a structure (Prop) of the equations over K;
   My.txt_mk : {K} {implicit addresses ..} (e1 : nsIn K mainGlobals "law" = some (some (.ref f))) (e2 : K.lookup f = some ⟨oc, od, .func (fnOf "law" "law" params body scope dV kV doc pm an cdv ct), sl⟩) (e3 : codeIn K cdv "law" = true) .. : ∃ t, My.Txt K t

set_option maxRecDepth 100000 in
set_option maxHeartbeats 0 in
theorem PySem.Challenge.cw_LID_holds : PySem.Challenge.rw_LID.Holds := by
  w_on; o_law; k_head; (case hw => w_witness2)
  k_fill
  refine L2.walk_of (l := PySem.Challenge.rw_LID) (n := 63) (k := 40) (x := "script") (CX := fun w => ..) (sp := fun _ => My.sp_law) rfl (by decide) rfl ⟨rfl, by decide, by decide⟩ (fun w h Y => PySem.W.kIn_of Y) ?F ?S ?C
  case F =>
    intro w mg fa h KX G hmg
    have T : ∃ t, My.Txt (L2.KOf KX) t := by
      dsimp only [L2.KOf]                          -- K must stand as «<heap const> w.params» for k_is
      refine' My.txt_mk ?e1 ?e2 ?e3 ..
      (case e1 => PySem.W.k_is)                    -- in the order: a name -> its address -> its object -> its parts
      (case e2 => PySem.W.k_is)
      ..
    obtain ⟨t, T⟩ := T
    have e0 := hmg.symm.trans (PySem.W.mg_of KX G T.law)
    cases e0                                       -- fa is the law's own address
    exact ⟨_, fun s u => .of_eq rfl, fun base kb nb => My.law_fn T kb nb⟩     -- if «.of_eq rfl» comes too early: refine' ⟨_, ?b, fun base kb nb => My.law_fn T kb nb⟩; exact fun s u => .of_eq rfl
  case S => exact fun w H a ns hl hO hS => ..
  case C => exact ..
(the tactic k_is has no namespace: write k_is) -/

namespace L2
open PySem PySem.Spec PyProof.Rows

def inClass (s : Stmt) (j : Nat) : Stmt := match s with
  | .ClassDef _ _ _ body _ _ _ _ _ _ _ => body.getD j (.Pass ⟨0, 0, 0, 0⟩)
  | _ => .Pass ⟨0, 0, 0, 0⟩
def defArgs (s : Stmt) : Arguments := match s with
  | .FunctionDef _ a _ _ _ _ _ _ _ _ => a
  | _ => { posonlyargs := [], args := [], vararg := none, kwonlyargs := [], kw_defaults := [], kwarg := none, defaults := [] }
def defBody (s : Stmt) : List Stmt := match s with
  | .FunctionDef _ _ b _ _ _ _ _ _ _ => b
  | _ => []
def defScope (s : Stmt) : Scope := match s with
  | .FunctionDef _ _ _ _ _ _ sc _ _ _ => sc
  | _ => { kind := .function, names := [], isGenerator := false, isCoroutine := false }

abbrev CX0 : CXT := fun _ _ _ _ _ _ => False
abbrev E0 : XK := fun _ _ _ => False
theorem pass0 {X : Cx} : Passes CX0 X E0 := fun _ _ _ _ _ _ _ h => h.elim

structure Fun (K : PySem.W.Frag) (x qual : Str) (st : Stmt) (f : Addr) (fd : FuncData) : Prop where
  ex : ∃ (oc : Value) (od : Option Addr) (kV doc pm : Value) (an : Option Addr) (cdv ct : Value) (osl : Array (Option Value)),
    fd = PySem.W.fnOf x qual (defArgs st) (defBody st) (defScope st) .none kV doc pm an cdv ct ∧ K.lookup f = some ⟨oc, od, .func fd, osl⟩ ∧ PySem.W.codeIn K cdv qual = true
  kp : PySem.W.keepIn K (.ref f) = true
section
variable {P : Program} {w : World} {K : PySem.W.Frag} {mg : Str → Option Value} {base : Heap}
theorem Fun.ok {x qual : Str} {st : Stmt} {f : Addr} {fd : FuncData} {N ps : List Str} {k : Nat} {sp : Sp} (F : Fun K x qual st f fd) (S : FnScope N ps (defScope st)) (len : ∀ vs H Q E, sp vs H Q E → vs.length = ps.length)
    (hbody : ∀ (cdv : Value) (A : Around) (outer : List Env) (s : Shared) (H : Hp) (vs : List V) (Q : VK) (E : XK), Room k (A.deeper (envOfC qual (defScope st) s.heap.objs.size f cdv)) → sp vs H Q E →
      ∃ t, PSs (cxOf CX0 P w K mg base N qual (defScope st) f cdv A outer s H E).nox (defBody st) t ∧ t { nx := fun _ H' => Q .non H', rt := Q } (start N vs) H) : FnOk P w K mg base CX0 (k + 1) f fd ps sp := by
  obtain ⟨oc, od, kV, doc, pm, an, cdv, ct, osl, rfl, lk, hcd⟩ := F.ex
  refine fn_of lk hcd S len fun A outer s H vs Q E hr hsp => ?_
  obtain ⟨t, h, q⟩ := hbody cdv A outer s H vs Q E hr hsp
  exact ⟨t, h.nox, q⟩
theorem Fun.binds {x qual : Str} {st : Stmt} {f : Addr} {fd : FuncData} {ps : List Str} (F : Fun K x qual st f fd)
    (h : ∀ (kV doc pm : Value) (an : Option Addr) (cdv ct : Value) (us : List Value), us.length = ps.length → bindArgs (PySem.W.fnOf x qual (defArgs st) (defBody st) (defScope st) .none kV doc pm an cdv ct) ⟨us, []⟩ = pure (ps.zip us)) : Binds K fd ps [] := by
  obtain ⟨oc, od, kV, doc, pm, an, cdv, ct, osl, rfl, lk, hcd⟩ := F.ex
  exact .all (h kV doc pm an cdv ct)
theorem fun_mk {x qual : Str} {st : Stmt} {f : Addr} {oc : Value} {od an : Option Addr} {osl : Array (Option Value)} {kV doc pm cdv ct : Value} (l : K.lookup f = some ⟨oc, od, .func (PySem.W.fnOf x qual (defArgs st) (defBody st) (defScope st) .none kV doc pm an cdv ct), osl⟩)
    (c : PySem.W.codeIn K cdv qual = true) (k : PySem.W.keepIn K (.ref f) = true) : Fun K x qual st f (PySem.W.fnOf x qual (defArgs st) (defBody st) (defScope st) .none kV doc pm an cdv ct) := ⟨⟨oc, od, kV, doc, pm, an, cdv, ct, osl, rfl, l, c⟩, k⟩
end
theorem hu_of {A : Around} {k : Nat} (hr : Room k A) : A.units + 1 < cLine := Nat.lt_of_le_of_lt (Nat.add_le_add_left (by decide : 1 ≤ 64) _) hr.units
theorem small1000 {n : Nat} (h : n ≤ 1000) : n < sizeLine := Nat.lt_of_le_of_lt h (by decide)

section
variable {X : Cx}
theorem pv (i : Nat) {x : Str} {pos : Pos} (hN : X.N[i]? = some x := by rfl) (hv : Vis X.env.scope x := by first | exact Or.inl rfl | exact Or.inr (Or.inl rfl) | exact Or.inr (Or.inr rfl)) (hd : (x == ("__debug__" : Str)) = false := by decide)
    (hcd : (x == ("__classdict__" : Str)) = false := by decide) : PE X (.Name x pos) (tVar i) := pe_var hN hv hd hcd
end

theorem iteF {A B : Prop} (h : B) : if false = true then A else B := by
  rw [if_neg Bool.false_ne_true]
  exact h
theorem iteT {A B : Prop} (h : A) : if true = true then A else B := by
  rw [if_pos rfl]
  exact h
theorem ite2 {c A B : Prop} [Decidable c] (h1 : c → A) (h2 : ¬ c → B) : if c then A else B := by
  by_cases h : c
  · rw [if_pos h]
    exact h1 h
  · rw [if_neg h]
    exact h2 h
theorem iteNS {c A B : Prop} [Decidable c] (hc : c) (h : B) : if (!decide c) = true then A else B := by
  rw [decide_eq_true hc]
  exact iteF h

def Same (H H' : Hp) : Prop := ∀ b o, H b = some o → H' b = some o
theorem Same.refl (H : Hp) : Same H H := fun _ _ h => h
theorem Same.trans {H H1 H2 : Hp} (a : Same H H1) (b : Same H1 H2) : Same H H2 := fun c o h => b c o (a c o h)
theorem Same.free {H H' : Hp} (e : Same H H') {l : Addr} (h : H' l = Option.none) : H l = Option.none := by
  cases q : H l with
  | none => rfl
  | some o =>
    rw [e l o q] at h
    cases h
theorem Same.seq {K : PySem.W.Frag} {H H' : Hp} {a : Addr} {xs : List V} (e : Same H H') (h : SqL K H a xs) : SqL K H' a xs := by
  rcases h with (h | ⟨o, h⟩) | h
  · exact .inl (.inl (e _ _ h))
  · exact .inl (.inr ⟨o, e _ _ h⟩)
  · exact .inr h

end L2

namespace L2
open PySem PySem.Spec PyProof.Rows

def closOf (cells : List (Str × Addr)) : List (Str × NameKind) → List (Str × Addr) → List (Str × Addr)
  | [], cs => cs
  | (n, k) :: r, cs => closOf cells r (if (k == NameKind.free) = true then (n, (cells.lookup n).getD 0) :: cs else cs)
theorem closure_go {env : Env} {f : Str × NameKind → List (Str × Addr) → Sem (ForInStep (List (Str × Addr)))}
    (hf1 : ∀ n k cs c, (k == NameKind.free) = true → env.cells.lookup n = some c → f (n, k) cs = pure (.yield ((n, c) :: cs)))
    (hf2 : ∀ n k cs, (k == NameKind.free) = false → f (n, k) cs = pure (.yield cs)) :
    ∀ (names : List (Str × NameKind)) (cs : List (Str × Addr)), (∀ n k, (n, k) ∈ names → (k == NameKind.free) = true → ∃ c, env.cells.lookup n = some c) →
      forIn names cs f = (pure (closOf env.cells names cs) : Sem (List (Str × Addr)))
  | [], cs, _ => by rw [List.forIn_nil]; rfl
  | (n, k) :: r, cs, h => by
    have ih := fun cs => closure_go hf1 hf2 r cs fun m j hm => h m j (List.mem_cons_of_mem _ hm)
    rw [List.forIn_cons]
    cases e : (k == NameKind.free) with
    | true =>
      obtain ⟨c, hc⟩ := h n k List.mem_cons_self e
      rw [hf1 n k cs c e hc, pure_bind]
      show forIn r ((n, c) :: cs) f = _
      rw [ih]
      conv => rhs; unfold closOf
      rw [if_pos e, hc]
      rfl
    | false =>
      rw [hf2 n k cs e, pure_bind]
      show forIn r cs f = _
      rw [ih]
      conv => rhs; unfold closOf
      rw [if_neg (by rw [e]; exact Bool.false_ne_true)]
theorem closure_is {scope : Scope} {env : Env} (h : ∀ n k, (n, k) ∈ scope.names → (k == NameKind.free) = true → ∃ c, env.cells.lookup n = some c) : closureFor scope env = pure (closOf env.cells scope.names []) := by
  simp only [closureFor]
  rw [closure_go (env := env) ?_ ?_ scope.names [] h]
  · rfl
  · intro n k cs c e hc
    show (if (k == NameKind.free) = true then _ else _) = _
    rw [if_pos e]
    unfold cellOf
    rw [hc]
    rfl
  · intro n k cs e
    show (if (k == NameKind.free) = true then _ else _) = _
    rw [if_neg (by rw [e]; exact Bool.false_ne_true)]
theorem closOf_look {cells : List (Str × Addr)} {x : Str} {c : Addr} : ∀ {names : List (Str × NameKind)} {cs : List (Str × Addr)}, (closOf cells names cs).lookup x = some c → cs.lookup x = some c ∨ ((x, NameKind.free) ∈ names ∧ (cells.lookup x).getD 0 = c)
  | [], cs, h => .inl h
  | (n, k) :: r, cs, h => by
    unfold closOf at h
    rcases closOf_look h with q | ⟨q1, q2⟩
    · by_cases e : (k == NameKind.free) = true
      · rw [if_pos e] at q
        by_cases hx : x = n
        · subst hx
          rw [List.lookup_cons_self] at q
          have hk : k = NameKind.free := eq_of_beq e
          exact .inr ⟨by rw [hk]; exact List.mem_cons_self, Option.some.inj q⟩
        · have hb : (x == n) = false := beq_eq_false_iff_ne.mpr hx
          simp only [List.lookup_cons, hb] at q
          exact .inl q
      · rw [if_neg e] at q
        exact .inl q
    · exact .inr ⟨List.mem_cons_of_mem _ q1, q2⟩
theorem closOf_has {cells : List (Str × Addr)} {x : Str} : ∀ {names : List (Str × NameKind)} {cs : List (Str × Addr)}, ((x, NameKind.free) ∈ names ∨ ∃ c, cs.lookup x = some c) → ∃ c, (closOf cells names cs).lookup x = some c
  | [], cs, h => by
    rcases h with h | h
    · cases h
    · exact h
  | (n, k) :: r, cs, h => by
    unfold closOf
    apply closOf_has
    rcases h with h | ⟨c, h⟩
    · rcases List.mem_cons.mp h with h | h
      · cases h
        right
        rw [if_pos (by rfl)]
        exact ⟨_, List.lookup_cons_self⟩
      · exact .inl h
    · right
      by_cases e : (k == NameKind.free) = true
      · rw [if_pos e]
        by_cases hx : x = n
        · subst hx
          exact ⟨_, List.lookup_cons_self⟩
        · have hb : (x == n) = false := beq_eq_false_iff_ne.mpr hx
          exact ⟨c, by simp only [List.lookup_cons, hb]; exact h⟩
      · rw [if_neg e]
        exact ⟨c, h⟩
theorem relabel_look {env : Env} {x : Str} {k : NameKind} : ∀ {names : List (Str × NameKind)},
    (names.map fun (n, k) => if (k == NameKind.free && env.scope.kind == .function && env.kindOf n == some .cell) then (n, NameKind.cell) else (n, k)).lookup x = some k →
      ∃ k0, names.lookup x = some k0 ∧ (k = k0 ∨ (k0 = .free ∧ k = .cell))
  | [], h => by cases h
  | (n, j) :: r, h => by
    have ih := @relabel_look env x k r
    replace h : List.lookup x ((if (j == NameKind.free && env.scope.kind == .function && env.kindOf n == some .cell) = true then (n, NameKind.cell) else (n, j)) :: _) = some k := h
    cases hx : x == n with
    | true =>
      by_cases hc : (j == NameKind.free && env.scope.kind == .function && env.kindOf n == some .cell) = true
      · rw [if_pos hc] at h
        simp only [List.lookup_cons, hx] at h ⊢
        have hj : j = NameKind.free := by
          rw [Bool.and_eq_true, Bool.and_eq_true] at hc
          exact eq_of_beq hc.1.1
        exact ⟨j, rfl, .inr ⟨hj, (Option.some.inj h).symm⟩⟩
      · rw [if_neg hc] at h
        simp only [List.lookup_cons, hx] at h ⊢
        exact ⟨j, rfl, .inl (Option.some.inj h).symm⟩
    | false =>
      by_cases hc : (j == NameKind.free && env.scope.kind == .function && env.kindOf n == some .cell) = true
      · rw [if_pos hc] at h
        simp only [List.lookup_cons, hx] at h ⊢
        exact ih h
      · rw [if_neg hc] at h
        simp only [List.lookup_cons, hx] at h ⊢
        exact ih h
theorem relabel_free {env : Env} {x : Str} : ∀ {names : List (Str × NameKind)}, names.lookup x = some .free →
    (names.map fun (n, k) => if (k == NameKind.free && env.scope.kind == .function && env.kindOf n == some .cell) then (n, NameKind.cell) else (n, k)).lookup x = some .cell ∨
    (names.map fun (n, k) => if (k == NameKind.free && env.scope.kind == .function && env.kindOf n == some .cell) then (n, NameKind.cell) else (n, k)).lookup x = some .free
  | [], h => by cases h
  | (n, j) :: r, h => by
    have ih := @relabel_free env x r
    show List.lookup x ((if (j == NameKind.free && env.scope.kind == .function && env.kindOf n == some .cell) = true then (n, NameKind.cell) else (n, j)) :: _) = _ ∨
      List.lookup x ((if (j == NameKind.free && env.scope.kind == .function && env.kindOf n == some .cell) = true then (n, NameKind.cell) else (n, j)) :: _) = _
    cases hx : x == n with
    | true =>
      simp only [List.lookup_cons, hx] at h
      cases h
      by_cases hc : (NameKind.free == NameKind.free && env.scope.kind == .function && env.kindOf n == some .cell) = true
      · rw [if_pos hc]
        simp only [List.lookup_cons, hx]
        exact .inl trivial
      · rw [if_neg hc]
        simp only [List.lookup_cons, hx]
        exact .inr trivial
    | false =>
      simp only [List.lookup_cons, hx] at h
      by_cases hc : (j == NameKind.free && env.scope.kind == .function && env.kindOf n == some .cell) = true
      · rw [if_pos hc]
        simp only [List.lookup_cons, hx]
        exact ih h
      · rw [if_neg hc]
        simp only [List.lookup_cons, hx]
        exact ih h

def cxComp (X : Cx) (N : List Str) (scope : Scope) (xe : Value → Shared → Prop) (C : Addr) (s : Shared) (H : Hp) (fp : List Addr) : Cx where
  prog := X.prog
  w := X.w
  K := X.K
  mg := X.mg
  base := X.base
  A := X.A
  N := N
  s₀ := s
  H₀ := H
  env := compEnvC scope (closOf X.env.cells scope.names []) C X.env
  outer := X.stack
  stack := X.stack
  ex := fp
  fn := fun _ => false
  calm := X.calm
  pn := []
  xe := xe
def takeSt (σ : St) (js : List Nat) : St := js.map fun j => (σ[j]?).getD none
structure CompText (X : Cx) (scope : Scope) (own frees : List Str) (js : List Nat) : Prop where
  kind : scope.kind = .function
  nocell : ∀ y ∈ scope.names, y.2 ≠ .cell
  names : ∀ y ∈ scope.names, y.2 = .local → scope.names.lookup y.1 = some .local
  free : ∀ y ∈ scope.names, y.2 = .free → X.env.scope.names.lookup y.1 = some .cell ∨ X.env.scope.names.lookup y.1 = some .free
  at_ : js.map (fun j => X.N[j]?) = frees.map some
  fr : ∀ x ∈ frees, scope.names.lookup x = some .free
theorem takeSt_get {σ : St} {js : List Nat} {i : Nat} {v : V} (h : (takeSt σ js)[i]? = some (some v)) : ∃ j, js[i]? = some j ∧ σ[j]? = some (some v) := by
  unfold takeSt at h
  rw [List.getElem?_map] at h
  cases e : js[i]? with
  | none => rw [e] at h; cases h
  | some j =>
    rw [e] at h
    have h' : (σ[j]?).getD none = some v := Option.some.inj h
    refine ⟨j, rfl, ?_⟩
    cases q : σ[j]? with
    | none => rw [q] at h'; cases h'
    | some o => rw [q] at h'; rw [show o = some v from h']

section
variable {X : Cx}
theorem closure_ok {pins : List (Addr × Obj)} {σ : St} {H : Hp} {s : Shared} {scope : Scope} {own frees : List Str} {js : List Nat} (I : Inv X pins σ H s) (T : CompText X scope own frees js) :
    ∀ n k, (n, k) ∈ scope.names → (k == NameKind.free) = true → ∃ c, X.env.cells.lookup n = some c := fun n k hm e => by
  have hk : k = NameKind.free := eq_of_beq e
  exact I.ok.has n (T.free (n, k) hm hk)
theorem inv_comp {pins : List (Addr × Obj)} {σ : St} {H : Hp} {s : Shared} {scope : Scope} {own frees : List Str} {js : List Nat} {fp : List Addr} {D C : Addr} {h1 : Heap} {t1 : Nat} {m : Str → Option Value} {xe : Value → Shared → Prop}
    (I : Inv X pins σ H s) (T : CompText X scope own frees js) (hf : ∀ b ∈ fp, FpOk X pins H b) (hfo : ∀ b ∈ fp, ∃ o, s.heap.get? b = some o) (hD : s.heap.objs.size ≤ D) (hC : s.heap.objs.size ≤ C) (hDC : D ≠ C)
    (old : ∀ b o, s.heap.get? b = some o → h1.get? b = some o) (hl : h1.get? D = some { cls := .type "list", data := .seq ([] : List Value).toArray 0 }) (hn : h1.Ns C m) :
    Inv (cxComp X (own ++ frees) scope xe C s H fp) [] (List.replicate own.length none ++ takeSt σ js) (upd H D (.lst [])) { s with heap := h1, toks := t1 } := by
  have cells : ∀ x c, (closOf X.env.cells scope.names []).lookup x = some c → X.env.cells.lookup x = some c := fun x c h => by
    rcases closOf_look h with q | ⟨q1, q2⟩
    · cases q
    · obtain ⟨c', hc'⟩ := closure_ok I T x .free q1 rfl
      rw [hc'] at q2
      rw [hc']
      exact congrArg some q2
  have lt_of : ∀ b o, s.heap.get? b = some o → b < s.heap.objs.size := fun b o e => Heap.lt_size e
  have hcl : ∀ x c, X.env.cells.lookup x = some c → c < s.heap.objs.size := fun x c e => by
    obtain ⟨v, q⟩ := I.cell x c e
    exact q.lt
  have frlt : ∀ b ∈ frs X.stack, b < s.heap.objs.size := fun b hb => by
    obtain ⟨_, o, ho, _⟩ := I.stack.mem hb
    exact Heap.lt_size ho
  have hHD : H D = none := I.hok.fresh hD
  have hHC : H C = none := I.hok.fresh hC
  refine ⟨⟨I.ok.mod, T.kind, I.ok.glob, I.ok.blt, hC, fun x y c a b => I.ok.inj x y c (cells x c a) (cells y c b), fun x hx => ?_, fun x c z _ => (nomatch z), I.ok.hd, I.ok.frames, .inl rfl, fun b hb => ⟨?_, fun x c e z => ?_⟩,
      fun b o e => I.bs b o e, Nat.le_trans I.ok.bsz I.sz, fun b o e hb => ?_, fun b hb z => ?_, I.stack, I.stkFree⟩,
    rfl, I.bare, Un.laid old hD hHD, ⟨m, hn, fun i x v e1 e2 e3 => ?_⟩, fun x c e => ?_, ?_, fun x c e => ?_, fun p hp => absurd (show p ∈ ([] : List (Addr × Obj)) from hp) (by simp), ?_, ?_⟩
  · -- has
    have hx : (relabel scope X.env).names.lookup x = some .cell ∨ (relabel scope X.env).names.lookup x = some .free := hx
    have hf0 : (x, NameKind.free) ∈ scope.names := by
      rcases hx with hx | hx
      · obtain ⟨k0, q, r⟩ := relabel_look hx
        have hm := PySem.mem_of_lookup q
        rcases r with r | ⟨r, _⟩
        · exact absurd r.symm (T.nocell _ hm)
        · rw [r] at hm; exact hm
      · obtain ⟨k0, q, r⟩ := relabel_look hx
        have hm := PySem.mem_of_lookup q
        rcases r with r | ⟨_, r⟩
        · rw [← r] at hm; exact hm
        · cases r
    exact closOf_has (.inl hf0)
  · -- b ≠ C
    obtain ⟨o, ho⟩ := hfo b hb
    exact Nat.ne_of_lt (Nat.lt_of_lt_of_le (lt_of b o ho) hC)
  · exact (hf b hb).2.2.2.2.1 x c (cells x c e) z
  · -- noex
    obtain ⟨_, _, _, f3, _, _⟩ := hf b hb
    rcases f3 with z | z
    · exact I.ok.noex b o e z
    · exact absurd (Nat.lt_of_lt_of_le (Heap.lt_size (I.ok.bs b o e).1) z) (Nat.lt_irrefl _)
  · -- exfs
    obtain ⟨_, f1, f2, _⟩ := hf b hb
    rcases List.mem_cons.mp (I.stkSub b z) with q | q
    · exact f1 q
    · exact f2 q
  · -- loc
    by_cases hi : i < own.length
    · rw [List.getElem?_append_left (by simpa using hi), List.getElem?_replicate, if_pos hi] at e2
      cases e2
    · rw [List.getElem?_append_right (by simpa using hi), List.length_replicate] at e2
      replace e1 : (own ++ frees)[i]? = some x := e1
      rw [List.getElem?_append_right (by (first | lia | omega))] at e1
      obtain ⟨j, hj, hσ⟩ := takeSt_get e2
      have hN : X.N[j]? = some x := by
        have q := congrArg (fun l => l[i - own.length]?) T.at_
        simp only [List.getElem?_map, hj, e1, Option.map_some] at q
        exact Option.some.inj q
      have hfx := T.fr x (List.mem_of_getElem? e1)
      have hm := PySem.mem_of_lookup hfx
      have hk := T.free (x, .free) hm rfl
      obtain ⟨m0, hn0, hl0⟩ := I.loc
      obtain ⟨u, r, l⟩ := hl0 j x v hN hσ (by rcases hk with k | k; exact .inr (.inl k); exact .inr (.inr k))
      refine ⟨u, r, .inr ⟨relabel_free hfx, ?_⟩⟩
      rcases l with ⟨hkl, _⟩ | ⟨_, c, hc, hcell⟩
      · have hkl : X.env.scope.names.lookup x = some .local := hkl
        rcases hk with k | k <;> (rw [hkl] at k; cases k)
      · obtain ⟨c', hc'⟩ := closOf_has (cells := X.env.cells) (names := scope.names) (cs := []) (x := x) (.inl hm)
        have q := cells x c' hc'
        rw [hc] at q
        cases q
        exact ⟨c, hc', hcell.keeps old⟩
  · -- cell
    obtain ⟨v, q⟩ := I.cell x c (cells x c e)
    exact ⟨v, q.keeps old⟩
  · -- free
    show upd H D (.lst []) C = none
    rw [upd_ne (Ne.symm hDC)]
    exact hHC
  · show upd H D (.lst []) c = none
    have e := cells x c e
    rw [upd_ne (Nat.ne_of_lt (Nat.lt_of_lt_of_le (hcl x c e) hD))]
    exact I.freeC x c e
  · exact I.hok.laid old hD ⟨Nat.zero_le _, [], 0, .nil, hl⟩
  · show _ = (own ++ frees).length
    have q := congrArg List.length T.at_
    rw [List.length_map, List.length_map] at q
    rw [List.length_append, List.length_append, List.length_replicate]
    unfold takeSt
    rw [List.length_map, q]

theorem inv_comp_back {pins : List (Addr × Obj)} {σ σ' : St} {H H' : Hp} {s s' : Shared} {scope : Scope} {N : List Str} {fp : List Addr} {C : Addr} {h' : Heap} {xe : Value → Shared → Prop}
    (I : Inv X pins σ H s) (hf : ∀ b ∈ fp, FpOk X pins H b) (hC : s.heap.objs.size ≤ C) (J : Inv (cxComp X N scope xe C s H fp) [] σ' H' s') (sb : Heap.SameBut C s'.heap h') : Inv X pins σ H' { s' with heap := h' } := by
  have hHC : H' C = none := J.free
  refine I.call' (ch := fp) J.os ?_ ?_ J.bare (fun b hb => ?_)
  · have u : Un (frs X.stack) fp H H' s.heap s'.heap := J.base
    have ne : ∀ b o, s.heap.get? b = some o → b ≠ C := fun b o e => Nat.ne_of_lt (Nat.lt_of_lt_of_le (Heap.lt_size e) hC)
    refine ⟨fun b o e n hb hx => (sb.2 b (ne b o e)).trans (u.keep b o e n hb hx), fun b o e n hb hx => ?_, u.free, fun b o e hx => ?_, u.tups, u.frzs, u.tbls⟩
    · obtain ⟨sl, q⟩ := u.slot b o e n hb hx
      exact ⟨sl, (sb.2 b (ne b o e)).trans q⟩
    · obtain ⟨o', q⟩ := u.there b o e hx
      exact ⟨o', (sb.2 b (ne b o e)).trans q⟩
  · intro b ob e
    refine (J.hok b ob e).stay (fun c w' hc q => (sb.2 c ?_).trans q) (fun _ q => q) fun _ _ q => q
    rintro rfl
    rcases hc with rfl | hc
    · rw [hHC] at e; cases e
    · rw [hHC] at hc; cases hc
  · obtain ⟨_, f1, _, f3, f4, f5⟩ := hf b hb
    exact ⟨f3, f1, f4, f5⟩
end

section
variable {prog : Program} {w : World} {A : Around} {R : Result → Shared → Prop} {s : Shared}
abbrev testsOf (ifs : List Expr) (env : Env) : Sem Bool := forIn ifs true fun c r => if r = true then do let ok ← isTrue c env (eval c env); pure (ForInStep.yield ok) else pure (ForInStep.yield r)
theorem compLoop_any {elt target iter : Expr} {ifs : List Expr} {scope : Scope} {pos : Pos} {it acc : Value} {env : Env} (I : Nat → Shared → Prop)
    (turn : ∀ n s, I n s → wpAny (model prog w) A (pyNext it) (fun r s₁ => match r with
      | none => R (.ok .next) s₁
      | some v => wpAny (model prog w) A (letOwnedTupleGo target it v) (fun _ s₀ => wpAny (model prog w) A (assign target env v) (fun _ s₂ =>
          wpAny (model prog w) A (testsOf ifs env) (fun ok s₃ =>
            if ok = true then wpAny (model prog w) A (eval elt env) (fun x s₄ =>
              wpAny (model prog w) A (call (.builtin "list.append") [acc, x]) (fun _ s₅ => ∃ m, m < n ∧ I m s₅) (notedBy (model prog w) A env fun e s' => R (.error e) s') s₄) (notedBy (model prog w) A env fun e s' => R (.error e) s') s₃
            else ∃ m, m < n ∧ I m s₃) (notedBy (model prog w) A env fun e s' => R (.error e) s') s₂) (notedBy (model prog w) A env fun e s' => R (.error e) s') s₀) (notedBy (model prog w) A env fun e s' => R (.error e) s') s₁) (notedBy (model prog w) A env fun e s' => R (.error e) s') s)
    (n : Nat) (h : I n s) :
    codeAny (model prog w) A (.compLoop (.ListComp elt [⟨target, iter, ifs, 0⟩] scope pos) 0 it acc env) R s := by
  refine codeAny_loop rfl I (fun n s hI => ?_) n h
  show wpAny _ A ((compTurn (.ListComp elt [⟨target, iter, ifs, 0⟩] scope pos) 0 it acc env).onRaise (fun x => do noteFrame x env; theTreesLotGoes x)) _ _ s
  refine wpAny_noted ?_
  rw [compTurn_list]
  refine wpAny_bind (wpAny_standAt (wpAny_bind (wpAny_mono (turn n s hI) (fun r s₁ h₁ => ?_) fun _ _ h' => h')))
  cases r with
  | none => exact wpAny_pure h₁
  | some v =>
    refine wpAny_bind (wpAny_mono h₁ (fun _ s₀ h₀ => ?_) fun _ _ h' => h')
    refine wpAny_bind (wpAny_mono h₀ (fun _ s₂ h₂ => wpAny_bind (wpAny_mono h₂ (fun ok s₃ h₃ => ?_) fun _ _ h' => h')) fun _ _ h' => h')
    cases ok with
    | false => exact wpAny_pure ⟨rfl, h₃⟩
    | true =>
      exact wpAny_bind (wpAny_bind (wpAny_mono h₃ (fun x s₄ h₄ => wpAny_bind (wpAny_mono h₄ (fun _ s₅ h₅ => wpAny_pure (wpAny_pure ⟨rfl, h₅⟩)) fun _ _ h' => h')) fun _ _ h' => h'))
end

def PTs (X : Cx) (ifs : List Expr) (t : TT) : Prop :=
  ∀ (pins : List (Addr × Obj)) (s : Shared) (σ : St) (H : Hp) (Q : Bool → Hp → Prop), Inv X pins σ H s → t σ H Q → wpAny (model X.prog X.w) X.A (testsOf ifs X.env) (TP X pins σ Q) X.xe s
def tTrue : TT := fun _ H Q => Q true H
theorem pts_nil {X : Cx} : PTs X [] tTrue := fun _ _ _ H _ I h => wpAny_tests_nil ⟨H, I, h⟩
theorem pts_one {X : Cx} {c : Expr} {t : TT} (h : PT X c t) : PTs X [c] t := fun pins s σ H Q I q => wpAny_tests_one (h pins s σ H Q I q)

def CompLoop (J : It) (g : TG) (tt : TT) (te : TE) (n : Nat) (fr : St) (D : Addr) (Q : Hp → Prop) (H1 : Hp) : Prop :=
  ∃ W : Nat → Nat → List V → Hp → Prop, (∃ m, W 0 m [] H1) ∧ ∀ i m acc H, W i m acc H → H D = some (.lst acc) ∧
    ((J.stop i H ∧ Q H) ∨ (J.go i H ∧ acc.length < sizeLine ∧ ∃ N : List V → Hp → Prop, (∀ acc' H', N acc' H' → ∃ m', m' < m ∧ W (i + 1) m' acc' H') ∧
      ∀ x H', J.yld i H x H' → g x (List.replicate n none ++ fr) H' fun σ2 H2 => σ2.drop n = fr ∧ tt σ2 H2 fun b H3 =>
      if b = true then te σ2 H3 fun v H4 => H4 D = some (.lst acc) ∧ N (acc ++ [v]) (upd H4 D (.lst (acc ++ [v])))
      else N acc H3))
def tComp (wi : TI) (g : TG) (tt : TT) (te : TE) (n : Nat) (js : List Nat) : TE := fun σ H Q => wi σ H fun J H1 => ∀ D, H1 D = none → CompLoop J g tt te n (takeSt σ js) D (fun H2 => Q (.ref D) H2) (upd H1 D (.lst []))

structure TurnX (A : Around) (cm : Bool) (P : Program) (w : World) (K : PySem.W.Frag) (tg : Expr) (J : It) (fp : List Addr) (it : Addr) (tn : Nat → Heap → Prop) : Prop where
  mem : it ∈ fp
  obj : ∀ i h, tn i h → ∀ b ∈ fp, ∃ o, h.get? b = some o ∧ ∀ v, o.data ≠ .cell v
  keep : ∀ i h h', tn i h → (∀ b ∈ fp, ∀ o, h.get? b = some o → h'.get? b = some o) → tn i h'
  item : ∀ (X : Cx), X.prog = P → X.w = w → X.K = K → X.A = A → X.calm = cm → ∀ (i : Nat) (pins : List (Addr × Obj)) (s : Shared) (σ : St) (H : Hp) (E : Value → Shared → Prop), Inv X pins σ H s → (∀ b ∈ fp, FpOk X pins H b) → tn i s.heap → J.go i H →
    wpAny (model P w) X.A (pyNext (.ref it)) (fun r s1 => ∃ u, r = some u ∧
      wpAny (model P w) X.A (letOwnedTupleGo tg (.ref it) u) (fun _ s2 => ∃ x H', Inv X pins σ H' s2 ∧ RelV x u ∧ J.yld i H x H' ∧ tn (i + 1) s2.heap ∧ ∀ b ∈ fp, H' b = none) E s1) E s
  done : ∀ (X : Cx), X.prog = P → X.w = w → X.K = K → X.A = A → X.calm = cm → ∀ (i : Nat) (pins : List (Addr × Obj)) (s : Shared) (σ : St) (H : Hp) (E : Value → Shared → Prop), Inv X pins σ H s → (∀ b ∈ fp, FpOk X pins H b) → tn i s.heap → J.stop i H →
    wpAny (model P w) X.A (pyNext (.ref it)) (fun r s1 => r = none ∧ Inv X pins σ H s1) E s
  self : ∀ (A : Around) (i : Nat) (s : Shared) (Q : Value → Shared → Prop) (E : Value → Shared → Prop), tn i s.heap → Q (.ref it) s → wpAny (model P w) A (pyIter (.ref it)) Q E s
theorem Turn.x {A : Around} {cm : Bool} {P : Program} {w : World} {K : PySem.W.Frag} {tg : Expr} {J : It} {fp : List Addr} {it : Addr} {tn : Nat → Heap → Prop} (T : Turn P w K tg J fp it tn) (hc : cm = true) : TurnX A cm P w K tg J fp it tn :=
  ⟨T.mem, T.obj, T.keep, fun X a b c _ d => T.item X a b c (d.trans hc), fun X a b c _ d => T.done X a b c (d.trans hc), T.self⟩
section
variable {X : Cx} {elt iter tg : Expr} {ifs : List Expr} {scope : Scope} {pos : Pos} {own frees : List Str} {js : List Nat} {wi : TI} {g : TG} {tt : TT} {te : TE}
theorem comp_block {pins : List (Addr × Obj)} {σ : St} {H2 : Hp} {s2 : Shared} {it : Addr} {fp : List Addr} {tn : Nat → Heap → Prop} {J : It} {E : Value → Shared → Prop} {RR : Value → Addr → Result → Shared → Prop} {QQ : Addr → Hp → Prop}
    (T : CompText X scope own frees js)
    (hg : ∀ C s H fp, PG (cxComp X (own ++ frees) scope (fun _ _ => False) C s H fp) tg g)
    (ht : ∀ C s H fp, PTs (cxComp X (own ++ frees) scope (fun _ _ => False) C s H fp) ifs tt)
    (he : ∀ C s H fp, PE (cxComp X (own ++ frees) scope (fun _ _ => False) C s H fp) elt te)
    (I2 : Inv X pins σ H2 s2) (TT' : TurnX X.A X.calm X.prog X.w X.K tg J fp it tn) (st2 : tn 0 s2.heap) (f2 : ∀ b ∈ fp, FpOk X pins H2 b)
    (hl : ∀ D, H2 D = none → CompLoop J g tt te own.length (takeSt σ js) D (QQ D) (upd H2 D (.lst [])))
    (hRR : ∀ D C σ' H' s', s2.heap.objs.size ≤ C → Inv (cxComp X (own ++ frees) scope (fun _ _ => False) C s2 H2 fp) [] σ' H' s' → QQ D H' → RR (.ref D) C (.ok .next) s') :
    wpAny (model X.prog X.w) X.A (newList []) (fun acc s₃ => wpAny (model X.prog X.w) X.A (newFunctionEnv scope X.env.globals (closOf X.env.cells scope.names []) [] X.env.qual none .none (some X.env)) (fun cenv s₄ =>
      codeAny (model X.prog X.w) X.A (.compStart (.ListComp elt [⟨tg, iter, ifs, 0⟩] scope pos) 0 (.ref it) acc { cenv with scope := relabel scope X.env }) (RR acc cenv.locals) s₄) E s₃) E s2 := by
  refine wpAny_newObj_type (wpAny_newFunctionEnv T.nocell (by intro y hy; simp at hy) (fun h₁ hns₁ hsb₁ => ?_) T.kind)
  dsimp only at hns₁ hsb₁ ⊢
  generalize hH2 : s2.heap.push { cls := .type "list", dict := none, data := .seq ([] : List Value).toArray } = G2 at hns₁ hsb₁ ⊢
  have hC : G2.objs.size = s2.heap.objs.size + 1 := by rw [← hH2, Heap.size_push]
  have hDC : s2.heap.objs.size ≠ G2.objs.size := by rw [hC]; exact Nat.ne_of_lt (Nat.lt_succ_self _)
  have hCle : s2.heap.objs.size ≤ G2.objs.size := by rw [hC]; exact Nat.le_succ _
  have below : ∀ b, b < s2.heap.objs.size → b ≠ G2.objs.size := fun b hb => by rw [hC]; exact Nat.ne_of_lt (Nat.lt_succ_of_lt hb)
  have old : ∀ b o, s2.heap.get? b = some o → h₁.get? b = some o := fun b o e => hsb₁.extBut b o (below b (Heap.lt_size e)) (Heap.get?_push_of_some _ (hH2 ▸ Heap.get?_push_of_some _ e))
  have hacc : h₁.get? s2.heap.objs.size = some { cls := .type "list", data := .seq ([] : List Value).toArray 0 } := hsb₁.extBut _ _ hDC (Heap.get?_push_of_some _ (hH2 ▸ Heap.get?_push_size _ rfl))
  have fpo : ∀ b ∈ fp, ∃ o, s2.heap.get? b = some o := fun b hb => let ⟨o, e, _⟩ := TT'.obj _ _ st2 b hb; ⟨o, e⟩
  have st1 : tn 0 h₁ := TT'.keep _ _ _ st2 fun b _ o e => old b o e
  obtain ⟨W, ⟨m0, w0⟩, turn⟩ := hl s2.heap.objs.size (I2.hok.fresh (Nat.le_refl _))
  have hfx : ∀ {H' : Hp}, (∀ b ∈ fp, H' b = none) → ∀ b ∈ fp, FpOk (cxComp X (own ++ frees) scope (fun _ _ => False) G2.objs.size s2 H2 fp) [] H' b := fun {H'} hn b hb => by
    obtain ⟨_, f1, f2', _, f4, _⟩ := f2 b hb
    obtain ⟨o, ho⟩ := fpo b hb
    refine ⟨hn b hb, below b (Heap.lt_size ho), fun z => ?_, .inl hb, fun x c e => ?_, fun p hp => absurd (show p ∈ ([] : List (Addr × Obj)) from hp) (by simp)⟩
    · rcases List.mem_cons.mp (I2.stkSub b z) with q | q
      · exact f1 q
      · exact f2' q
    · rcases closOf_look (show (closOf X.env.cells scope.names []).lookup x = some c from e) with q | ⟨q1, q2⟩
      · cases q
      · obtain ⟨c', hc'⟩ := closure_ok I2 T x .free q1 rfl
        rw [hc'] at q2
        have q2 : c' = c := q2
        rw [← q2]
        exact f4 x c' hc'
  have fp0 : ∀ b ∈ fp, upd H2 s2.heap.objs.size (.lst []) b = none := fun b hb => by
    obtain ⟨o, ho⟩ := fpo b hb
    rw [upd_ne (Nat.ne_of_lt (Heap.lt_size ho))]
    exact (f2 b hb).1
  have back : ∀ {σ6 : St} {p6 : List (Addr × Obj)} {H6 : Hp} {s6 : Shared}, Inv (cxComp X (own ++ frees) scope (fun _ _ => False) G2.objs.size s2 H2 fp) p6 σ6 H6 s6 → σ6.drop own.length = takeSt σ js →
      Inv (cxComp X (own ++ frees) scope (fun _ _ => False) G2.objs.size s2 H2 fp) [] (List.replicate own.length none ++ takeSt σ js) H6 s6 := fun {σ6 p6 H6 s6} I6 hd => by
    have hl6 : σ6.length = (own ++ frees).length := I6.len
    have J6 := I6.pins_of (pins' := []) fun p hp => absurd hp (by simp)
    refine J6.weak ?_ fun i v e => ?_
    · have q := congrArg List.length hd
      rw [List.length_drop] at q
      rw [List.length_append] at hl6
      rw [List.length_append, List.length_replicate]
      (first | lia | omega)
    · by_cases hi : i < own.length
      · rw [List.getElem?_append_left (by simpa using hi), List.getElem?_replicate, if_pos hi] at e
        cases e
      · rw [List.getElem?_append_right (by simpa using hi), List.length_replicate, ← hd, List.getElem?_drop] at e
        rw [show own.length + (i - own.length) = i by (first | lia | omega)] at e
        exact e
  have loop : ∀ s₃ : Shared, s₃ = { s2 with heap := h₁, toks := s2.toks + ([] : List (Str × Value)).length } →
      codeAny (model X.prog X.w) X.A (.compLoop (.ListComp elt [⟨tg, iter, ifs, 0⟩] scope pos) 0 (.ref it) (.ref s2.heap.objs.size) (compEnvC scope (closOf X.env.cells scope.names []) G2.objs.size X.env))
        (RR (.ref s2.heap.objs.size) G2.objs.size) s₃ := by
    rintro s₃ rfl
    refine compLoop_any (fun n s' => ∃ i acc H', Inv (cxComp X (own ++ frees) scope (fun _ _ => False) G2.objs.size s2 H2 fp) [] (List.replicate own.length none ++ takeSt σ js) H' s' ∧ tn i s'.heap ∧ (∀ b ∈ fp, H' b = none) ∧ W i n acc H') ?_ m0
      ⟨0, [], upd H2 s2.heap.objs.size (.lst []), inv_comp I2 T f2 fpo (Nat.le_refl _) hCle hDC old hacc hns₁, st1, fp0, w0⟩
    rintro n s3 ⟨i, acc, H3, I3, st3, fr3, w3⟩
    obtain ⟨hD3, hcase⟩ := turn i n acc H3 w3
    rcases hcase with ⟨stop, qn⟩ | ⟨go, hz, NN, hNN, step⟩
    · refine wpAny_mono (TT'.done (cxComp X (own ++ frees) scope (fun _ _ => False) G2.objs.size s2 H2 fp) rfl rfl rfl rfl rfl i [] s3 _ H3 (fun _ _ => False) I3 (hfx fr3) st3 stop) (fun r s4 ⟨hr, I4⟩ => ?_) fun _ _ z => z.elim
      subst hr
      exact hRR _ _ _ H3 s4 hCle I4 qn
    · refine wpAny_mono (TT'.item (cxComp X (own ++ frees) scope (fun _ _ => False) G2.objs.size s2 H2 fp) rfl rfl rfl rfl rfl i [] s3 _ H3 (fun _ _ => False) I3 (hfx fr3) st3 go) (fun r s4 ⟨u, hr, h4⟩ => ?_) fun _ _ z => z.elim
      subst hr
      refine wpAny_mono h4 (fun _ s5 ⟨x, H5, I5, r5, y5, st5, fr5⟩ => ?_) fun _ _ z => z.elim
      have I5' := I5.pinned (hfx fr5) (TT'.obj _ _ st5)
      refine wpAny_mono (hg _ _ _ _ _ s5 _ H5 x u _ I5' r5 (step x H5 y5)) (fun _ s6 ⟨σ6, H6, I6, hd6, q6⟩ => ?_) fun _ _ z => z.elim
      refine wpAny_mono (ht _ _ _ _ _ s6 σ6 H6 _ I6 q6) (fun ok s7 ⟨H7, I7, q7⟩ => ?_) fun _ _ z => z.elim
      have again : ∀ {H8 : Hp} {s8 : Shared}, Inv (cxComp X (own ++ frees) scope (fun _ _ => False) G2.objs.size s2 H2 fp) ([] ++ pinsAt fp s5.heap) σ6 H8 s8 → tn (i + 1) s8.heap ∧ ∀ b ∈ fp, H8 b = none := fun {H8 s8} I8 => by
        refine ⟨TT'.keep _ _ _ st5 fun b hb o e => (I8.pin (b, o) (List.mem_append_right _ (List.mem_append_right _ (mem_pinsAt hb e)))).1, fun b hb => ?_⟩
        obtain ⟨o, e, d⟩ := TT'.obj _ _ st5 b hb
        exact (I8.pin (b, o) (List.mem_append_right _ (List.mem_append_right _ (mem_pinsAt hb e)))).2.1
      cases ok with
      | false =>
        rw [if_neg Bool.false_ne_true]
        obtain ⟨m', hm, w7⟩ := hNN _ _ q7
        obtain ⟨t7, n7⟩ := again I7
        exact ⟨m', hm, i + 1, acc, H7, back I7 hd6, t7, n7, w7⟩
      | true =>
        rw [if_pos rfl]
        refine wpAny_mono (he _ _ _ _ _ s7 σ6 H7 _ I7 q7) (fun xv s8 ⟨v, H8, I8, r8, hD8, q8⟩ => ?_) fun _ _ z => z.elim
        obtain ⟨m', hm, w8⟩ := hNN _ _ q8
        refine wpAny_mono (mt_append (X := cxComp X (own ++ frees) scope (fun _ _ => False) G2.objs.size s2 H2 fp) _ s8 σ6 H8 (.ref s2.heap.objs.size) [v] (.ref s2.heap.objs.size) [xv] (fun y H9 => y = .non ∧ H9 = upd H8 s2.heap.objs.size (.lst (acc ++ [v]))) I8 rfl (.cons r8 .nil) ⟨_, acc, v, rfl, rfl, hD8, hz, rfl, rfl⟩)
          (fun _ s9 ⟨y, H9, I9, _, _, e9⟩ => ?_) fun _ _ z => z.elim
        subst e9
        obtain ⟨t9, n9⟩ := again I9
        exact ⟨m', hm, i + 1, acc ++ [v], _, back I9 hd6, t9, n9, w8⟩
  exact codeAny_compStart_list (loop _ rfl) (TT'.self _ 0 _ _ _ st1 (loop _ rfl))

theorem pe_comp (T : CompText X scope own frees js) (hc : X.calm = true) (hi : PI X tg iter wi)
    (hg : ∀ C s H fp, PG (cxComp X (own ++ frees) scope (fun _ _ => False) C s H fp) tg g)
    (ht : ∀ C s H fp, PTs (cxComp X (own ++ frees) scope (fun _ _ => False) C s H fp) ifs tt)
    (he : ∀ C s H fp, PE (cxComp X (own ++ frees) scope (fun _ _ => False) C s H fp) elt te)
    (hs : ∀ x, foldedSetIterable iter X.env x = pure x := by intro _; rfl) :
    PE X (.ListComp elt [⟨tg, iter, ifs, 0⟩] scope pos) (tComp wi g tt te own.length js) := by
  intro pins s σ H Q I h
  rw [eval_ListComp]
  refine wpAny_comprehension_free (use := none) rfl hs (closure_is (closure_ok I T)) T.kind T.names ?_
  refine wpAny_mono (hi pins s σ H _ I h) (fun v s1 h1 => wpAny_mono h1 (fun itv s2 h2 => ?_) fun _ _ z => z) fun _ _ z => z
  obtain ⟨it, fp, tn, J, H2, e, I2, TT', st2, f2, hl⟩ := h2
  subst e
  refine comp_block (QQ := fun D H' => Q (.ref D) H') T hg ht he I2 (TT'.x hc) st2 f2 hl fun D C σ' H' s' hC J' q => ?_
  obtain ⟨m, hn, _⟩ := J'.loc
  exact ⟨m, hn, fun h' sb => ⟨.ref D, H', inv_comp_back I2 f2 hC J' sb, rfl, q⟩⟩
def PIX (X : Cx) (tg iter : Expr) (wi : TI) : Prop := ∀ (pins : List (Addr × Obj)) (s : Shared) (σ : St) (H : Hp) (R : It → Hp → Prop), Inv X pins σ H s → wi σ H R →
  wpAny (model X.prog X.w) X.A (eval iter X.env) (fun v s1 => wpAny (model X.prog X.w) X.A (pyIter v) (fun itv s2 => ∃ (it : Addr) (fp : List Addr) (tn : Nat → Heap → Prop) (J : It) (H' : Hp), itv = .ref it ∧ Inv X pins σ H' s2 ∧ TurnX X.A X.calm X.prog X.w X.K tg J fp it tn ∧ tn 0 s2.heap ∧ (∀ b ∈ fp, FpOk X pins H' b) ∧ R J H') X.xe s1) X.xe s
theorem pe_compX (T : CompText X scope own frees js) (hi : PIX X tg iter wi)
    (hg : ∀ C s H fp, PG (cxComp X (own ++ frees) scope (fun _ _ => False) C s H fp) tg g)
    (ht : ∀ C s H fp, PTs (cxComp X (own ++ frees) scope (fun _ _ => False) C s H fp) ifs tt)
    (he : ∀ C s H fp, PE (cxComp X (own ++ frees) scope (fun _ _ => False) C s H fp) elt te)
    (hs : ∀ x, foldedSetIterable iter X.env x = pure x := by intro _; rfl) :
    PE X (.ListComp elt [⟨tg, iter, ifs, 0⟩] scope pos) (tComp wi g tt te own.length js) := by
  intro pins s σ H Q I h
  rw [eval_ListComp]
  refine wpAny_comprehension_free (use := none) rfl hs (closure_is (closure_ok I T)) T.kind T.names ?_
  refine wpAny_mono (hi pins s σ H _ I h) (fun v s1 h1 => wpAny_mono h1 (fun itv s2 h2 => ?_) fun _ _ z => z) fun _ _ z => z
  obtain ⟨it, fp, tn, J, H2, e, I2, TT', st2, f2, hl⟩ := h2
  subst e
  refine comp_block (QQ := fun D H' => Q (.ref D) H') T hg ht he I2 TT' st2 f2 hl fun D C σ' H' s' hC J' q => ?_
  obtain ⟨m, hn, _⟩ := J'.loc
  exact ⟨m, hn, fun h' sb => ⟨.ref D, H', inv_comp_back I2 f2 hC J' sb, rfl, q⟩⟩
def tSetComp (i : Nat) (wi : TI) (g : TG) (tt : TT) (te : TE) (n : Nat) (js : List Nat) : TS := fun D σ H => tComp wi g tt te n js σ H fun v H1 => D.nx (σ.set i (some v)) H1
theorem ps_comp {i : Nat} {x : Str} {pos' spos : Pos} (hN : X.N.Nodup) (hix : X.N[i]? = some x) (hx : X.env.scope.names.lookup x = some .local) (T : CompText X scope own frees js) (hc : X.calm = true) (hi : PI X tg iter wi)
    (hg : ∀ C s H fp, PG (cxComp X (own ++ frees) scope (fun _ _ => False) C s H fp) tg g)
    (ht : ∀ C s H fp, PTs (cxComp X (own ++ frees) scope (fun _ _ => False) C s H fp) ifs tt)
    (he : ∀ C s H fp, PE (cxComp X (own ++ frees) scope (fun _ _ => False) C s H fp) elt te)
    (hsw : swapsWith (.ListComp elt [⟨tg, iter, ifs, 0⟩] scope pos) (some (.Name x pos')) spos.line X.env = pure true := by rfl)
    (hs : ∀ x, foldedSetIterable iter X.env x = pure x := by intro _; rfl) :
    PS X (.Assign [.Name x pos'] (.ListComp elt [⟨tg, iter, ifs, 0⟩] scope pos) spos) (tSetComp i wi g tt te own.length js) := by
  intro pins s σ H D I h
  rw [exec_Assign_Name_used _ _ _ _ hsw]
  refine wpAny_bind (wpAny_standAt (wpAny_bind ?_))
  show wpAny _ X.A (do let _ ← comprehension (.ListComp elt [⟨tg, iter, ifs, 0⟩] scope pos) scope X.env _ (newList []) false (eval iter X.env) (some (assign (.Name x pos') X.env))) _ _ s
  refine wpAny_bind (wpAny_mono (wpAny_comprehension_free (use := some (assign (.Name x pos') X.env)) (Q := fun _ s' => SP X pins D .next s') rfl hs (closure_is (closure_ok I T)) T.kind T.names ?_) (fun _ s' hq => wpAny_pure (wpAny_pure hq)) fun _ _ e => e)
  refine wpAny_mono (hi pins s σ H _ I h) (fun v s1 h1 => wpAny_mono h1 (fun itv s2 h2 => ?_) fun _ _ z => z) fun _ _ z => z
  obtain ⟨it, fp, tn, J, H2, e, I2, TT', st2, f2, hl⟩ := h2
  subst e
  refine comp_block (QQ := fun D' H' => D.nx (σ.set i (some (.ref D'))) H') T hg ht he I2 (TT'.x hc) st2 f2 hl fun D' C σ' H' s' hC J' q => ?_
  have I3 : Inv X pins σ H' s' := by
    obtain ⟨hh, gg, dd, tt', oo⟩ := s'
    exact inv_comp_back I2 f2 hC J' (Heap.SameBut.refl ..)
  obtain ⟨m, hn, _⟩ := J'.loc
  obtain ⟨oC, es, ep, hoC, hdC, rest⟩ := id hn
  have hHC : H' C = none := J'.free
  have hlC : C ≠ X.env.locals := Nat.ne_of_gt (Nat.lt_of_lt_of_le I2.lt hC)
  have hfC : C ∉ X.fs := fun z => by
    obtain ⟨_, o, ho, _⟩ := I2.funs.mem z
    exact absurd (Nat.lt_of_lt_of_le (Heap.lt_size ho) hC) (Nat.lt_irrefl _)
  have I4 : Inv X (pins ++ [(C, oC)]) σ H' s' := I3.pins_of fun p hp => (List.mem_append.mp hp).elim (fun z => I3.pin p (List.mem_append_right _ z)) fun z => by
    have e : p = (C, oC) := by simpa using z
    subst e
    exact ⟨hoC, hHC, hlC, hfC, fun v z => by have z' : oC.data = .cell v := z; rw [hdC] at z'; cases z'⟩
  show wpAny _ X.A (assign (.Name x pos') X.env (.ref D')) _ _ _
  refine wpAny_assign_Name (store_ok (v := .ref D') I4 hN hix (.inl hx) rfl (fun s5 I5 => ?_) (.inr hx))
  have e5 : s5.heap.get? C = some oC := (I5.pin (C, oC) (List.mem_append_right _ (List.mem_append_right _ (by simp)))).1
  refine ⟨m, ⟨oC, es, ep, e5, hdC, rest⟩, fun h' sb => ⟨_, H', ?_, q⟩⟩
  -- the block's names let go
  have I6 : Inv X pins (σ.set i (some (.ref D'))) H' s5 := I5.unpinned
  refine I6.turned (t' := s5.toks) (fun b o hb e => (sb.2 b hb).trans e) hHC hlC (.inr (Nat.le_trans I2.sz hC)) (fun y c e => ?_) (fun p hp z => ?_)
  · obtain ⟨v, qc⟩ := I2.cell y c e
    exact Nat.ne_of_lt (Nat.lt_of_lt_of_le qc.lt hC)
  · have hp2 := (I2.pin p hp).1
    exact absurd (Nat.lt_of_lt_of_le (Heap.lt_size hp2) (by rw [z]; exact hC)) (Nat.lt_irrefl _)
end

section
variable {K : PySem.W.Frag} {a : Addr} {xs : List V} {g : TG} {tt : TT} {te : TE} {n : Nat} {fr : St} {D : Addr} {Q : Hp → Prop} {H1 : Hp}
theorem comp_list (Pv : Nat → List V → Hp → Prop) (h0 : Pv 0 [] H1) (hl : ∀ i acc H, i ≤ xs.length → Pv i acc H → SqL K H a xs ∧ H D = some (.lst acc) ∧ acc.length ≤ i) (hz : xs.length ≤ sizeLine)
    (hs : ∀ i x acc H, xs[i]? = some x → Pv i acc H → g x (List.replicate n none ++ fr) H fun σ2 H2 => σ2.drop n = fr ∧ tt σ2 H2 fun b H3 =>
      if b = true then te σ2 H3 fun v H4 => H4 D = some (.lst acc) ∧ Pv (i + 1) (acc ++ [v]) (upd H4 D (.lst (acc ++ [v]))) else Pv (i + 1) acc H3)
    (hd : ∀ acc H, Pv xs.length acc H → Q H) : CompLoop (Itl K a) g tt te n fr D Q H1 := by
  refine ⟨fun i m acc H => m = xs.length - i ∧ i ≤ xs.length ∧ Pv i acc H, ⟨xs.length, by simp, Nat.zero_le _, h0⟩, ?_⟩
  rintro i m acc H ⟨rfl, hi, p⟩
  obtain ⟨q, hD, ha⟩ := hl i acc H hi p
  refine ⟨hD, ?_⟩
  by_cases hlt : i < xs.length
  · refine .inr ⟨⟨xs, xs[i], q, by simp [hlt]⟩, by (first | lia | omega), Pv (i + 1), fun acc' H' p' => ⟨xs.length - (i + 1), by (first | lia | omega), rfl, hlt, p'⟩, fun x H' y => ?_⟩
    obtain ⟨e, y⟩ := y
    subst e
    exact hs i x acc _ (y xs q) p
  · have e : i = xs.length := by (first | lia | omega)
    subst e
    exact .inl ⟨⟨xs, q, Nat.le_refl _⟩, hd acc H p⟩
theorem comp_tup (Pv : Nat → List V → Hp → Prop) (h0 : Pv 0 [] H1) (hl : ∀ i acc H, i ≤ xs.length → Pv i acc H → SqT K H a xs ∧ H D = some (.lst acc) ∧ acc.length ≤ i) (hz : xs.length ≤ sizeLine)
    (hs : ∀ i x acc H, xs[i]? = some x → Pv i acc H → g x (List.replicate n none ++ fr) H fun σ2 H2 => σ2.drop n = fr ∧ tt σ2 H2 fun b H3 =>
      if b = true then te σ2 H3 fun v H4 => H4 D = some (.lst acc) ∧ Pv (i + 1) (acc ++ [v]) (upd H4 D (.lst (acc ++ [v]))) else Pv (i + 1) acc H3)
    (hd : ∀ acc H, Pv xs.length acc H → Q H) : CompLoop (Itt K a) g tt te n fr D Q H1 := by
  refine ⟨fun i m acc H => m = xs.length - i ∧ i ≤ xs.length ∧ Pv i acc H, ⟨xs.length, by simp, Nat.zero_le _, h0⟩, ?_⟩
  rintro i m acc H ⟨rfl, hi, p⟩
  obtain ⟨q, hD, ha⟩ := hl i acc H hi p
  refine ⟨hD, ?_⟩
  by_cases hlt : i < xs.length
  · refine .inr ⟨⟨xs, xs[i], q, by simp [hlt]⟩, by (first | lia | omega), Pv (i + 1), fun acc' H' p' => ⟨xs.length - (i + 1), by (first | lia | omega), rfl, hlt, p'⟩, fun x H' y => ?_⟩
    obtain ⟨e, y⟩ := y
    subst e
    exact hs i x acc _ (y xs q) p
  · have e : i = xs.length := by (first | lia | omega)
    subst e
    exact .inl ⟨⟨xs, q, Nat.le_refl _⟩, hd acc H p⟩
theorem comp_range {lo : Int} {m : Nat} (Pv : Nat → List V → Hp → Prop) (h0 : Pv 0 [] H1) (hl : ∀ i acc H, i ≤ m → Pv i acc H → H D = some (.lst acc) ∧ acc.length ≤ i) (hz : m ≤ sizeLine)
    (hs : ∀ i acc H, i < m → Pv i acc H → g (.int (lo + i)) (List.replicate n none ++ fr) H fun σ2 H2 => σ2.drop n = fr ∧ tt σ2 H2 fun b H3 =>
      if b = true then te σ2 H3 fun v H4 => H4 D = some (.lst acc) ∧ Pv (i + 1) (acc ++ [v]) (upd H4 D (.lst (acc ++ [v]))) else Pv (i + 1) acc H3)
    (hd : ∀ acc H, Pv m acc H → Q H) : CompLoop (Itr lo m) g tt te n fr D Q H1 := by
  refine ⟨fun i k acc H => k = m - i ∧ i ≤ m ∧ Pv i acc H, ⟨m, by simp, Nat.zero_le _, h0⟩, ?_⟩
  rintro i k acc H ⟨rfl, hi, p⟩
  obtain ⟨hD, ha⟩ := hl i acc H hi p
  refine ⟨hD, ?_⟩
  by_cases hlt : i < m
  · refine .inr ⟨hlt, by (first | lia | omega), Pv (i + 1), fun acc' H' p' => ⟨m - (i + 1), by (first | lia | omega), rfl, hlt, p'⟩, fun x H' y => ?_⟩
    obtain ⟨e, y⟩ := y
    subst e y
    exact hs i acc _ hlt p
  · have e : i = m := by (first | lia | omega)
    subst e
    exact .inl ⟨Nat.le_refl _, hd acc H p⟩
end
end L2

namespace L2
open PySem PySem.Spec PyProof.Rows

def compLook (scope osc : Scope) (N frees : List Str) (js : List Nat) : Bool :=
  decide (scope.kind = .function) && scope.names.all (fun y => decide (y.2 ≠ .cell)) && scope.names.all (fun y => decide (y.2 = .local → scope.names.lookup y.1 = some .local)) &&
  scope.names.all (fun y => decide (y.2 = .free → osc.names.lookup y.1 = some .cell ∨ osc.names.lookup y.1 = some .free)) && decide (js.map (fun j => N[j]?) = frees.map some) && frees.all (fun x => decide (scope.names.lookup x = some .free))
theorem compText_of {X : Cx} {scope : Scope} {own frees : List Str} {js : List Nat} (osc : Scope) (N : List Str) (h1 : X.env.scope = osc := by rfl) (h2 : X.N = N := by rfl) (h : compLook scope osc N frees js = true := by decide +kernel) : CompText X scope own frees js := by
  unfold compLook at h
  simp only [Bool.and_eq_true, decide_eq_true_eq, List.all_eq_true] at h
  obtain ⟨⟨⟨⟨⟨a, b⟩, c⟩, d⟩, e⟩, f⟩ := h
  exact ⟨a, b, c, by rw [h1]; exact d, by rw [h2]; exact e, f⟩

mutual
inductive DatV (K : PySem.W.Frag) (H : Hp) : V → PyData → Prop
  | non : DatV K H .non .none
  | bl (b : Bool) : DatV K H (.bl b) (.bool b)
  | int (i : Int) : DatV K H (.int i) (.int i)
  | str (x : Str) : DatV K H (.str x) (.str x)
  | lst {a : Addr} {xs : List V} {ds : List PyData} (h : SqL K H a xs) (r : DatVs K H xs ds) : DatV K H (.ref a) (.list ds)
  | tup {a : Addr} {xs : List V} {ds : List PyData} (h : SqT K H a xs) (r : DatVs K H xs ds) : DatV K H (.ref a) (.tuple ds)
inductive DatVs (K : PySem.W.Frag) (H : Hp) : List V → List PyData → Prop
  | nil : DatVs K H [] []
  | cons {x : V} {d : PyData} {xs : List V} {ds : List PyData} (h : DatV K H x d) (r : DatVs K H xs ds) : DatVs K H (x :: xs) (d :: ds)
end
section
variable {X : Cx} {pins : List (Addr × Obj)} {σ : St} {H : Hp} {s : Shared}
mutual
theorem DatV.reads (I : Inv X pins σ H s) : ∀ {v : V} {d : PyData} {u : Value}, DatV X.K H v d → RelV v u → ∃ as, Reads s.heap u d as
  | _, _, u, .non, r => by cases (show u = Value.none from r); exact ⟨_, .none⟩
  | _, _, u, .bl b, r => by cases (show u = Value.bool b from r); exact ⟨_, .bool b⟩
  | _, _, u, .int i, r => by obtain ⟨t, rfl⟩ := (show ∃ t, u = Value.int i t from r); exact ⟨_, .int i t⟩
  | _, _, u, .str x, r => by obtain ⟨t, rfl⟩ := (show ∃ t, u = Value.str x t from r); exact ⟨_, .str x t⟩
  | _, _, u, .lst (a := a) h rs, r => by
    cases (show u = Value.ref a from r)
    obtain ⟨its, rv, ⟨o, n, e, c, _, d⟩, _⟩ := I.list h
    obtain ⟨as, q⟩ := DatVs.reads I rs rv
    exact ⟨_, .list e c d (by simpa using q)⟩
  | _, _, u, .tup (a := a) h rs, r => by
    cases (show u = Value.ref a from r)
    obtain ⟨its, rv, ⟨o, e, c, n, d⟩, _⟩ := I.tuple h
    obtain ⟨as, q⟩ := DatVs.reads I rs rv
    exact ⟨_, .tuple e c d (by simpa using q)⟩
theorem DatVs.reads (I : Inv X pins σ H s) : ∀ {vs : List V} {ds : List PyData} {us : List Value}, DatVs X.K H vs ds → Vals vs us → ∃ as, ReadsAll s.heap us ds as
  | _, _, _, .nil, .nil => ⟨_, .nil⟩
  | _, _, _, .cons h r, .cons rv rr => by
    obtain ⟨as, q⟩ := DatV.reads I h rv
    obtain ⟨bs, q2⟩ := DatVs.reads I r rr
    exact ⟨_, .cons q q2⟩
end
end
section
variable {X : Cx}
def rEqD (K : PySem.W.Frag) : R2 := fun x y H Q => ∃ d e, DatV K H x d ∧ DatV K H y e ∧ SeqAt.shaped d = true ∧ SeqAt.shaped e = true ∧ Q (.bl (PyData.eqv d e)) H
def rNeD (K : PySem.W.Frag) : R2 := fun x y H Q => ∃ d e, DatV K H x d ∧ DatV K H y e ∧ SeqAt.shaped d = true ∧ SeqAt.shaped e = true ∧ Q (.bl (!PyData.eqv d e)) H
theorem op_eqD (hu : X.A.units + 64 < cLine) : OpR X (compareOp .Eq) (rEqD X.K) := by
  intro pins s σ H x y v u Q I rx ry h
  obtain ⟨d, e, h1, h2, s1, s2, q⟩ := h
  obtain ⟨as, ra⟩ := h1.reads I rx
  obtain ⟨bs, rb⟩ := h2.reads I ry
  exact eq_dataH ra rb s1 s2 hu ⟨.bl _, H, I, rfl, q⟩
theorem op_neD (hu : X.A.units + 64 < cLine) : OpR X (compareOp .NotEq) (rNeD X.K) := by
  intro pins s σ H x y v u Q I rx ry h
  obtain ⟨d, e, h1, h2, s1, s2, q⟩ := h
  obtain ⟨as, ra⟩ := h1.reads I rx
  obtain ⟨bs, rb⟩ := h2.reads I ry
  exact ne_dataH ra rb s1 s2 hu ⟨.bl _, H, I, rfl, q⟩
def clsV : V → Option Value
  | .ty n => some (.type n)
  | .ref a => some (.ref a)
  | _ => none
theorem clsV_of {c : V} {u w : Value} (h : clsV c = some u) (r : RelV c w) : w = u := by
  cases c with
  | ty n => exact (show w = Value.type n from r).trans (Option.some.inj h)
  | ref a => exact (show w = Value.ref a from r).trans (Option.some.inj h)
  | _ => cases h
def rIsi (K : PySem.W.Frag) : List V → Hp → VK → Prop := fun xs H Q => ∃ x c t u b, xs = [x, c] ∧ clsV c = some u ∧ TyOf K H x t ∧ PySem.W.kitOne K t u = some b ∧ Q (.bl b) H
theorem call_isi : CallR X (.builtin "isinstance") (rIsi X.K) := by
  intro pins s σ H xs us Q I r h
  obtain ⟨x, c, t, u, b, rfl, rc, ty, e, q⟩ := h
  cases r with
  | cons r1 r2 =>
    cases r2 with
    | cons r2 r3 =>
      cases r3
      cases clsV_of rc r2
      exact isinst_ok I r1 ty e fun tk => ⟨.bl b, H, I.tok tk, rfl, q⟩
theorem kit_ii (K : PySem.W.Frag) : PySem.W.kitOne K (.type "int") (.type "int") = some true := by with_unfolding_all rfl
theorem kit_ib (K : PySem.W.Frag) : PySem.W.kitOne K (.type "int") (.type "bool") = some false := by with_unfolding_all rfl
theorem kit_ll (K : PySem.W.Frag) : PySem.W.kitOne K (.type "list") (.type "list") = some true := by with_unfolding_all rfl
end
end L2
namespace L2
open PySem PySem.Spec PyProof.Rows
section
variable {X : Cx}
theorem pe_gint {x : Str} {v : Int} {pos : Pos} (hg : Gl X x) (h : ∃ t, X.mg x = some (.int v t)) (hd : (x == ("__debug__" : Str)) = false := by decide) : PE X (.Name x pos) (tC (.int v)) := by
  obtain ⟨t, e⟩ := h
  exact pe_glob hg e ⟨t, rfl⟩ hd
theorem PI.or {tg l : Expr} {wi wj : TI} (h : PI X tg l wi) (h' : PI X tg l wj) : PI X tg l (fun σ H R => wi σ H R ∨ wj σ H R) := by
  intro pins s σ H R I q
  rcases q with q | q
  · exact h pins s σ H R I q
  · exact h' pins s σ H R I q
theorem pi_seq {tg l : Expr} {tl : TE} (hl : PE X l tl) : PI X tg l (fun σ H R => iList X.K tl σ H R ∨ iTup X.K tl σ H R) := (pi_list hl).or (pi_tup hl)
theorem rIx_of {K : PySem.W.Frag} {H : Hp} {p : Addr} {xs : List V} {i : Int} {v : V} {Q : VK} (h : SqL K H p xs ∨ SqT K H p xs) (e : atI xs i = some v) (q : Q v H) : rIx K (.ref p) (.int i) H Q := by
  rcases h with h | h
  · exact .inl ⟨p, xs, i, v, rfl, rfl, h, e, q⟩
  · exact .inr (.inl ⟨p, xs, i, v, rfl, rfl, h, e, q⟩)
end
theorem dl {n : Nat} (h : Nat.ble n 1000 = true) : n ≤ sizeLine := Nat.le_of_lt (small1000 (Nat.le_of_ble_eq_true h))
theorem modC {j : Int} (h : decide (0 < j) = true) : 0 < j := of_decide_eq_true h
theorem iteD {c A B : Prop} [Decidable c] (h : ¬ c) (hb : B) : if decide c = true then A else B := by
  rw [decide_eq_false h]
  exact iteF hb
theorem iteP {c A B : Prop} [Decidable c] (h : c) (ha : A) : if decide c = true then A else B := by
  rw [decide_eq_true h]
  exact iteT ha
theorem Same.new {H : Hp} {p : Addr} {o : HO} (h : H p = none) : Same H (upd H p o) := fun b u e => by
  rw [upd_ne (ne_of_none e h)]
  exact e
theorem Same.put {H H2 : Hp} {D : Addr} {o : HO} (s : Same H H2) (h : H D = none) : Same H (upd H2 D o) := fun b u e => by
  rw [upd_ne (ne_of_none e h)]
  exact s b u e
theorem Same.sqT {K : PySem.W.Frag} {H H' : Hp} {a : Addr} {xs : List V} (e : Same H H') (h : SqT K H a xs) : SqT K H' a xs := by
  rcases h with (h | ⟨o, h⟩) | h
  · exact .inl (.inl (e _ _ h))
  · exact .inl (.inr ⟨o, e _ _ h⟩)
  · exact .inr h
def Tups (H H' : Hp) : Prop := ∀ b xs, H b = some (.tup xs) → H' b = some (.tup xs)
theorem Same.tups {H H' : Hp} (s : Same H H') : Tups H H' := fun b xs e => s b _ e
theorem Tups.trans {H H1 H2 : Hp} (a : Tups H H1) (b : Tups H1 H2) : Tups H H2 := fun c xs e => b c xs (a c xs e)
theorem Tups.put {H : Hp} {D : Addr} {o : HO} {ys : List V} (h : H D = some (.lst ys)) : Tups H (upd H D o) := fun b xs e => by
  rw [upd_ne (ne_of e h (by intro z; cases z))]
  exact e
theorem Paired.getP {α β : Type} {F : α → β → Prop} : ∀ {l : List α} {r : List β} {i : Nat} {x : α}, Paired F l r → l[i]? = some x → ∃ y, r[i]? = some y ∧ F x y
  | _, _, _, _, .nil, e => by simp at e
  | _, _, 0, _, .cons h _, e => by
    simp at e
    subst e
    exact ⟨_, rfl, h⟩
  | _, _, i + 1, x, .cons _ t, e => by
    obtain ⟨y, h1, h2⟩ := Paired.getP (i := i) (x := x) t (by simpa using e)
    exact ⟨y, by simpa using h1, h2⟩
theorem ints_cut (ns : List Int) (lo hi : Option Int) : cutV (ns.map V.int) lo hi = ((ns.drop (HT.sIx ns.length 0 lo)).take (HT.sIx ns.length ns.length hi - HT.sIx ns.length 0 lo)).map V.int := by
  unfold cutV
  rw [List.length_map, ← List.map_drop, ← List.map_take]
end L2

namespace L2
open PySem PySem.Spec PyProof.Rows
section
variable {X : Cx} {l : Expr} {tl : TE} {tg a b o e : Expr} {ta tb to : TE} {es : List Expr}
theorem op_eqK (K : PySem.W.Frag) (hu : X.A.units + 64 < cLine) (h : X.K = K := by rfl) : OpR X (compareOp .Eq) (rEqD K) := by subst h; exact op_eqD hu
theorem op_neK (K : PySem.W.Frag) (hu : X.A.units + 64 < cLine) (h : X.K = K := by rfl) : OpR X (compareOp .NotEq) (rNeD K) := by subst h; exact op_neD hu
theorem isiK (K : PySem.W.Frag) (h : X.K = K := by rfl) : CallR X (.builtin "isinstance") (rIsi K) := by subst h; exact call_isi
def rLen (K : PySem.W.Frag) : List V → Hp → VK → Prop := fun xs H Q => ∃ p ys, xs = [.ref p] ∧ (SqL K H p ys ∨ SqT K H p ys) ∧ Q (.int ys.length) H
theorem lenK (K : PySem.W.Frag) (h : X.K = K := by rfl) : CallR X (.builtin "len") (rLen K) := by subst h; exact call_len_seq
def rTupl (K : PySem.W.Frag) : List V → Hp → VK → Prop := fun xs H Q => ∃ p ys, xs = [.ref p] ∧ ((SqL K H p ys ∧ ∀ l, H l = none → Q (.ref l) (upd H l (.tup ys))) ∨ (SqT K H p ys ∧ Q (.ref p) H))
theorem tuplK (K : PySem.W.Frag) (h : X.K = K := by rfl) : CallR X (.type "tuple") (rTupl K) := by subst h; exact call_tuple_of
theorem ixL (K : PySem.W.Frag) (h : X.K = K := by rfl) : IxR X (rIxL K) := by subst h; exact ix_list
theorem ixT (K : PySem.W.Frag) (h : X.K = K := by rfl) : IxR X (rIxT K) := by subst h; exact ix_tup
theorem ixS (K : PySem.W.Frag) (h : X.K = K := by rfl) : IxR X (rIx K) := by subst h; exact ix_seq
theorem slL (K : PySem.W.Frag) (h : X.K = K := by rfl) : SlR X (rSlL K) := by subst h; exact sl_list
theorem piL (K : PySem.W.Frag) (hl : PE X l tl) (h : X.K = K := by rfl) : PI X tg l (iList K tl) := by subst h; exact pi_list hl
theorem piT (K : PySem.W.Frag) (hl : PE X l tl) (h : X.K = K := by rfl) : PI X tg l (iTup K tl) := by subst h; exact pi_tup hl
theorem piS (K : PySem.W.Frag) (hl : PE X l tl) (h : X.K = K := by rfl) : PI X tg l (fun σ H R => iList K tl σ H R ∨ iTup K tl σ H R) := by subst h; exact pi_seq hl
theorem pe_ty {x : Str} {T : String} {pos : Pos} (hg : Gl X x) (hm : X.mg x = none) (hv : bootBuiltins x = some (.type T)) (hn : x ≠ "__name__" := by decide) (hd : (x == ("__debug__" : Str)) = false := by decide) : PE X (.Name x pos) (tC (.ty T)) :=
  pe_bltn hg hm hv rfl hn hd
end
end L2

namespace L2
open PySem PySem.Spec PyProof.Rows

def Sec (e : Addr) (h : Heap) : Prop := ∃ oe vs, h.get? e = some oe ∧ oe.data = .fields vs ∧ vs[2]? = some .none
def SecD (od : Option Addr) (c : Value) (e : Addr) (h : Heap) : Prop := ∃ oe vs, h.get? e = some oe ∧ oe.data = .fields vs ∧ vs[2]? = some c ∧ oe.dict = od
theorem dict_map (o : Obj) (f) : (o.mapFields f).dict = o.dict := by
  obtain ⟨c, d, dt, sl⟩ := o
  cases dt <;> rfl
section
variable {M : Model} {A : Around} {E : Value → Shared → Prop} {s : Shared} {B : Heap} {env : Env} {outer l : List Env} {L e : Addr} {cls a0 : Value} {Q : Unit → Shared → Prop} {od : Option Addr} {c : Value}
theorem upd_rec {h : Heap} {T : Addr} {oT : Obj} {ts : Array Value} (f : Obj → Obj) (hT : h.get? T = some oT) (hd : oT.data = .fields ts) : h.UpToSlots (h.update T f) := fun b o hb hn => by
  have ne : T ≠ b := fun z => by
    rw [← z, hT] at hb
    cases hb
    exact hn ts hd
  exact ⟨o.slots, (Heap.get?_update_other h f ne).trans hb⟩
theorem stays_rec {h : Heap} {T : Addr} (f : Obj → Obj) (k : B.StaysIn h) (n : B.get? T = none) : B.StaysIn (h.update T f) := fun b o hb => by
  have ne : T ≠ b := fun z => by
    rw [← z, n] at hb
    cases hb
  exact (Heap.get?_update_other h f ne).trans (k b o hb)
theorem FunFrames_up {h h' : Heap} (x : h.FunFrames B l) (u : h.UpToSlots h') : h'.FunFrames B l := x.of_keeps fun b o hb hn =>
  let ⟨_, q⟩ := u b o hb hn
  ⟨_, q, rfl⟩
theorem land2 {fl : Value} (hk : B.StaysIn s.heap) (hn : B.get? e = none) (hl : s.heap.FunFrames B l) (ht : s.heap.TracedAtW B e cls a0 fl) (h2 : SecD od c e s.heap)
    (q : ∀ h', Heap.FlyingW B l e cls a0 h' → SecD od c e h' → s.heap.UpToSlots h' → Q () { s with heap := h' }) : wpAny M A (setFlight (.ref e) none) Q E s := by
  obtain ⟨oe, vs, T, oT, ts, ge, hc, de, f1, nT, Te, gT, dT, f3⟩ := ht
  have z3 : 3 < ts.size := (Array.getElem?_eq_some_iff.mp f3).1
  rw [setFlight]
  refine wpAny_bind (wpAny_field ge de f1 ?_)
  rw [if_pos (by simp)]
  refine wpAny_setField gT dT z3 ?_
  have up := upd_rec (Obj.mapFields (·.setIfInBounds 3 ((none : Option Addr).elim Value.none fun f => rawInt f))) gT dT
  have ge' := (Heap.get?_update_other s.heap (Obj.mapFields (·.setIfInBounds 3 ((none : Option Addr).elim Value.none fun f => rawInt f))) Te).trans ge
  have dT' := Obj.data_mapFields dT (·.setIfInBounds 3 ((none : Option Addr).elim Value.none fun f => rawInt f))
  refine q _ ⟨stays_rec _ hk nT, hn, FunFrames_up hl up, oe, vs, T, _, _, ge', hc, de, f1, nT, Te, Heap.get?_update_self _ gT (Obj.isFreed_of_fields dT'), dT', by simp [z3]⟩ ?_ up
  obtain ⟨o2, v2, g2, d2, k2, z2⟩ := h2
  rw [ge] at g2
  cases g2
  exact ⟨oe, v2, ge', d2, k2, z2⟩
theorem entry2 {oe : Obj} {vs : Array Value} {head : Value} {hadNext : Bool} (hfr : A.frames = some (env :: outer)) (hl : s.heap.FunFrames B (env :: outer)) (hf : env.frame = some L) (ge : s.heap.get? e = some oe) (hk : B.StaysIn s.heap) (hn : B.get? e = none)
    (de : oe.data = .fields vs) (hz : 1 < vs.size) (h0 : vs[0]? = some a0) (h2 : vs[2]? = some c) (hz2 : oe.dict = od)
    (q : ∀ h', Heap.HeldW B (env :: outer) e oe.cls a0 L h' → SecD od c e h' → s.heap.UpToSlots h' → Q () { s with heap := h' }) :
    wpAny M A (do let a ← frameOf env; let pl ← entryPlaceOf L hadNext; let b ← EntryCells.newEntry head a .none (rawInt L) .none pl; setField (.ref e) 1 b) Q E s := by
  have noFr : e ∉ (env :: outer).filterMap (·.frame) := fun z => by
    obtain ⟨_, o, ho, nf⟩ := hl.mem z
    rw [ge] at ho
    cases ho
    exact nf vs de
  refine wpAny_bind (wpAny_frameOf_fun hfr hl hf fun h1 so => wpAny_bind (wpAny_entryPlaceOf fun pl ip => ?_))
  rw [EntryCells.newEntry, newFields]
  refine wpAny_bind (wpAny_newObj_type ?_ (ip.sizeOk5 _ _ _ _ _))
  generalize hnw : ({ cls := .type "traceback", dict := none, data := .fields ([head, .ref L, .none, rawInt L, .none] ++ (if pl.isEmpty then List.replicate 6 Value.none else pl)).toArray } : Obj) = nw
  have dn : nw.data = .fields ([head, .ref L, .none, rawInt L, .none] ++ (if pl.isEmpty then List.replicate 6 Value.none else pl)).toArray := by rw [← hnw]
  have ge1 : h1.get? e = some oe := (so.2.1 e noFr).trans ge
  have ge2 := Heap.get?_push_of_some (h := h1) nw ge1
  have Te : h1.objs.size ≠ e := Nat.ne_of_gt (Heap.lt_size ge1)
  refine wpAny_setField ge2 de hz ?_
  have de3 := Obj.data_mapFields de (·.setIfInBounds 1 (Value.ref h1.objs.size))
  have ge3 := Heap.get?_update_self (Obj.mapFields (·.setIfInBounds 1 (Value.ref h1.objs.size))) ge2 (Obj.isFreed_of_fields de3)
  have gT3 := (Heap.get?_update_other (h1.push nw) (Obj.mapFields (·.setIfInBounds 1 (Value.ref h1.objs.size))) (Ne.symm Te)).trans (Heap.get?_push_size h1 (by rw [← hnw]; rfl))
  have up : s.heap.UpToSlots ((h1.push nw).update e (Obj.mapFields (·.setIfInBounds 1 (Value.ref h1.objs.size)))) := by
    have u1 : s.heap.UpToSlots h1 := fun b o hb _ => so.2.2 b o hb
    exact (u1.trans (.of_keeps fun b o hb => Heap.get?_push_of_some nw hb)).trans (upd_rec _ ge2 de)
  have k1 : B.StaysIn h1 := fun b o hb => (so.2.1 b fun z => by rw [(hl.mem z).1] at hb; cases hb).trans (hk b o hb)
  have k2 : B.StaysIn (h1.push nw) := fun b o hb => Heap.get?_push_of_some nw (k1 b o hb)
  refine q _ ⟨stays_rec _ k2 hn, hn, FunFrames_up hl up, _, _, h1.objs.size, nw, _, ge3, ⟨Obj.cls_mapFields _ _, by rw [Array.getElem?_setIfInBounds_ne (by decide)]; exact h0⟩, de3, by simp [hz], k1.fresh, Te, gT3, dn, ?_⟩ ?_ up
  · first | (simp; done) | (rcases ip with rfl | ⟨_, _, _, _, _, _, _, rfl⟩ <;> simp)
  · exact ⟨_, _, ge3, de3, by rw [Array.getElem?_setIfInBounds_ne (by decide)]; exact h2, (dict_map _ _).trans hz2⟩
theorem note2 (hfr : A.frames = some (env :: outer)) (hf : env.frame = some L) (fl : Heap.FlyingW B (env :: outer) e cls a0 s.heap) (h2 : SecD od c e s.heap)
    (q : ∀ h', Heap.HeldW B (env :: outer) e cls a0 L h' → SecD od c e h' → s.heap.UpToSlots h' → Q () { s with heap := h' }) : wpAny M A (noteFrame (.ref e) env) Q E s := by
  obtain ⟨hk, hn, hl, oe, vs, T, oT, ts, ge, ⟨hc, h0⟩, de, f1, nT, Te, gT, dT, f3⟩ := fl
  obtain ⟨o2, v2, g2, d2, k2, z2⟩ := h2
  rw [ge] at g2
  cases g2
  rw [de] at d2
  cases d2
  cases hc
  rw [noteFrame]
  simp only [hf]
  refine wpAny_bind (wpAny_field ge de f1 ?_)
  rw [if_pos (by simp)]
  refine wpAny_bind (wpAny_field gT dT f3 ?_)
  rw [if_neg (by simp [rawInt])]
  refine wpAny_bind (wpAny_setField gT dT (Array.getElem?_eq_some_iff.mp f3).1 ?_)
  have up := upd_rec (Obj.mapFields (·.setIfInBounds 3 Value.none)) gT dT
  have ge' := (Heap.get?_update_other s.heap (Obj.mapFields (·.setIfInBounds 3 Value.none)) Te).trans ge
  exact entry2 (s := { s with heap := s.heap.update T (Obj.mapFields (·.setIfInBounds 3 Value.none)) }) hfr (FunFrames_up hl up) hf ge' (stays_rec _ hk nT) hn de (Array.getElem?_eq_some_iff.mp f1).1 h0 k2 z2 fun h' x1 x2 x3 => q h' x1 x2 (up.trans x3)
theorem fly2 (x : Heap.FlyingW B (env :: outer) e cls a0 s.heap) : Heap.FlyingW B outer e cls a0 s.heap :=
  let ⟨k1, k2, ⟨_, _, k3⟩, k4⟩ := x
  ⟨k1, k2, k3, k4⟩
theorem leave_on2 (hfr : A.frames = some (env :: outer)) (hf : env.frame = some L) (fl : Heap.FlyingW B (env :: outer) e cls a0 s.heap) (h2 : SecD od c e s.heap)
    (q : ∀ h', Heap.FlyingW B outer e cls a0 h' → SecD od c e h' → s.heap.UpToSlots h' → Q () { s with heap := h' }) : wpAny M A (leaving env (.ref e)) Q E s := by
  rw [leaving]
  refine wpAny_bind (note2 hfr hf fl h2 fun h' x1 x2 x3 => ?_)
  obtain ⟨y1, y2, y3, y4⟩ := x1
  exact land2 (s := { s with heap := h' }) y1 y2 y3 y4 x2 fun h'' z1 z2 z3 => q h'' (fly2 (s := { s with heap := h'' }) z1) z2 (x3.trans z3)
theorem leave_new {oe : Obj} {vs : Array Value} (hfr : A.frames = some (env :: outer)) (hf : env.frame = some L) (hk : B.StaysIn s.heap) (hn : B.get? e = none) (hl : s.heap.FunFrames B (env :: outer)) (ge : s.heap.get? e = some oe) (de : oe.data = .fields vs)
    (h0 : vs[0]? = some a0) (h1 : vs[1]? = some .none) (h2 : vs[2]? = some c) (hz2 : oe.dict = od)
    (q : ∀ h', Heap.FlyingW B outer e oe.cls a0 h' → SecD od c e h' → s.heap.UpToSlots h' → Q () { s with heap := h' }) : wpAny M A (leaving env (.ref e)) Q E s := by
  rw [leaving, noteFrame]
  simp only [hf]
  refine wpAny_bind (wpAny_bind (wpAny_field ge de h1 ?_))
  rw [if_neg (by decide)]
  refine entry2 (a0 := a0) hfr hl hf ge hk hn de (Array.getElem?_eq_some_iff.mp h1).1 h0 h2 hz2 fun h' x1 x2 x3 => ?_
  obtain ⟨y1, y2, y3, y4⟩ := x1
  exact land2 (s := { s with heap := h' }) y1 y2 y3 y4 x2 fun h'' z1 z2 z3 => q h'' (fly2 (s := { s with heap := h'' }) z1) z2 (x3.trans z3)
end
end L2

namespace L2
open PySem PySem.Spec PyProof.Rows

section
variable {P : Program} {w : World} {H H0 H1 : Hp} {h h0 h1 h2 : Heap} {a : Addr} {o : HO} {fs : List Addr} {B : Heap}
theorem ObjOk.thing (x : ObjOk P w H h a o) : ∃ ob, h.get? a = some ob := by
  cases o with
  | lst xs => obtain ⟨_, _, _, _, e⟩ := x; exact ⟨_, e⟩
  | tup xs => obtain ⟨_, _, _, ob, e, _⟩ := x; exact ⟨ob, e⟩
  | dK kvs => obtain ⟨_, _, _, _, ob, _, _, e, _⟩ := x; exact ⟨ob, e⟩
  | dT kvs => obtain ⟨_, _, _, _, ob, _, _, e, _⟩ := x; exact ⟨ob, e⟩
  | set S n => obtain ⟨ob, _, _, _, e, _⟩ := x; exact ⟨ob, e⟩
  | ins C dx fs => obtain ⟨_, _, _, e, _⟩ := x; exact ⟨_, e⟩
  | own y => exact x
  | xd fs => obtain ⟨_, ⟨ob, _, _, e, _⟩, _⟩ := x; exact ⟨ob, e⟩
  | rng lo hi => obtain ⟨_, _, _, e⟩ := x; exact ⟨_, e⟩
  | frz ob u => obtain ⟨e, _⟩ := x; exact ⟨_, e⟩
  | tbl ps => exact ⟨_, (show h.get? a = some _ from x)⟩
  | met f y => exact ⟨_, (show h.get? a = some _ from x)⟩
  | ext φ => obtain ⟨_, e, _⟩ := x; exact e
def Cov (B : Heap) (fs : List Addr) (h0 : Heap) (H : Hp) (h : Heap) : Prop := ∀ b o, h.get? b = some o → (H b ≠ none ∨ ∃ o', h0.get? b = some o') → b ∉ fs → B.get? b = some o
theorem stays_un (un : Un fs [] H0 H1 h0 h1) (hok : HOk P w H1 h1) (nof : ∀ b ∈ fs, H1 b = none) (fr : ∀ b ∈ fs, ∀ ob, h1.get? b = some ob → ∀ vs, ob.data ≠ .fields vs) (cov : Cov B fs h0 H1 h1)
    (hB : B.StaysIn h2) (up : h1.UpToSlots h2) : Un fs [] H0 H1 h0 h2 ∧ HOk P w H1 h2 ∧ Cov B fs h0 H1 h2 := by
  have inB : ∀ b ob, h1.get? b = some ob → (H1 b ≠ none ∨ ∃ o', h0.get? b = some o') → b ∉ fs → h2.get? b = some ob := fun b ob e c n => hB b ob (cov b ob e c n)
  have trk : ∀ b u, H1 b = some u → b ∉ fs := fun b u e z => by
    rw [nof b z] at e
    cases e
  refine ⟨⟨fun b ob e n hb hx => inB b ob (un.keep b ob e n hb hx) (.inr ⟨ob, e⟩) hb, fun b ob e n hb hx => ?_, un.free, fun b ob e hx => ?_, un.tups, un.frzs, un.tbls⟩, fun b u e => ?_, fun b ob e c n => ?_⟩
  · obtain ⟨sl, q⟩ := un.slot b ob e n hb hx
    obtain ⟨sl', q'⟩ := up b _ q (fr b hb _ q)
    exact ⟨sl', q'⟩
  · obtain ⟨o', q⟩ := un.there b ob e hx
    by_cases hb : b ∈ fs
    · obtain ⟨sl', q'⟩ := up b _ q (fr b hb _ q)
      exact ⟨_, q'⟩
    · exact ⟨o', inB b o' q (.inr ⟨ob, e⟩) hb⟩
  · refine (hok b u e).stay (fun c v hc q => ?_) (fun _ q => q) fun _ _ q => q
    have hct : ∃ z, H1 c = some z := by
      rcases hc with hc | hc
      · rw [hc]
        exact ⟨u, e⟩
      · exact ⟨_, hc⟩
    obtain ⟨z, hz⟩ := hct
    exact inB c v q (.inl (by rw [hz]; simp)) (trk c z hz)
  · have ht : ∃ o1, h1.get? b = some o1 := by
      rcases c with c | ⟨o', c⟩
      · cases hz : H1 b with
        | none => exact absurd hz c
        | some z => exact (hok b z hz).thing
      · exact un.there b o' c (by simp)
    obtain ⟨o1, q⟩ := ht
    have q2 := cov b o1 q c n
    have q3 := hB b o1 q2
    rw [e] at q3
    rw [Option.some.inj q3]
    exact q2
end
def ExcO (ea : Addr) (cls : Value) : HO := .ext fun h => ∃ oe vs, h.get? ea = some oe ∧ oe.cls = cls ∧ oe.data = .fields vs ∧ vs[2]? = some .none
theorem excO_ok {P : Program} {w : World} {H : Hp} {h : Heap} {ea : Addr} {cls : Value} (q : ∃ oe vs, h.get? ea = some oe ∧ oe.cls = cls ∧ oe.data = .fields vs ∧ vs[2]? = some .none) : ObjOk P w H h ea (ExcO ea cls) :=
  ⟨q, let ⟨oe, _, e, _⟩ := q; ⟨oe, e⟩, fun h1 h2 ⟨oe, vs, e, c, d, z⟩ k => ⟨oe, vs, k oe e, c, d, z⟩⟩
def CtxE (E : XK) (cls : Value) (od : Option Addr) (c : Value) (H : Hp) : Prop := (c = .none ∧ (∃ C0 : Addr, cls = .ref C0) ∧ E cls od H) ∨ ∃ C e' C', cls = .ref C ∧ od = none ∧ c = .ref e' ∧ H e' = some (ExcO e' C') ∧ E (.int (C : Int) e') none H
def CX1 (P : Program) (w : World) : CXT := fun outer H s E e s' => ∃ (ea : Addr) (cls a0 : Value) (od : Option Addr) (c : Value) (H' : Hp) (B : Heap), e = .ref ea ∧ s'.os = s.os ∧ AllBare s'.gens ∧ Un (frs outer) [] H H' s.heap s'.heap ∧ HOk P w H' s'.heap ∧ H' ea = none ∧
  Cov B (frs outer) s.heap H' s'.heap ∧ Heap.FlyingW B outer ea cls a0 s'.heap ∧ SecD od c ea s'.heap ∧ CtxE E cls od c H'
structure Out (X : Cx) (E : XK) : Prop where
  stk : X.stack = X.env :: X.outer
  fr : X.env.frame = some X.env.locals
  ex : X.ex = []
  xe : ∀ e s', wpAny (model X.prog X.w) X.A (leaving X.env e) (fun _ s'' => CX1 X.prog X.w X.outer X.H₀ X.s₀ E e s'') (fun e' s'' => CX1 X.prog X.w X.outer X.H₀ X.s₀ E e' s'') s' → X.xe e s'
def Thr (X : Cx) (E : XK) : Prop := ∀ (pins : List (Addr × Obj)) (σ : St) (H : Hp) (s : Shared) (h1 : Heap) (ea C0 : Addr) (vs : List Value), Inv X pins σ H s → Heap.MadeExcOf s.heap h1 ea (.ref C0) vs → E (.ref C0) none H → X.xe (.ref ea) { s with heap := h1 }
section
variable {X : Cx} {E : XK} {pins : List (Addr × Obj)} {σ : St} {H : Hp} {s : Shared}
theorem Inv.frData (I : Inv X pins σ H s) : ∀ b ∈ frs X.stack, ∀ ob, s.heap.get? b = some ob → ∀ vs, ob.data ≠ .fields vs := fun b hb ob e => by
  obtain ⟨_, o, ho, hnf⟩ := I.stack.mem hb
  rw [e] at ho
  cases ho
  exact hnf
theorem Inv.fsData (I : Inv X pins σ H s) : ∀ b ∈ X.fs, ∀ ob, s.heap.get? b = some ob → ∀ vs, ob.data ≠ .fields vs := fun b hb ob e => by
  obtain ⟨_, o, ho, hnf⟩ := I.funs.mem hb
  rw [e] at ho
  cases ho
  exact hnf
theorem Inv.fsFree (I : Inv X pins σ H s) (hx : X.ex = []) : ∀ b ∈ X.fs, H b = none := fun b hb => by
  obtain ⟨_, o, ho, _⟩ := I.ok.funs.mem hb
  exact I.base.free b o ho (I.ok.frf b hb) (by rw [hx]; simp)
theorem Cov.outer {B h0 : Heap} {h : Heap} (I : Inv X pins σ H s) (cov : Cov B (frs X.stack) h0 H h) (k : ∀ b o, X.s₀.heap.get? b = some o → ∃ o', h0.get? b = some o') : Cov B X.fs X.s₀.heap H h := fun b o e c n => by
  refine cov b o e (c.imp id fun ⟨o', q⟩ => k b o' q) fun z => ?_
  rcases List.mem_cons.mp (I.stkSub b z) with q | q
  · subst q
    rcases c with c | ⟨o', c⟩
    · exact c I.free
    · exact absurd (Nat.lt_of_lt_of_le (Heap.lt_size c) I.ok.above) (Nat.lt_irrefl _)
  · exact n q
theorem fly_out (O : Out X E) (I : Inv X pins σ H s) {B : Heap} {ea : Addr} {cls a0 : Value} {od : Option Addr} {c : Value} {h2 : Heap} (cov : Cov B X.fs X.s₀.heap H s.heap) (fl : Heap.FlyingW B X.outer ea cls a0 h2) (sc : SecD od c ea h2) (up : s.heap.UpToSlots h2) (hn : H ea = none) (q : CtxE E cls od c H) :
    CX1 X.prog X.w X.outer X.H₀ X.s₀ E (.ref ea) { s with heap := h2 } := by
  have un : Un X.fs [] X.H₀ H X.s₀.heap s.heap := by
    have u := I.base
    rw [O.ex] at u
    exact u
  obtain ⟨u2, ok2, c2⟩ := stays_un un I.hok (I.fsFree O.ex) I.fsData cov fl.1 up
  exact ⟨ea, cls, a0, od, c, H, B, rfl, I.os, I.bare, u2, ok2, hn, c2, fl, sc, q⟩
theorem Out.thrC (O : Out X E) {ea : Addr} {oe : Obj} {vs : Array Value} {a0 c : Value} (I : Inv X pins σ H s) (ge : s.heap.get? ea = some oe) (de : oe.data = .fields vs) (h0 : vs[0]? = some a0) (h1 : vs[1]? = some .none) (h2 : vs[2]? = some c)
    (hn : H ea = none) (new : X.s₀.heap.get? ea = none) (q : CtxE E oe.cls oe.dict c H) : X.xe (.ref ea) s := by
  refine O.xe _ _ ?_
  have hfr : X.A.frames = some (X.env :: X.outer) := by rw [I.ok.frames, O.stk]
  have hl : s.heap.FunFrames (PySem.W.hideAll s.heap (ea :: frs X.stack)) (X.env :: X.outer) := by
    have z := PySem.W.funFrames_hide (as := ea :: frs X.stack) I.stack fun env he b hb => List.mem_cons_of_mem _ (List.mem_filterMap.mpr ⟨env, he, hb⟩)
    rw [O.stk] at z ⊢
    exact z
  refine leave_new hfr O.fr (fun b o e => PySem.W.of_hideAll _ e) (PySem.W.hideAll_none _ (List.mem_cons_self ..)) hl ge de h0 h1 h2 rfl fun h3 fl sc up => ?_
  refine fly_out O I (Cov.outer I (h0 := X.s₀.heap) (fun b o e c n => ?_) fun b o e => ⟨o, e⟩) fl sc up hn q
  refine PySem.W.hideAll_get _ e fun z => ?_
  rcases List.mem_cons.mp z with z | z
  · subst z
    rcases c with c | ⟨o', c⟩
    · exact c hn
    · rw [new] at c
      cases c
  · exact n z
theorem Out.thrG (O : Out X E) {ea : Addr} {oe : Obj} {vs : Array Value} {a0 : Value} (I : Inv X pins σ H s) (ge : s.heap.get? ea = some oe) (de : oe.data = .fields vs) (h0 : vs[0]? = some a0) (h1 : vs[1]? = some .none) (h2 : vs[2]? = some .none)
    (hn : H ea = none) (new : X.s₀.heap.get? ea = none) (hcl : ∃ C0 : Addr, oe.cls = .ref C0) (q : E oe.cls oe.dict H) : X.xe (.ref ea) s := O.thrC I ge de h0 h1 h2 hn new (.inl ⟨rfl, hcl, q⟩)
theorem Out.thr (O : Out X E) : Thr X E := by
  intro pins σ H s h1 ea C0 vs I mk q
  have I1 : Inv X pins σ H { s with heap := h1 } := I.kept (t' := s.toks) mk.keeps
  have hn : H ea = none := by
    cases hz : H ea with
    | none => rfl
    | some z =>
      obtain ⟨ob, e⟩ := (I.hok ea z hz).thing
      rw [mk.new] at e
      cases e
  obtain ⟨t, ge, _, _⟩ := mk.there
  refine O.thrG I1 (a0 := .ref t) ge rfl rfl rfl rfl hn ?_ ⟨_, rfl⟩ q
  cases hz : X.s₀.heap.get? ea with
  | none => rfl
  | some o =>
    obtain ⟨o', e⟩ := I.base.there ea o hz (by rw [O.ex]; simp)
    rw [mk.new] at e
    cases e
theorem Inv.threw {H' : Hp} {s' : Shared} (I : Inv X pins σ H s) (os : s'.os = s.os) (bare : AllBare s'.gens) (un : Un (frs X.stack) [] H H' s.heap s'.heap) (hok : HOk X.prog X.w H' s'.heap) : Inv X pins σ H' s' :=
  I.call' (ch := []) os un hok bare fun b z => absurd z (by simp)
theorem Out.passes (O : Out X E) : Passes (CX1 X.prog X.w) X E := by
  intro pins σ H s e s' I q
  obtain ⟨ea, cls, a0, od, c, H', B, rfl, os, bare, un, hok, hn, cov, fl, sc, qE⟩ := q
  have I1 := I.threw os bare un hok
  refine O.xe _ _ ?_
  have hfr : X.A.frames = some (X.env :: X.outer) := by rw [I.ok.frames, O.stk]
  rw [O.stk] at fl
  refine leave_on2 hfr O.fr fl sc fun h2 fl2 sc2 up => ?_
  exact fly_out O I1 (Cov.outer I1 cov fun b o e => I.base.there b o e (by rw [O.ex]; simp)) fl2 sc2 up hn qE
end
theorem out_of {P : Program} {w : World} {K : PySem.W.Frag} {mg : Str → Option Value} {base : Heap} {N : List Str} {qual : Str} {scope : Scope} {f : Addr} {cd : Value} {A : Around} {outer : List Env} {s : Shared} {H : Hp} {E : XK} :
    Out (cxOf (CX1 P w) P w K mg base N qual scope f cd A outer s H E) E := ⟨rfl, rfl, rfl, fun _ _ h => h⟩
theorem Fun.ok1 {P : Program} {w : World} {K : PySem.W.Frag} {mg : Str → Option Value} {base : Heap} {x qual : Str} {st : Stmt} {f : Addr} {fd : FuncData} {N ps : List Str} {k : Nat} {sp : Sp} (F : Fun K x qual st f fd) (S : FnScope N ps (defScope st))
    (len : ∀ vs H Q E, sp vs H Q E → vs.length = ps.length)
    (hbody : ∀ (cdv : Value) (A : Around) (outer : List Env) (s : Shared) (H : Hp) (vs : List V) (Q : VK) (E : XK), Room k (A.deeper (envOfC qual (defScope st) s.heap.objs.size f cdv)) → sp vs H Q E →
      ∃ t, PSs (cxOf (CX1 P w) P w K mg base N qual (defScope st) f cdv A outer s H E) (defBody st) t ∧ t { nx := fun _ H' => Q .non H', rt := Q } (start N vs) H) : FnOk P w K mg base (CX1 P w) (k + 1) f fd ps sp := by
  obtain ⟨oc, od, kV, doc, pm, an, cdv, ct, osl, rfl, lk, hcd⟩ := F.ex
  exact fn_of lk hcd S len fun A outer s H vs Q E hr hsp => hbody cdv A outer s H vs Q E hr hsp
section
variable {X : Cx} {E : XK}
def tRaise (C : Addr) (E : XK) (t : TA) : TS := fun _ σ H => t σ H fun vs H1 => vs.length ≤ sizeLine ∧ E (.ref C) none H1
theorem ps_raise {x : Str} {C : Addr} {bm : List Value} {B newId initId : String} {e : Expr} {es : List Expr} {ta : TA} {np cpos pos : Pos} (th : Thr X E) (hc : X.calm = true) (hg : Gl X x) (O : ∀ h, X.K.In h → h.Ns mainGlobals X.mg → OwnCls x C bm newId X.mg h)
    (FB : ExcBaseFacts B newId initId bm) (ha : PA X (e :: es) ta) (he : starEach (e :: es) X.env = (false, eval e X.env) :: starEach es X.env := by rfl) (hpl : (backTo cpos (starEach es X.env)).any (·.1) = false := by rfl)
    (hd : (x == ("__debug__" : Str)) = false := by decide) : PS X (.Raise (some (.Call (.Name x np) (e :: es) [] cpos)) none pos) (tRaise C E ta) := by
  intro pins s σ H D I h
  have OC := O _ I.mod.kin I.mod.glob
  obtain ⟨tl, N, nm, q, bs, hdct, sn, sub, ab, col, dd, k0, k1, k2, k3, k5, mN, hC, hN, hni, T⟩ := OC.obj
  refine wpAny_Raise_call_subT (C := C) (nm := nm) (q := q) (N := N) (bs := bs) (bm := tl) (hdct := hdct) (sn := sn) (sub := sub) (ab := ab) (col := col) (dd := dd) (k0 := k0) (k1 := k1) (k2 := k2) (k3 := k3) (k5 := k5)
    FB (mN := mN) (T.hasType FB.hasBase) (I.ok.hd hc) (by rw [he]; show (false || (backTo cpos (starEach es X.env)).any (·.1)) = false; rw [hpl]; rfl) hni (ld_glob I hg OC.bound ⟨rfl, ?_⟩ hd)
  have hA := ha cpos pins s σ H _ I h
  rw [he] at hA ⊢
  refine Calls.evalArgs_plain (wpAny_mono hA (fun us s1 ⟨vs, H1, I1, r1, z, q1⟩ => ?_) fun _ _ y => y)
  exact ⟨rfl, by rw [← r1.length]; exact z, I1.bk _ _ hC, hN.keeps I1.bk, T.keeps I1.bk, fun h' ea hm => th pins σ H1 s1 h' ea _ us I1 hm q1⟩
end
end L2

namespace L2
open PySem PySem.Spec PyProof.Rows

theorem exm_no (K : PySem.W.Frag) (i : Int) (n : Nat) (v : Value) : PySem.W.exmOne K (.int i n) v ≠ some true := by
  unfold PySem.W.exmOne
  split
  · unfold PySem.W.kitCls
    split
    · split <;> simp [PySem.W.subIn]
    · split <;> simp [PySem.W.subIn]
    · simp
  · simp
section
variable {X : Cx} {pins : List (Addr × Obj)} {σ : St} {H : Hp} {s : Shared}
theorem Inv.track {ea : Addr} {o : HO} (I : Inv X pins σ H s) (hn : H ea = none) (h0 : X.s₀.heap.get? ea = none) (hL : ea ≠ X.env.locals) (hC : ∀ x c, X.env.cells.lookup x = some c → c ≠ ea) (hp : ∀ p ∈ X.pn ++ pins, p.1 ≠ ea)
    (ok : ObjOk X.prog X.w (upd H ea o) s.heap ea o) : Inv X pins σ (upd H ea o) s := by
  have ne : ∀ b u, H b = some u → b ≠ ea := fun b u e z => by rw [z, hn] at e; cases e
  refine ⟨I.ok, I.os, I.bare, ⟨I.base.keep, I.base.slot, fun b ob e n hx => ?_, I.base.there, fun b xs e => ?_, fun b ob u e => ?_, fun b ps e => ?_⟩, I.loc, I.cell, ?_, fun x c e => ?_, fun p hpp => ?_, fun b u e => ?_, I.len⟩
  · rw [upd_ne (fun z => by rw [z, h0] at e; cases e)]
    exact I.base.free b ob e n hx
  · have q := I.base.tups b xs e
    rw [upd_ne (ne b _ q)]
    exact q
  · have q := I.base.frzs b ob u e
    rw [upd_ne (ne b _ q)]
    exact q
  · obtain ⟨more, q⟩ := I.base.tbls b ps e
    exact ⟨more, by rw [upd_ne (ne b _ q)]; exact q⟩
  · rw [upd_ne (Ne.symm hL)]
    exact I.free
  · rw [upd_ne (hC x c e)]
    exact I.freeC x c e
  · obtain ⟨a1, a2, a3⟩ := I.pin p hpp
    exact ⟨a1, by rw [upd_ne (hp p hpp)]; exact a2, a3⟩
  · by_cases hb : b = ea
    · subst hb
      rw [upd_same] at e
      cases e
      exact ok
    · rw [upd_ne hb] at e
      exact (I.hok b u e).stay (fun _ _ _ q => q) (fun c q => by rw [upd_ne (ne c _ q)]; exact q) fun c xs q => by rw [upd_ne (ne c _ q)]; exact q
theorem Inv.recx {A' : Around} {pn' pins' : List (Addr × Obj)} {cm : Bool} {xe' : Value → Shared → Prop} (I : Inv X pins σ H s) (hA : A'.frames = X.A.frames) (hcm : cm = true → A'.handled = none) (hp : ∀ p ∈ pn' ++ pins', p ∈ X.pn ++ pins) :
    Inv { X with A := A', calm := cm, pn := pn', xe := xe' } pins' σ H s :=
  ⟨⟨I.ok.mod, I.ok.kind, I.ok.glob, I.ok.blt, I.ok.above, I.ok.inj, I.ok.has, I.ok.cab, hcm, hA.trans I.ok.frames, I.ok.stk, I.ok.exf, I.ok.bs, I.ok.bsz, I.ok.noex, I.ok.exfs, I.ok.funs, I.ok.frf⟩,
    I.os, I.bare, I.base, I.loc, I.cell, I.free, I.freeC, fun p z => I.pin p (hp p z), I.hok, I.len⟩
theorem unname_ok {M : Model} {A : Around} {E : Value → Shared → Prop} {i : Nat} {x : Str} {pos : Pos} {Q : Unit → Shared → Prop} (I : Inv X pins σ H s) (hN : X.N.Nodup) (hi : X.N[i]? = some x) (hx : X.env.scope.names.lookup x = some .local)
    (h : ∀ s', Inv X pins (σ.set i none) H s' → Q () s') : wpAny M A (do bindName X.env x .none; unbindBehindTheSuite X.env x pos) Q E s := by
  obtain ⟨m, hn, hl⟩ := id I.loc
  have hcls : (X.env.scope.kind == .class || (X.env.scope.kind == .module && X.env.locals != X.env.globals)) = false := by rw [I.ok.kind]; rfl
  refine wpAny_nameGoes_keeps hx hn hcls fun h' v hn' hs => ?_
  have below : ∀ b ob, X.s₀.heap.get? b = some ob → b ≠ X.env.locals := fun b ob e => Nat.ne_of_lt (Nat.lt_of_lt_of_le (Heap.lt_size e) I.ok.above)
  refine h _ ⟨I.ok, I.os, I.bare, ⟨fun b ob e n hb hx => (hs.2 b (below b ob e)).trans (I.base.keep b ob e n hb hx), fun b ob e n hb hx => ?_, I.base.free, fun b ob e hx => ?_, I.base.tups, I.base.frzs, I.base.tbls⟩,
    ⟨_, hn', fun j y v' e1 e2 e3 => ?_⟩, fun y c e => ?_, I.free, I.freeC, fun p hp => ?_, fun b ob e => ?_, by rw [List.length_set]; exact I.len⟩
  · obtain ⟨sl, e1⟩ := I.base.slot b ob e n hb hx
    exact ⟨sl, (hs.2 b (below b ob e)).trans e1⟩
  · obtain ⟨o', e1⟩ := I.base.there b ob e hx
    exact ⟨o', (hs.2 b (below b ob e)).trans e1⟩
  · by_cases hj : j = i
    · subst hj
      have hlt : j < σ.length := by rw [I.len]; exact (List.getElem?_eq_some_iff.mp hi).1
      rw [List.getElem?_set_self hlt] at e2
      cases e2
    · rw [List.getElem?_set_ne (Ne.symm hj)] at e2
      obtain ⟨u', r', q⟩ := hl j y v' e1 e2 e3
      refine ⟨u', r', ?_⟩
      rcases q with ⟨k, e⟩ | ⟨k, c, e, z⟩
      · have hyx : y ≠ x := fun e' => hj (nodup_ix hN e1 (e' ▸ hi))
        exact .inl ⟨k, by simp [hyx, e]⟩
      · exact .inr ⟨k, c, e, z.sameBut hs (I.cne y c e)⟩
  · obtain ⟨w', z⟩ := I.cell y c e
    exact ⟨w', z.sameBut hs (I.cne y c e)⟩
  · obtain ⟨e, n, ne, nf, d⟩ := I.pin p hp
    exact ⟨(hs.2 p.1 ne).trans e, n, ne, nf, d⟩
  · refine (I.hok b ob e).stay (fun c v hc q => (hs.2 c ?_).trans q) (fun _ q => q) fun _ _ q => q
    intro z
    subst z
    have hf : H X.env.locals = none := I.free
    rcases hc with hc | hc
    · rw [← hc, hf] at e
      cases e
    · rw [hf] at hc
      cases hc
end
section
variable {X : Cx}
end
end L2

namespace L2
open PySem PySem.Spec PySem.Calls PyProof.Rows PySem.W PySem.Builtin PySem.Builtin.ObjectAttr PySem.Builtin.Getset_descriptor

structure ExcCls (K : Frag) (D : Addr) : Prop where
  ga : findIn K (.ref D) "__getattribute__" = some (some (.builtin "BaseException.__getattribute__"))
  gh : findIn K (.ref D) "__getattr__" = some none
  cl : findIn K (.ref D) "__class__" = some (some (.builtin "object.__class__"))
  gt : specialIn K (.builtin "object.__class__") "__get__" = some (some (.builtin "getset_descriptor.__get__"))
  tk : takesIn K (.builtin "object.__class__") = some true
  mr : mroIn K D (.type "object") = some true
  mb : mroIn K D (.type "BaseException") = some true
  is_ : (clsIn K D).isSome = true
def ExcAt (x : Addr) (D : Value) (h : Heap) : Prop := ∃ ox, h.get? x = some ox ∧ ox.cls = D
section
variable {K : Frag} {x D : Addr}
theorem ExcAt.ty {M : Model} {h : Heap} {V : Value} (q : ExcAt x V h) : Looks M h (typeOf (.ref x)) V := by
  obtain ⟨ox, e, c⟩ := q
  exact c ▸ (Looks.ld e).andThen .now
theorem looks_data {M : Model} {h : Heap} {C : Addr} {name : Str} {at_ g : Value} (X : K.In h) (ha : findIn K (.ref C) name = some (some at_)) (hg : specialIn K at_ "__get__" = some (some g)) (hd : takesIn K at_ = some true) :
    Looks M h (find (.ref x) (.ref C) name) (.bind g at_) := by
  refine (looks_findIn X ha).andThen (Looks.andThen (show Looks M h (getOf (some at_)) (some g) from looks_specialIn X hg) ?_)
  have L3 := looks_takesIn (M := M) X hd
  have L4 : Looks M h (dataDescriptor? (some at_) (some g)) (some (g, at_)) := L3.andThen .now
  exact L4.andThen (Looks.tag .now)
section
variable {prog : Program} {w : World} {A : Around} {E : Value → Shared → Prop} {s : Shared}
theorem check_bexc {M : Model} {nameV : Value} {Q : Unit → Shared → Prop} {hh : Heap} {gg : Array GenState} {dd : Drawn} {tt : Nat} {oo : OsState} (S : Looks M hh (isInstance (.ref x) (.type "BaseException")) true) (hq : Q () ⟨hh, gg, dd, tt, oo⟩) :
    wpAny M A (checkBuiltinCall "BaseException.__getattribute__" ⟨[.ref x, nameV], []⟩) Q E ⟨hh, gg, dd, tt, oo⟩ := by
  have hk : builtinKind "BaseException.__getattribute__" = some .slot := by decide +kernel
  have hsplit : splitId "BaseException.__getattribute__" = some ("BaseException", "__getattribute__") := by decide +kernel
  have ha := F.args_bexc_ga (.ref x) nameV
  simp only [checkBuiltinCall, hk, hsplit]
  refine wpAny_bind (S.at ?_)
  repeat (first | wp_step)
  exact hq
theorem exc_class {Q : Option Value → Shared → Prop} (C : ExcCls K D) (X : K.In s.heap) (q : ExcAt x (.ref D) s.heap) (h : Q (some (.ref D)) { s with toks := s.toks + 1 }) : wpAny (model prog w) A (getAttr? (.ref x) "__class__") Q E s := by
  obtain ⟨hh, gg, dd, tt, oo⟩ := s
  have L0 := q.ty (M := model prog w)
  have L1 := looks_findIn (M := model prog w) X C.ga
  have L2 := looks_data (M := model prog w) (x := x) X C.cl C.gt C.tk
  have L3 := looks_findIn (M := model prog w) X C.gh
  have L4 := looks_mroIn (M := model prog w) X C.mr
  have L5 := looks_mroIn (M := model prog w) X C.mb
  have S5 : Looks (model prog w) hh (isInstance (.ref x) (.type "BaseException")) true := L0.andThen L5
  unfold getAttr? getAttrBy? getAttrBy
  refine wpAny_bind (wpAny_mkText (wpAny_bind (wpAny_attempt (wpAny_holding (wpAny_bind (L0.at (wpAny_bind (L1.at ?_))))))))
  show wpAny _ _ (getAttrByItsOwn (.ref x) (.str "__class__" tt) (.ref D) (.builtin "BaseException.__getattribute__") false false) _ _ _
  unfold getAttrByItsOwn
  refine wpAny_bind (Looks.at (show Looks (model prog w) hh (hookBefore (.ref D)) none from L3) ?_)
  refine wpAny_bind (wpAny_attempt (wpAny_holding ?_))
  show wpAny _ _ (boundAndCalled _ _ _) _ _ _
  unfold boundAndCalled
  rw [F.attrBase_ValueError.ga.bind (.ref x)]
  refine wpAny_bind (wpAny_pure ?_)
  show wpAny _ _ (call (.builtin "BaseException.__getattribute__") [.ref x, .str "__class__" tt]) _ _ _
  refine wpAny_call (codeAny_call_builtin F.attrBase_ValueError.ga.plain F.entry_bexc_ga ?_)
  refine check_bexc S5 ?_
  refine wpAny_bind (wpAny_pure (wpAny_bind (wpAny_pure (wpAny_bind (L0.at (wpAny_bind (L2.at ?_)))))))
  show wpAny _ _ (holding [_] (call (.builtin "getset_descriptor.__get__") [.builtin "object.__class__", .ref x, .ref D]) >>= ret) _ _ _
  refine wpAny_bind (wpAny_holding (wpAny_call ?_))
  refine codeAny_call_builtin KF.slot_gs.plain KF.entry_gs (KF.slot_gs.check _ _ _ _ _ _ _ _ KF.type_class (KF.args_gs _ _ _) ?_)
  (unfold Builtin.«getset_descriptor.__get__» descrGet; rw [dga_obj])
  refine wpAny_bind (wpAny_pure ?_)
  (unfold descrGetter descrCheckInstance descrNameAndClass isInstance; simp only [KF.owner_class])
  repeat lk
  refine ⟨Code.quiet_builtin _ (by decide +kernel), codeAny_builtin KF.entry_class ?_⟩
  (unfold Builtin.«object.__class__» shownTypeOf)
  repeat lk
  exact h
end
theorem kitx_exc (C : ExcCls K D) : KitX K (.ref x) (.ref D) (ExcAt x (.ref D)) where
  ty := fun _ _ _ q => q.ty
  it := fun M h X _ => by
    have z := C.is_
    unfold clsIn at z
    split at z
    · rename_i ho
      intro A1 Q1 E1 s1 k q
      (unfold isType; unfold loadHead)
      exact wpAny_bind (wpAny_loadPart (k _ _ (X _ _ ho)) (wpAny_pure q))
    · cases z
  ne := fun h tp dd its n sl X htp => by
    have z := C.is_
    refine Bool.eq_false_iff.mpr fun q => ?_
    cases Value.ref.inj (beq_iff_eq.mp q)
    unfold clsIn at z
    split at z
    · rename_i ho
      cases (X _ _ ho).symm.trans htp
    · cases z
  ca := fun X q k => exc_class C X q k
end
end L2

namespace L2
open PySem PySem.Spec PyProof.Rows
section
variable {X : Cx}
def rCatL (K : PySem.W.Frag) : R2 := fun x y H Q => ∃ l b xs zs, x = .ref l ∧ y = .ref b ∧ SqL K H l xs ∧ SqL K H b zs ∧ xs.length + zs.length ≤ sizeLine ∧ ∀ p, H p = none → Q (.ref p) (upd H p (.lst (xs ++ zs)))
theorem catL (K : PySem.W.Frag) (hK : X.K = K := by rfl) : OpR X (binaryOp .Add) (rCatL K) := by
  subst hK
  intro pins s σ H x y v u Q I rx ry h
  obtain ⟨l, b, xs, zs, rfl, rfl, hH, hB, hz, q⟩ := h
  cases rx
  cases ry
  obtain ⟨its, r, pl, _⟩ := I.list hH
  obtain ⟨its2, r2, pl2, _⟩ := I.list hB
  obtain ⟨⟨cls, dd, data, sl⟩, n, e, hc, _, hd⟩ := pl
  obtain ⟨⟨cls2, dd2, data2, sl2⟩, n2, e2, hc2, _, hd2⟩ := pl2
  simp only at hc hd hc2 hd2
  subst hc hd hc2 hd2
  have l1 := r.length
  have l2 := r2.length
  have ea : its.toArray ++ its2.toArray = (its ++ its2).toArray := by simp
  refine concat_meets ⟨_, e, rfl⟩ ⟨_, e2, rfl⟩ noFill_list_add seq_list_add PySem.F.slot_list_add PySem.F.entry_list_add (PySem.F.args_list_add_2 _ _)
    (list_addW l b its.toArray its2.toArray n n2 dd dd2 sl sl2 (by rw [List.size_toArray, List.size_toArray]; (first | lia | omega))) ⟨e, e2, ?_⟩
  rw [ea]
  exact ⟨.ref _, _, I.lnew (t' := s.toks) (r.append r2) (by rw [List.length_append]; (first | lia | omega)), rfl, q _ I.fresh⟩
end
section
variable {X : Cx} {tg : Expr}
theorem passN {P : Program} {w : World} {X : Cx} : Passes (CX1 P w) X (fun _ _ _ => False) := by
  intro pins σ H s e s' I q
  obtain ⟨_, _, _, _, _, _, _, _, _, _, _, _, _, _, _, _, z⟩ := q
  rcases z with ⟨_, _, z⟩ | ⟨_, _, _, _, _, _, _, z⟩
  · exact z.elim
  · exact z.elim
end
theorem pe_cls {X : Cx} {x : Str} {C : Addr} {pos : Pos} (hg : Gl X x) (hm : X.mg x = some (.ref C)) (hd : (x == ("__debug__" : Str)) = false := by decide) : PE X (.Name x pos) (tC (.ref C)) := pe_glob hg hm rfl hd
theorem own_of {K : PySem.W.Frag} {h : Heap} {mg : Str → Option Value} {x : Str} {C : Addr} {bmB : List Value} {newId : String} (X : K.In h) (G : h.Ns mainGlobals mg) (e : PySem.W.nsIn K mainGlobals x = some (some (.ref C))) (q : PySem.W.excIn K C bmB newId = true) :
    OwnCls x C bmB newId mg h := by
  refine ⟨PySem.W.mg_of X G e, ?_⟩
  unfold PySem.W.excIn at q
  split at q
  · rename_i od cd sl look
    split at q
    · rename_i Cx bm j0 j1 j2 j3 nw j5 hmro hsl
      simp only [Bool.and_eq_true, beq_iff_eq, Bool.not_eq_true'] at q
      obtain ⟨⟨⟨⟨⟨rfl, rfl⟩, hdel⟩, ht⟩, hok⟩, hni⟩ := q
      obtain ⟨nm, bs, mro, ns, qn, hd, sn, sub, ab, col, del⟩ := cd
      (dsimp only at hmro hdel hok hni; subst hmro hdel)
      have hs2 : sl = #[j0, j1, j2, j3, some (.builtin nw), j5] := by
        obtain ⟨l⟩ := sl
        simp only at hsl
        rw [hsl]
      subst hs2
      exact ⟨bm, ns, nm, qn, bs, hd, sn, sub, ab, col, od, j0, j1, j2, j3, j5, _, X _ _ look, .of_isNs (PySem.W.isNs_of_in X hok), PySem.W.nsMap_none_of_in X hok hni, PySem.W.tail_of_in X ht⟩
    · cases q
  · cases q
end L2
namespace L2
theorem exc_is {K : PySem.W.Frag} {C : PySem.Addr} (h : PySem.W.hasDictIn K C = true) : (PySem.W.clsIn K C).isSome = true := by
  obtain ⟨cd, e, _⟩ := PySem.W.any_some h
  rw [e]
  rfl
end L2
namespace L2
theorem len1 {α : Type} : ∀ us : List α, us.length = 1 → ∃ a, us = [a]
  | [_], _ => ⟨_, rfl⟩
theorem len2 {α : Type} : ∀ us : List α, us.length = 2 → ∃ a b, us = [a, b]
  | [_, _], _ => ⟨_, _, rfl⟩
theorem len3 {α : Type} : ∀ us : List α, us.length = 3 → ∃ a b c, us = [a, b, c]
  | [_, _, _], _ => ⟨_, _, _, rfl⟩
theorem len4 {α : Type} : ∀ us : List α, us.length = 4 → ∃ a b c d, us = [a, b, c, d]
  | [_, _, _, _], _ => ⟨_, _, _, _, rfl⟩
end L2

namespace L2
open PySem PySem.Spec PyProof.Rows

structure RoomH (ea : Addr) (k : Nat) (A : Around) : Prop where
  hd : A.handled = some (.ref ea)
  dp : A.depth + 3 * k + 5 < recursionLimit
  un : A.units + 16 * k + 200 < cLine
theorem Room.mark {k : Nat} {A : Around} (r : Room k A) (ea : Addr) : RoomH ea k (A.mark (some (.ref ea))) := ⟨rfl, r.dp, r.un⟩
theorem RoomH.deeper {ea : Addr} {k : Nat} {A : Around} (r : RoomH ea (k + 1) A) (env : Env) : RoomH ea k (A.deeper env) :=
  ⟨r.hd, by have := r.dp; show A.depth + 1 + 3 * k + 5 < _; (first | lia | omega), by have := r.un; show A.units + 3 + 16 * k + 200 < _; (first | lia | omega)⟩
structure FnH (ea : Addr) (P : Program) (w : World) (K : PySem.W.Frag) (mg : Str → Option Value) (base : Heap) (k : Nat) (f : Addr) (fd : FuncData) (ps : List Str) (sp : Sp) : Prop where
  len : ∀ vs H Q E, sp vs H Q E → vs.length = ps.length
  run : ∀ (A : Around) (outer : List Env) (s : Shared) (H : Hp) (args : Args) (us : List Value) (vs : List V) (Q : VK) (E : XK), RoomH ea k A → Env0 P w K mg base A outer s H → BindsTo s fd args (ps.zip us) → Vals vs us → sp vs H Q E →
    codeAny (model P w) A (.call (.ref f) args) (CR CX0 outer P w H s Q E) s
def cxH (P : Program) (w : World) (K : PySem.W.Frag) (mg : Str → Option Value) (base : Heap) (N : List Str) (qual : Str) (scope : Scope) (f : Addr) (cd : Value) (A : Around) (outer : List Env) (s : Shared) (H : Hp) (E : XK) : Cx :=
  { cxOf CX0 P w K mg base N qual scope f cd { A with handled := none } outer s H E with A := A.deeper (envOfC qual scope s.heap.objs.size f cd), calm := false, xe := fun _ _ => False }
theorem fnH_of {ea : Addr} {P : Program} {w : World} {K : PySem.W.Frag} {mg : Str → Option Value} {base : Heap} {k : Nat} {f : Addr} {name qual : Str} {params : Arguments} {body : List Stmt} {scope : Scope} {dV kV doc pm cdv ct oc : Value} {an od : Option Addr}
    {osl : Array (Option Value)} {N ps : List Str} {sp : Sp} (lk : K.lookup f = some ⟨oc, od, .func (PySem.W.fnOf name qual params body scope dV kV doc pm an cdv ct), osl⟩) (hcd : PySem.W.codeIn K cdv qual = true) (S : FnScope N ps scope)
    (len : ∀ vs H Q E, sp vs H Q E → vs.length = ps.length)
    (hbody : ∀ (A : Around) (outer : List Env) (s : Shared) (H : Hp) (vs : List V) (Q : VK) (E : XK), RoomH ea k (A.deeper (envOfC qual scope s.heap.objs.size f cdv)) → sp vs H Q E →
      ∃ t, PSs (cxH P w K mg base N qual scope f cdv A outer s H E) body t ∧ t { nx := fun _ H' => Q .non H', rt := Q } (start N vs) H) :
    FnH ea P w K mg base (k + 1) f (PySem.W.fnOf name qual params body scope dV kV doc pm an cdv ct) ps sp := by
  refine ⟨len, fun A outer s H args us vs Q E hr e0 hb r hsp => ?_⟩
  have hl := len _ _ _ _ hsp
  have KX : K.In s.heap := e0.mod.kin.keeps fun b o e => (e0.bs b o e).1
  have lim : s.heap.NoLimit := e0.mod.nolimit.keeps fun b o e => (e0.bs b o e).1
  have hkind : ∀ y ∈ ps.zip us, scope.names.lookup y.1 = some .local ∨ (scope.names.lookup y.1 = some .cell ∧ ((cellsFrom (s.heap.objs.size + 1) scope.names []).lookup y.1).isSome = true) := fun ⟨n, v⟩ hy => by
    rcases S.par n (List.of_mem_zip hy).1 with q | q
    · exact .inl q
    · exact .inr ⟨q, PySem.W.cellsFrom_some _ _ _ (.inl q)⟩
  refine codeAny_call_function (by have := hr.dp; (first | lia | omega)) (KX _ _ lk) rfl S.co S.gen rfl (PySem.W.codeRec_of KX hcd) (hb _ _ _ _ ?_)
  refine wpAny_newFunctionEnv_cells S.kind hkind fun env he s1 x => ?_
  subst he
  refine ⟨lim.keeps x.toInCall.keep, codeAny_func ?_⟩
  obtain ⟨t, ht, hq⟩ := hbody A outer s H vs Q E (hr.deeper _) hsp
  have e1 : Env0 P w K mg base { A with handled := none } outer s H := ⟨e0.frames, e0.mod, e0.bs, e0.bsz, e0.funs, e0.frf, e0.hok, e0.bare⟩
  have I0 : Inv (cxOf CX0 P w K mg base N qual scope f cdv { A with handled := none } outer s H E) [] (start N vs) H s1 := inv_start S rfl e1 hl r x
  have I : Inv (cxH P w K mg base N qual scope f cdv A outer s H E) [] (start N vs) H s1 := by
    have z := I0.recx (A' := A.deeper (envOfC qual scope s.heap.objs.size f cdv)) (cm := false) (pn' := []) (pins' := []) (xe' := fun _ _ => False) rfl (fun z => nomatch z) fun p hp => hp
    exact z
  refine wpAny_mono (ht [] s1 (start N vs) H _ I hq) (fun fl s' hs => ?_) fun e s' hs => hs.elim
  have fin : ∀ {σ' : St} {H' : Hp} {v : V} {u : Value}, Inv (cxH P w K mg base N qual scope f cdv A outer s H E) [] σ' H' s' → RelV v u → Q v H' → CE outer P w H s Q u s' :=
    fun {σ' H' v u} J rv q => ⟨v, H', J.os, J.bare, J.base, J.hok, rv, q⟩
  cases fl with
  | ret u =>
    obtain ⟨v, σ', H', J, rv, q⟩ := hs
    exact fin J rv q
  | next =>
    obtain ⟨σ', H', J, q⟩ := hs
    exact fin (v := V.non) (u := Value.none) J rfl q
  | brk =>
    obtain ⟨_, _, _, q⟩ := hs
    exact False.elim q
  | cont =>
    obtain ⟨_, _, _, q⟩ := hs
    exact False.elim q
theorem Fun.okH {ea : Addr} {P : Program} {w : World} {K : PySem.W.Frag} {mg : Str → Option Value} {base : Heap} {x qual : Str} {st : Stmt} {f : Addr} {fd : FuncData} {N ps : List Str} {k : Nat} {sp : Sp} (F : Fun K x qual st f fd) (S : FnScope N ps (defScope st))
    (len : ∀ vs H Q E, sp vs H Q E → vs.length = ps.length)
    (hbody : ∀ (cdv : Value) (A : Around) (outer : List Env) (s : Shared) (H : Hp) (vs : List V) (Q : VK) (E : XK), RoomH ea k (A.deeper (envOfC qual (defScope st) s.heap.objs.size f cdv)) → sp vs H Q E →
      ∃ t, PSs (cxH P w K mg base N qual (defScope st) f cdv A outer s H E) (defBody st) t ∧ t { nx := fun _ H' => Q .non H', rt := Q } (start N vs) H) : FnH ea P w K mg base (k + 1) f fd ps sp := by
  obtain ⟨oc, od, kV, doc, pm, an, cdv, ct, osl, rfl, lk, hcd⟩ := F.ex
  exact fnH_of lk hcd S len fun A outer s H vs Q E hr hsp => hbody cdv A outer s H vs Q E hr hsp
section
variable {X : Cx} {ea : Addr} {k : Nat} {f : Addr} {fd : FuncData} {ps : List Str} {sp : Sp} {dvs : List V} {ds : List Value} {x : Str} {p pos : Pos} {e : Expr} {es : List Expr} {t : TA}
theorem pe_callH (F : FnH ea X.prog X.w X.K X.mg X.base k f fd ps sp) (hr : RoomH ea k X.A) (hg : Gl X x) (hm : X.mg x = some (.ref f)) (hk : PySem.W.keepIn X.K (.ref f) = true) (hb : Binds X.K fd ps ds) (hd : Vals dvs ds)
    (ha : PA X (e :: es) t) (hdb : (x == ("__debug__" : Str)) = false := by decide) (he : starEach (e :: es) X.env = (false, eval e X.env) :: starEach es X.env := by rfl) (hpl : (backTo pos (starEach es X.env)).any (·.1) = false := by rfl) :
    PE X (.Call (.Name x p) (e :: es) [] pos) (tCall sp dvs (fun _ _ _ => False) t) := by
  intro pins s σ H Q I h
  refine wpAny_Call_Name_kw (ld_glob I hg hm ?_ hdb)
  refine PySem.W.callWith_K (h₀ := X.base) I.ok.mod.kin hk (thn (ha pos pins s σ H _ I h) fun us s1 ⟨vs, H1, I1, r, q⟩ => ⟨I1.kIn, ?_⟩) he hpl
  have r2 : Vals (vs ++ dvs) (us ++ ds) := r.append hd
  have hl : (us ++ ds).length = ps.length := by rw [← r2.length]; exact F.len _ _ _ _ q
  refine wpAny_call (codeAny_mono (F.run X.A X.stack s1 H1 ⟨us, []⟩ (us ++ ds) (vs ++ dvs) Q _ hr I1.env0 (hb s1 us I1.kIn hl) r2 q) fun r s' hq => ?_)
  cases r with
  | error e => exact False.elim hq
  | ok fl =>
    cases fl with
    | ret u => exact I1.after hq
    | next => exact False.elim hq
    | brk => exact False.elim hq
    | cont => exact False.elim hq
end
section
variable {prog : Program} {w : World} {A : Around} {E : Value → Shared → Prop} {s : Shared}
theorem entry_unchain : entryFor table "proto.unchain" = some Builtin.«proto.unchain» := entryFor_of_fast (by kernel_rfl)
theorem raise_over {α : Type} {e ea : Addr} {oe : Obj} {vs : Array Value} {Q : α → Shared → Prop} (hh : A.handled = some (.ref ea)) (ne : ea ≠ e) (ge : s.heap.get? e = some oe) (de : oe.data = .fields vs) (hz : 2 < vs.size) (h2 : Sec ea s.heap)
    (q : E (.ref e) { s with heap := s.heap.update e (Obj.mapFields (·.setIfInBounds 2 (.ref ea))) }) : wpAny (model prog w) A (raiseNew (.ref e) : Sem α) Q E s := by
  obtain ⟨oh, hs, gh, dh, zh⟩ := h2
  rw [raiseNew]
  refine wpAny_bind (wpAny_handled ?_)
  rw [hh]
  dsimp only
  rw [if_pos (by simp [ne])]
  refine wpAny_bind (wpAny_holding (wpAny_runValue (codeAny_builtin entry_unchain ?_)))
  show wpAny _ _ (field (.ref ea) 2 >>= _) _ _ s
  refine wpAny_bind (wpAny_field gh dh zh ?_)
  refine wpAny_bind (wpAny_pure ?_)
  refine wpAny_pure ?_
  show wpAny _ _ (setField (.ref e) 2 (.ref ea) >>= fun _ => throw (.ref e)) _ _ s
  exact wpAny_bind (wpAny_setField (s := s) (x := .ref ea) ge de hz (wpAny_throw q))
end
end L2

namespace L2
open PySem PySem.Spec PyProof.Rows
section
variable {X : Cx} {pins : List (Addr × Obj)} {σ : St} {H : Hp} {s : Shared} {h' : Heap}
end
section
variable {X : Cx} {elts : List Expr} {n : Nat} {tp : Pos}
end
section
variable {K : PySem.W.Frag} {a b : Addr} {xs ys : List V} {g : TG} {tt : TT} {te : TE} {n : Nat} {fr : St} {D : Addr} {Q : Hp → Prop} {H1 : Hp}
end
end L2

namespace L2
open PySem PySem.Spec PyProof.Rows
section
variable {X : Cx}
end
end L2

namespace L2
open PySem PySem.Spec PyProof.Rows
theorem valsInts : ∀ {us : List Value} {ns : List Int}, IntsAre us ns → Vals (ns.map V.int) us
  | _, _, .nil => .nil
  | _, _, .cons n t r => .cons ⟨t, rfl⟩ (valsInts r)
section
variable {X : Cx}
end
end L2

namespace L2
open PySem PySem.Spec PyProof.Rows
section
variable {X : Cx}
end
end L2
namespace HT
open PySem PyProof.Rows
section
variable {prog : Program} {w : World} {A : Around} {E : Value → Shared → Prop} {s : Shared}
end
end HT
namespace L2
open PySem PySem.Spec PyProof.Rows
section
variable {X : Cx}
end
end L2

namespace Ring
open PySem
abbrev Tie := Int × Int × Int
end Ring

namespace Ring
open PySem L2
def tieV (t : Tie) : List V := [.int t.1, .int t.2.1, .int t.2.2]
def TupAt (H : Hp) (x : V) (t : Tie) : Prop := ∃ b, x = .ref b ∧ H b = some (.tup (tieV t))
structure WebAt (H : Hp) (w : Addr) (p : Nat) (ts : List Tie) : Prop where
  ex : ∃ b xs, H w = some (.tup [.int (p : Int), .ref b]) ∧ H b = some (.tup xs) ∧ Paired (TupAt H) xs ts
theorem TupAt.tups {H H' : Hp} (s : Tups H H') {x : V} {t : Tie} (h : TupAt H x t) : TupAt H' x t := by
  obtain ⟨b, e, h⟩ := h
  exact ⟨b, e, s _ _ h⟩
theorem WebAt.tups {H H' : Hp} {w : Addr} {p : Nat} {ts : List Tie} (s : Tups H H') (h : WebAt H w p ts) : WebAt H' w p ts := by
  obtain ⟨b, xs, h1, h2, h3⟩ := h.ex
  exact ⟨b, xs, s _ _ h1, s _ _ h2, Paired.imp' (fun _ _ z => z.tups s) h3⟩
theorem WebAt.same {H H' : Hp} {w : Addr} {p : Nat} {ts : List Tie} (s : Same H H') (h : WebAt H w p ts) : WebAt H' w p ts := h.tups s.tups
def natsV (l : List Nat) : List V := l.map fun k => V.int ((k : Nat) : Int)
theorem natsV_snoc (l : List Nat) (k : Nat) : natsV (l ++ [k]) = natsV l ++ [.int (k : Int)] := by unfold natsV; rw [List.map_append]; rfl
theorem natsV_len (l : List Nat) : (natsV l).length = l.length := by unfold natsV; rw [List.length_map]
theorem natsV_get {l : List Nat} {i : Nat} {x : V} (h : (natsV l)[i]? = some x) : ∃ k, l[i]? = some k ∧ x = .int (k : Int) := by
  unfold natsV at h
  rw [List.getElem?_map] at h
  obtain ⟨k, e, q⟩ := Option.map_eq_some_iff.mp h
  exact ⟨k, e, q.symm⟩
theorem filter_range_succ (f : Nat → Bool) (i : Nat) : (List.range (i + 1)).filter f = (List.range i).filter f ++ (if f i = true then [i] else []) := by
  rw [List.range_succ, List.filter_append]
  congr 1
  cases h : f i with
  | true => rw [List.filter_cons, if_pos h, if_pos rfl]; rfl
  | false => rw [List.filter_cons, if_neg (by rw [h]; simp), if_neg (by simp)]; rfl
def Pick (f : Nat → Bool) (H : Hp) (D : Addr) (i : Nat) (acc : List V) (H2 : Hp) : Prop := Same H H2 ∧ H2 D = some (.lst acc) ∧ acc = natsV ((List.range i).filter f)
section
variable {f : Nat → Bool} {H H2 H3 : Hp} {D : Addr} {i : Nat} {acc : List V}
theorem Pick.start (hD : H D = none) : Pick f H D 0 [] (upd H D (.lst [])) := ⟨Same.new hD, upd_same, rfl⟩
theorem Pick.len (p : Pick f H D i acc H2) : H2 D = some (.lst acc) ∧ acc.length ≤ i := by
  refine ⟨p.2.1, ?_⟩
  rw [p.2.2, natsV_len]
  exact Nat.le_trans (List.length_filter_le _ _) (by rw [List.length_range]; exact Nat.le_refl _)
theorem Pick.yes (p : Pick f H D i acc H2) (hD : H D = none) (s : Same H2 H3) (hf : f i = true) : H3 D = some (.lst acc) ∧ Pick f H D (i + 1) (acc ++ [.int (i : Int)]) (upd H3 D (.lst (acc ++ [.int (i : Int)]))) := by
  refine ⟨s _ _ p.2.1, (p.1.trans s).put hD, upd_same, ?_⟩
  rw [filter_range_succ, if_pos hf, natsV_snoc, ← p.2.2]
theorem Pick.no (p : Pick f H D i acc H2) (s : Same H2 H3) (hf : f i = false) : Pick f H D (i + 1) acc H3 := by
  refine ⟨p.1.trans s, s _ _ p.2.1, ?_⟩
  rw [filter_range_succ, if_neg (by rw [hf]; simp), List.append_nil]
  exact p.2.2
end
def intsV (l : List Int) : List V := l.map V.int
def natD (k : Nat) : PyData := .int (k : Int)
theorem nats_dat {K : PySem.W.Frag} {H : Hp} : ∀ l : List Nat, DatVs K H (natsV l) (l.map natD)
  | [] => .nil
  | _ :: r => .cons (.int _) (nats_dat r)
theorem lay_nats : ∀ l : List Nat, PyData.canLayAll0 (l.map natD) = true
  | [] => rfl
  | _ :: r => by
    have ih := lay_nats r
    simp only [List.map_cons, PyData.canLayAll0, ih, Bool.and_true]
    rfl
theorem deep_nats : ∀ l : List Nat, PyData.depthAll (l.map natD) = 0
  | [] => rfl
  | _ :: r => by
    have ih := deep_nats r
    show max (PyData.depth (PyData.int _)) (PyData.depthAll (r.map _)) = 0
    rw [ih]
    rfl
theorem shaped_nats (l : List Nat) : SeqAt.shaped (.list (l.map natD)) = true := by
  unfold SeqAt.shaped
  have e : (PyData.list (l.map natD)).canLay0 = PyData.canLayAll0 (l.map natD) := by simp [PyData.canLay0]
  rw [e, lay_nats, Bool.true_and]
  refine decide_eq_true ?_
  have e2 : PyData.depth (PyData.list (l.map natD)) = PyData.depthAll (l.map natD) + 1 := by simp [PyData.depth]
  rw [e2, deep_nats]
  decide
end Ring

namespace Ring
open PySem L2
structure GoodTie (p : Int) (t : Tie) : Prop where
  a0 : 0 ≤ t.1
  a1 : t.1 < p
  b0 : 0 ≤ t.2.1
  b1 : t.2.1 < p
  ne : t.1 ≠ t.2.1
  l0 : 1 ≤ t.2.2
  l1 : t.2.2 ≤ 1000000000000000000000000000000
structure GoodWeb (p : Nat) (ts : List Tie) : Prop where
  p1 : 1 ≤ p
  p2 : p ≤ 10
  len : ts.length ≤ 24
  ties : ∀ t ∈ ts, GoodTie (p : Int) t
section
variable {p : Int} {H H2 H3 : Hp} {D b : Addr} {n : Nat} {t : Tie}
end
theorem small24 {n : Nat} (h : n ≤ 24) : n ≤ sizeLine := Nat.le_of_lt (small1000 (by (first | lia | omega)))
theorem ints_at {ns : List Int} {k : Nat} (h : k < ns.length) : (ns.map V.int)[k]? = some (.int (ns.getD k 0)) := by
  rw [List.getElem?_map, List.getD_eq_getElem?_getD]
  simp [h]
theorem emod2 (x m : Int) (h : 0 < m) : 0 ≤ x % m ∧ x % m < m := ⟨Int.emod_nonneg _ (by (first | lia | omega)), Int.emod_lt_of_pos _ h⟩
end Ring

namespace RM
variable (N : Net)
variable {N}
variable {S : Nat → Bool}
end RM

namespace RM
variable {N : Net} {S : Nat → Bool}
end RM

namespace Ring
open PySem L2
section
variable {f : Nat → Nat} {H H2 H3 : Hp} {D : Addr} {i : Nat} {acc : List V} {v : V}
end
end Ring

namespace RM
end RM
namespace Ring
open PySem L2
def pieceOf (L : Nat → Nat) (p s : Nat) : List Nat := (List.range p).filter fun x => decide (L x = s)
section
variable {L : Nat → Nat} {p i : Nat} {H H2 H3 : Hp} {D b : Addr}
end
end Ring

namespace RM
variable {N : Net} {S : Nat → Bool}
variable {pt r j : Nat} {l : List Nat}
end RM
namespace Ring
open PySem L2
end Ring

namespace RM
variable {N : Net}
end RM
namespace Ring
open PySem L2
section
variable {p : Nat} {ts : List Tie} {g : GoodWeb p ts}
end
theorem eqv_nats (l : List Nat) : PyData.eqv (.list (l.map natD)) (.list (l.map natD)) = true := SeqAt.eqv_refl _ (by
  have e : (PyData.list (l.map natD)).canLay0 = PyData.canLayAll0 (l.map natD) := by simp [PyData.canLay0]
  rw [e, lay_nats])
end Ring

namespace Ring
open PySem L2
section
variable {f : Nat → Bool} {l : List Nat} {H H2 H3 : Hp} {D : Addr} {i k : Nat} {acc : List V}
end
section
variable {f : Nat → Int} {l : List Nat} {H H2 H3 : Hp} {D : Addr} {i k : Nat} {acc : List V} {v : V}
end
end Ring

namespace RM
end RM
namespace Ring
open PySem L2
section
variable {p : Nat} {ts : List Tie} (g : GoodWeb p ts)
include g
end
section
variable {p : Nat} {ts : List Tie}
end
end Ring

namespace L2
open PySem PySem.Spec PyProof.Rows
end L2

namespace Ring
open PySem L2
end Ring

namespace RM
variable {N : Net}
section
variable {m s : Nat}
end
end RM

namespace Ring
open PySem L2
section
variable {f : List Nat → Bool} {ls : List (List Nat)} {H H2 H3 : Hp} {D : Addr} {i : Nat} {acc : List V} {y : V} {l : List Nat}
end
end Ring

namespace L2
open PySem PySem.Spec PyProof.Rows
section
variable {prog : Program} {w : World} {A : Around} {E : Value → Shared → Prop} {s : Shared}
end
open AutoSeq1 (wpAny_loadPart') in
section
variable {prog : Program} {w : World} {A : Around} {E : Value → Shared → Prop} {s : Shared}
end
section
variable {X : Cx} {elts : List Expr} {n : Nat} {tp : Pos}
end
section
variable {K : PySem.W.Frag} {a : Addr} {xs : List V} {g : TG} {tt : TT} {te : TE} {n : Nat} {fr : St} {D : Addr} {Q : Hp → Prop} {H1 : Hp}
end
end L2

namespace RM
variable {N : Net}
end RM

namespace Ring
end Ring
namespace RM
variable {N : Net}
section
variable {even left v : Nat} {pre ks : List Nat}
end
end RM

namespace Ring
open PySem L2
end Ring

namespace Ring
open PySem L2
end Ring

namespace L2
open PySem PySem.Spec PyProof.Rows

section
variable {κ : Type} [DecidableEq κ]
def valV (kvs : List (κ × V)) (k : κ) : Option V := (kvs.find? fun kv => decide (kv.1 = k)).map (·.2)
def putK (kvs : List (κ × V)) (k : κ) (v : V) : List (κ × V) :=
  if (kvs.any fun kv => decide (kv.1 = k)) = true then kvs.map (fun kv => if kv.1 = k then (kv.1, v) else kv) else kvs ++ [(k, v)]
def dropK (kvs : List (κ × V)) (k : κ) : List (κ × V) := kvs.filter fun kv => decide (kv.1 ≠ k)

theorem valV_pos {p : κ × V} {r : List (κ × V)} {k : κ} (e : p.1 = k) : valV (p :: r) k = some p.2 := by simp [valV, List.find?_cons, e]
theorem valV_neg {p : κ × V} {r : List (κ × V)} {k : κ} (e : ¬ p.1 = k) : valV (p :: r) k = valV r k := by simp [valV, List.find?_cons, e]
theorem valV_any (k : κ) : ∀ kvs : List (κ × V), (kvs.any fun kv => decide (kv.1 = k)) = (valV kvs k).isSome
  | [] => rfl
  | p :: r => by
    rw [List.any_cons]
    by_cases e : p.1 = k
    · simp only [valV_pos e, decide_eq_true e, Bool.true_or, Option.isSome_some]
    · rw [valV_neg e, decide_eq_false e, Bool.false_or]; exact valV_any k r
theorem length_putK (kvs : List (κ × V)) (k : κ) (v : V) : (putK kvs k v).length ≤ kvs.length + 1 := by
  unfold putK
  split
  · rw [List.length_map]; (first | lia | omega)
  · rw [List.length_append, List.length_cons, List.length_nil]; (first | lia | omega)
theorem putK_new {kvs : List (κ × V)} {k : κ} (v : V) (h : valV kvs k = none) : putK kvs k v = kvs ++ [(k, v)] := by
  unfold putK
  rw [valV_any, h]
  exact if_neg (by decide)

theorem RelO.isSome_eq {o : Option V} {u : Option Value} (r : RelO o u) : o.isSome = u.isSome := by
  cases o with
  | none => cases u with
    | none => rfl
    | some _ => exact (show False from r).elim
  | some _ => cases u with
    | none => exact (show False from r).elim
    | some _ => rfl
theorem KV.val {kvs : List (κ × V)} {vs : List (κ × Value)} (r : KV kvs vs) (k : κ) : RelO (valV kvs k) (valueAt vs k) := by
  unfold KV at r
  induction r with
  | nil => exact True.intro
  | @cons p q ps qs h t ih =>
    obtain ⟨h1, h2⟩ := h
    by_cases e : p.1 = k
    · have e' : q.1 = k := h1.symm.trans e
      have b : valueAt (q :: qs) k = some q.2 := by simp [valueAt, List.find?_cons, e']
      rw [valV_pos e, b]; exact h2
    · have e' : ¬ q.1 = k := fun z => e (h1.trans z)
      have b : valueAt (q :: qs) k = valueAt qs k := by simp [valueAt, List.find?_cons, e']
      rw [valV_neg e, b]; exact ih
theorem KV.any {kvs : List (κ × V)} {vs : List (κ × Value)} (r : KV kvs vs) (k : κ) : (kvs.any fun kv => decide (kv.1 = k)) = vs.any fun kv => decide (kv.1 = k) := by
  unfold KV at r
  induction r with
  | nil => rfl
  | cons h t ih => rw [List.any_cons, List.any_cons, ih, h.1]
theorem KV.repl {kvs : List (κ × V)} {vs : List (κ × Value)} (r : KV kvs vs) (k : κ) {y : V} {u : Value} (ry : RelV y u) :
    KV (kvs.map fun kv => if kv.1 = k then (kv.1, y) else kv) (vs.map fun kv => if kv.1 = k then (kv.1, u) else kv) := by
  unfold KV at r ⊢
  induction r with
  | nil => exact .nil
  | @cons p q ps qs h t ih =>
    rw [List.map_cons, List.map_cons]
    refine .cons ?_ ih
    obtain ⟨h1, h2⟩ := h
    by_cases e : p.1 = k
    · rw [if_pos e, if_pos (h1.symm.trans e)]; exact ⟨h1, ry⟩
    · rw [if_neg e, if_neg (fun z => e (h1.trans z))]; exact ⟨h1, h2⟩
theorem KV.put {kvs : List (κ × V)} {vs : List (κ × Value)} (r : KV kvs vs) (k : κ) {y : V} {u : Value} (ry : RelV y u) : KV (putK kvs k y) (stored vs k u) := by
  unfold putK stored
  rw [r.any k]
  by_cases e : (vs.any fun kv => decide (kv.1 = k)) = true
  · rw [if_pos e, if_pos e]; exact r.repl k ry
  · rw [if_neg e, if_neg e]; exact Paired.snoc r ⟨rfl, ry⟩
theorem KV.drop {kvs : List (κ × V)} {vs : List (κ × Value)} (r : KV kvs vs) (k : κ) : KV (dropK kvs k) (without vs k) := by
  unfold KV at r ⊢
  unfold dropK without
  induction r with
  | nil => exact .nil
  | @cons p q ps qs h t ih =>
    obtain ⟨h1, h2⟩ := h
    rw [List.filter_cons, List.filter_cons]
    by_cases e : p.1 = k
    · have a : ¬ decide (p.1 ≠ k) = true := by simp [e]
      have b : ¬ decide (q.1 ≠ k) = true := by simp [h1.symm.trans e]
      rw [if_neg a, if_neg b]; exact ih
    · have e' : ¬ q.1 = k := fun z => e (h1.trans z)
      have a : decide (p.1 ≠ k) = true := by simp [e]
      have b : decide (q.1 ≠ k) = true := by simp [e']
      rw [if_pos a, if_pos b]; exact .cons ⟨h1, h2⟩ ih
theorem KV.keys {kvs : List (κ × V)} {vs : List (κ × Value)} (r : KV kvs vs) : kvs.map (·.1) = vs.map (·.1) := by
  unfold KV at r
  induction r with
  | nil => rfl
  | cons h t ih => rw [List.map_cons, List.map_cons, ih, h.1]
theorem KV.length {kvs : List (κ × V)} {vs : List (κ × Value)} (r : KV kvs vs) : kvs.length = vs.length := Paired.length r
theorem dropK_le (kvs : List (κ × V)) (k : κ) : (dropK kvs k).length ≤ kvs.length := List.length_filter_le _ _
end


theorem kV_is {P : Program} {w : World} {k : Key} {u : Value} (r : RelV (kV k) u) : (mixKind P w).is k u = true := by
  cases k with
  | inl i => obtain ⟨t, e⟩ := (show ∃ t, u = Value.int i t from r); subst e; exact mixKind_int P w i t
  | inr x => obtain ⟨t, e⟩ := (show ∃ t, u = Value.str x t from r); subst e; exact mixKind_str P w x t
theorem items_are {P : Program} {w : World} : ∀ {ks : List Key} {us : List Value}, Vals (ks.map kV) us → ItemsAre (mixKind P w) ks us
  | [], _, r => by rw [List.map_nil] at r; cases r; exact .nil
  | k :: ks, _, r => by
    rw [List.map_cons] at r
    cases r with
    | cons h t => exact .cons (kV_is h) (items_are t)

abbrev KT (H : Hp) : List (List Key × V) → List (List Key × Addr × Value) → Prop := Paired fun p q => p.1 = q.1 ∧ H q.2.1 = some (.tup (p.1.map kV)) ∧ RelV p.2 q.2.2
theorem KT.val {H : Hp} {kvs : List (List Key × V)} {xs : List (List Key × Addr × Value)} (r : KT H kvs xs) (k : List Key) : RelO (valV kvs k) ((atKey xs k).map (·.2)) := by
  induction r with
  | nil => exact True.intro
  | @cons p q ps qs h t ih =>
    obtain ⟨h1, _, h2⟩ := h
    by_cases e : p.1 = k
    · have e' : q.1 = k := h1.symm.trans e
      have b : atKey (q :: qs) k = some q.2 := by simp [atKey, List.find?_cons, e']
      rw [valV_pos e, b]; exact h2
    · have e' : ¬ q.1 = k := fun z => e (h1.trans z)
      have b : atKey (q :: qs) k = atKey qs k := by simp [atKey, List.find?_cons, e']
      rw [valV_neg e, b]; exact ih
theorem KT.repl {H : Hp} {kvs : List (List Key × V)} {xs : List (List Key × Addr × Value)} (r : KT H kvs xs) (k : List Key) {y : V} {u : Value} (ry : RelV y u) :
    KT H (kvs.map fun kv => if kv.1 = k then (kv.1, y) else kv) (xs.map (putAt k u)) := by
  induction r with
  | nil => exact .nil
  | @cons p q ps qs h t ih =>
    rw [List.map_cons, List.map_cons]
    refine .cons ?_ ih
    obtain ⟨h1, h2, h3⟩ := h
    unfold putAt
    by_cases e : p.1 = k
    · rw [if_pos e, if_pos (h1.symm.trans e)]; exact ⟨h1, h2, ry⟩
    · rw [if_neg e, if_neg (fun z => e (h1.trans z))]; exact ⟨h1, h2, h3⟩
theorem KT.put {H : Hp} {kvs : List (List Key × V)} {xs : List (List Key × Addr × Value)} (r : KT H kvs xs) (k : List Key) {b : Addr} {y : V} {u : Value} (hb : H b = some (.tup (k.map kV))) (ry : RelV y u) :
    KT H (putK kvs k y) (storedH xs k b u) := by
  have e : (kvs.any fun kv => decide (kv.1 = k)) = (atKey xs k).isSome := by
    rw [valV_any, (r.val k).isSome_eq, Option.isSome_map]
  unfold putK storedH
  rw [e]
  by_cases q : (atKey xs k).isSome = true
  · rw [if_pos q, if_pos q]; exact r.repl k ry
  · rw [if_neg q, if_neg q]; exact Paired.snoc r ⟨rfl, hb, ry⟩
theorem KT.keeps {H H' : Hp} {kvs : List (List Key × V)} {xs : List (List Key × Addr × Value)} (r : KT H kvs xs) (ht : ∀ b ys, H b = some (.tup ys) → H' b = some (.tup ys)) : KT H' kvs xs :=
  Paired.mapP r fun _ _ z => ⟨z.1, ht _ _ z.2.1, z.2.2⟩

section
variable {P : Program} {w : World} {H : Hp} {h : Heap} {a : Addr}
theorem rd_of {u : HO} (ok : HOk P w H h) (e : Rd H a u) : ObjOk P w H h a u := e.ok ok
theorem dk_rd {kvs : List (Key × V)} (ok : HOk P w H h) (e : Rd H a (.dK kvs)) : kvs.length ≤ sizeLine ∧ (a == sysModules) = false ∧ ∃ vs, KV kvs vs ∧ h.DictOf (mixKind P w) a vs :=
  show ObjOk P w H h a (.dK kvs) from rd_of ok e
theorem dk_of {kvs : List (Key × V)} (ok : HOk P w H h) (e : H a = some (.dK kvs)) : kvs.length ≤ sizeLine ∧ (a == sysModules) = false ∧ ∃ vs, KV kvs vs ∧ h.DictOf (mixKind P w) a vs := dk_rd ok (.inl e)
theorem key_of {ks : List Key} (ok : HOk P w H h) (e : H a = some (.tup (ks.map kV))) : (tupleKind (mixKind P w)).is h ks a := by
  obtain ⟨_, its, r, o, h1, h2, n, h3⟩ := (show ObjOk P w H h a (.tup (ks.map kV)) from ok a _ e)
  exact ⟨o, its.toArray, n, h1, h2, h3, by simpa using items_are r⟩
theorem dt_rd {kvs : List (List Key × V)} (ok : HOk P w H h) (e : Rd H a (.dT kvs)) : kvs.length ≤ sizeLine ∧ (a == sysModules) = false ∧
    ∃ xs, KT H kvs xs ∧ h.DictOfH (tupleKind (mixKind P w)) a xs := by
  obtain ⟨z, y, xs, r, o, es, ep, h1, h2, h3, h4, h5⟩ := (show ObjOk P w H h a (.dT kvs) from rd_of ok e)
  refine ⟨z, y, xs, r, o, es, ep, h1, h2, h3, h4, fun x hx => ?_, h5⟩
  have all : ∀ {l : List (List Key × V)} {m : List (List Key × Addr × Value)}, KT H l m → ∀ x ∈ m, (tupleKind (mixKind P w)).is h x.1 x.2.1 := by
    intro l m q
    induction q with
    | nil => intro x hx; exact nomatch hx
    | @cons p q ps qs hq t ih =>
      intro x hx
      rcases List.mem_cons.mp hx with e | hx
      · subst e
        exact key_of ok (by rw [← hq.1]; exact hq.2.1)
      · exact ih x hx
  exact all r x hx
theorem dt_of {kvs : List (List Key × V)} (ok : HOk P w H h) (e : H a = some (.dT kvs)) : kvs.length ≤ sizeLine ∧ (a == sysModules) = false ∧
    ∃ xs, KT H kvs xs ∧ h.DictOfH (tupleKind (mixKind P w)) a xs := dt_rd ok (.inl e)
end

def DGet (H : Hp) (a : Addr) (y : V) (r : Option V) : Prop :=
  (∃ kvs k, Rd H a (.dK kvs) ∧ y = kV k ∧ r = valV kvs k) ∨ ∃ kvs k b, Rd H a (.dT kvs) ∧ y = .ref b ∧ H b = some (.tup (k.map kV)) ∧ r = valV kvs k
def DPut (H : Hp) (a : Addr) (y v : V) (H' : Hp) : Prop :=
  (∃ kvs k, H a = some (.dK kvs) ∧ y = kV k ∧ kvs.length < sizeLine ∧ H' = upd H a (.dK (putK kvs k v))) ∨
  ∃ kvs k b, H a = some (.dT kvs) ∧ y = .ref b ∧ H b = some (.tup (k.map kV)) ∧ kvs.length < sizeLine ∧ H' = upd H a (.dT (putK kvs k v))
theorem DGet.k {H : Hp} {a : Addr} {kvs : List (Key × V)} {k : Key} (e : H a = some (.dK kvs)) : DGet H a (kV k) (valV kvs k) := .inl ⟨kvs, k, .inl e, rfl, rfl⟩
theorem DPut.k {H : Hp} {a : Addr} {kvs : List (Key × V)} {k : Key} {v : V} (e : H a = some (.dK kvs)) (hl : kvs.length < sizeLine) : DPut H a (kV k) v (upd H a (.dK (putK kvs k v))) := .inl ⟨kvs, k, e, rfl, hl, rfl⟩
section
variable {X : Cx} {pins : List (Addr × Obj)} {σ : St} {H : Hp} {s : Shared} {a : Addr} {y v : V} {u r : Value} {o : Option V} {A : Around} {E : Value → Shared → Prop}

theorem Inv.big (I : Inv X pins σ H s) : sysModules < s.heap.objs.size := by
  have h : mainGlobals < s.heap.objs.size := (I.mod.glob.keeps I.bk).lt
  exact Nat.lt_trans (by decide) h

theorem d_getItem {Q : Value → Shared → Prop} (hu : A.units + 1 < cLine) (I : Inv X pins σ H s) (g : DGet H a y (some v)) (ry : RelV y u) (h : ∀ w' s', Inv X pins σ H s' → RelV v w' → Q w' s') :
    wpAny (model X.prog X.w) A (getItem (.ref a) u) Q E s := by
  rcases g with ⟨kvs, k, e, ey, l⟩ | ⟨kvs, k, b, e, ey, eb, l⟩
  · subst ey
    obtain ⟨z, hd, vs, rel, dd⟩ := dk_rd I.hok e
    obtain ⟨w', hw, rw'⟩ := RelO.some_of (v := v) (o := valueAt vs k) (by rw [l]; exact rel.val k)
    exact wpAny_getItem_of (kV_is ry) dd.mapOf hw (h w' _ (I.tok _) rw')
  · subst ey
    cases (show u = Value.ref b from ry)
    obtain ⟨z, hd, xs, rel, dd⟩ := dt_rd I.hok e
    obtain ⟨w', hw, rw'⟩ := RelO.some_of (v := v) (o := (atKey xs k).map (·.2)) (by rw [l]; exact rel.val k)
    obtain ⟨p, hp, hp2⟩ := Option.map_eq_some_iff.mp hw
    refine wpAny_getItem_heap (tupleKind_room_in1 hu) (key_of I.hok eb) dd hp ?_
    rw [hp2]
    exact h w' _ (I.tok _) rw'
theorem d_notIn {Q : Value → Shared → Prop} (hu : A.units + 1 < cLine) (I : Inv X pins σ H s) (g : DGet H a y o) (ry : RelV y u) (h : ∀ s', Inv X pins σ H s' → Q (.bool (!o.isSome)) s') :
    wpAny (model X.prog X.w) A (compareOp .NotIn u (.ref a)) Q E s := by
  rcases g with ⟨kvs, k, e, ey, l⟩ | ⟨kvs, k, b, e, ey, eb, l⟩
  · subst ey
    obtain ⟨z, hd, vs, rel, dd⟩ := dk_rd I.hok e
    refine wpAny_notIn_of (kV_is ry) hd dd.mapOf ?_
    rw [← (rel.val k).isSome_eq, ← l]
    exact h _ (I.tok _)
  · subst ey
    cases (show u = Value.ref b from ry)
    obtain ⟨z, hd, xs, rel, dd⟩ := dt_rd I.hok e
    refine wpAny_notIn_heap (tupleKind_room_in1 hu) (key_of I.hok eb) hd dd ?_
    have q := (rel.val k).isSome_eq
    rw [Option.isSome_map] at q
    rw [← q, ← l]
    exact h _ (I.tok _)
theorem d_write {h' : Heap} {t' : Nat} {ob : HO} (I : Inv X pins σ H s) (mu : Mut (H a)) (hs : Heap.SameBut a s.heap h') (he : ∃ q, h'.get? a = some q) (new : ObjOk X.prog X.w (upd H a ob) h' a ob) :
    Inv X pins σ (upd H a ob) { s with heap := h', toks := t' } :=
  I.write (x := a) (e := a) mu (.inl rfl) (fun b q hb z => (hs.2 b hb).trans z) he new
theorem dk_new {P : Program} {w : World} {H' : Hp} {h' : Heap} {kvs : List (Key × V)} {vs : List (Key × Value)} (z : kvs.length ≤ sizeLine) (hd : (a == sysModules) = false) (rel : KV kvs vs) (dd : h'.DictOf (mixKind P w) a vs) :
    ObjOk P w H' h' a (.dK kvs) := ⟨z, hd, vs, rel, dd⟩
theorem d_setItem {H' : Hp} {Q : Unit → Shared → Prop} (hu : A.units + 1 < cLine) (I : Inv X pins σ H s) (g : DPut H a y v H') (ry : RelV y u) (rv : RelV v r) (h : ∀ s', Inv X pins σ H' s' → Q () s') :
    wpAny (model X.prog X.w) A (setItem (.ref a) u r) Q E s := by
  rcases g with ⟨kvs, k, e, ey, l, eH⟩ | ⟨kvs, k, b, e, ey, eb, l, eH⟩
  · subst ey eH
    obtain ⟨z, hd, vs, rel, dd⟩ := dk_of I.hok e
    have hz : vs.length ≤ sizeLine := by rw [← rel.length]; exact z
    have hl : (putK kvs k v).length ≤ sizeLine := by have := length_putK kvs k v; (first | lia | omega)
    refine wpAny_setItem_pairs (hsz := hz) (kV_is ry) dd fun h' dd' hs => h _ ?_
    have he : ∃ q, h'.get? a = some q := let ⟨q, _, _, hq, _⟩ := dd'; ⟨q, hq⟩
    exact d_write I (by rw [e]; exact True.intro) hs he (dk_new hl hd (rel.put k rv) dd')
  · subst ey eH
    cases (show u = Value.ref b from ry)
    obtain ⟨z, hd, xs, rel, dd⟩ := dt_of I.hok e
    have hz : xs.length ≤ sizeLine := by rw [← Paired.length rel]; exact z
    have hl : (putK kvs k v).length ≤ sizeLine := by have := length_putK kvs k v; (first | lia | omega)
    refine wpAny_setItem_heap (hsz := hz) (tupleKind_room_in1 hu) (key_of I.hok eb) dd fun h' dd' hs => h _ ?_
    obtain ⟨q, es, ep, hq, h2, h3, h4, _, h5⟩ := dd'
    refine d_write I (by rw [e]; exact True.intro) hs ⟨q, hq⟩ ⟨hl, hd, _, (rel.put k eb rv).keeps fun c ys ec => ?_, q, es, ep, hq, h2, h3, h4, h5⟩
    rw [upd_ne (ne_of ec e (fun z => nomatch z))]
    exact ec
end

section
variable {X : Cx} {pins : List (Addr × Obj)} {σ : St} {H : Hp} {s : Shared} {a : Addr} {kvs : List (Key × V)} {k : Key} {u : Value} {A : Around} {E : Value → Shared → Prop}
theorem d_pop {v : V} {more : List Value} {Q : Value → Shared → Prop} (I : Inv X pins σ H s) (e : H a = some (.dK kvs)) (ry : RelV (kV k) u) (l : valV kvs k = some v) (hm : more = [] ∨ ∃ x, more = [x])
    (h : ∀ w' s', Inv X pins σ (upd H a (.dK (dropK kvs k))) s' → RelV v w' → Q w' s') : wpAny (model X.prog X.w) A (call (.builtin "dict.pop") (.ref a :: u :: more)) Q E s := by
  obtain ⟨z, hd, vs, rel, dd⟩ := dk_of I.hok e
  obtain ⟨w', hw, rw'⟩ := RelO.some_of (v := v) (o := valueAt vs k) (by rw [← l]; exact rel.val k)
  have hp : (keyPart u).isSome = true := by
    cases k with
    | inl i => obtain ⟨t, q⟩ := (show ∃ t, u = Value.int i t from ry); subst q; rfl
    | inr x => obtain ⟨t, q⟩ := (show ∃ t, u = Value.str x t from ry); subst q; rfl
  have ha : argsOk "dict.pop" ⟨.ref a :: u :: more, []⟩ := by
    rcases hm with q | ⟨x, q⟩
    · subst q; exact PySem.F.args_dict_pop_2 _ _
    · subst q; exact PySem.F.args_dict_pop_3 _ _ _
  refine call_meetsIn PySem.F.slot_dict_pop dd.typeIs PySem.F.entry_dict_pop ha (meets_dict_pop_there (mixKind X.prog X.w) a (kV_is ry) more hm hp)
    ⟨vs, w', dd, by rw [← rel.length]; exact z, hw, fun h' dd' hs => h w' _ ?_ rw'⟩
  have he : ∃ q, h'.get? a = some q := let ⟨q, _, _, hq, _⟩ := dd'; ⟨q, hq⟩
  exact d_write I (by rw [e]; exact True.intro) hs he (dk_new (Nat.le_trans (dropK_le kvs k) z) hd (rel.drop k) dd')
theorem d_len {Q : Value → Shared → Prop} (I : Inv X pins σ H s) (e : Rd H a (.dK kvs)) (h : ∀ t s', Inv X pins σ H s' → Q (.int kvs.length t) s') : wpAny (model X.prog X.w) A (call (.builtin "len") [.ref a]) Q E s := by
  obtain ⟨z, hd, vs, rel, dd⟩ := dk_rd I.hok e
  refine call_len_dict hd dd (by rw [← rel.length]; rw [sizeLine_eq] at z; (first | lia | omega)) ?_
  rw [← rel.length]
  exact h _ _ (I.tok _)
end


def NoSl (i : Expr) : Prop := ∀ ov iv, subscripted i false ov iv = operate [ov, iv] (getItem ov iv)
theorem subD_of {prog : Program} {w : World} {A : Around} {E : Value → Shared → Prop} {s : Shared} {env : Env} {value slice : Expr} {pos : Pos} {T id : String} {Q : Value → Shared → Prop}
    (hl : typeLookup (.type T) "__getitem__" = pure (some (.builtin id))) (hs : NoSl slice)
    (h : wpAny (model prog w) A (eval value env) (fun o s₁ => wpAny (model prog w) A (eval slice env) (fun i s₂ => s₂.TypeIs o T ∧ wpAny (model prog w) A (getItem o i) Q E s₂) E s₁) E s) :
    wpAny (model prog w) A (eval (.Subscript value slice pos) env) Q E s := by
  refine Subscript_ (wpAny_mono h (fun o s₁ h₁ => wpAny_mono h₁ (fun i s₂ h₂ => ?_) fun _ _ x => x) fun _ _ x => x)
  obtain ⟨hT, h₂⟩ := h₂
  unfold subscriptTail
  refine wpAny_bind ?_
  rw [getitemInPython_of_ne hT.not_modules]
  refine wpAny_bind (wpAny_specialOf hT hl ?_)
  have fin : wpAny (model prog w) A (subscripted slice false o i) (fun r s₃ => wpAny (model prog w) A (letTemporaryGo value o r >>= fun _ => pure r) Q E s₃) E s₂ := by
    rw [hs o i]
    exact wpAny_operating (wpAny_mono h₂ (fun r s₃ h₃ => wpAny_bind (wpAny_letTemporaryGo (wpAny_pure h₃))) fun _ _ x => x)
  first
    | exact wpAny_pure (wpAny_bind fin)
    | exact wpAny_bind (wpAny_pure (wpAny_bind fin))
    | exact wpAny_bind fin

theorem dict_typeIs {X : Cx} {pins : List (Addr × Obj)} {σ : St} {H : Hp} {s : Shared} {a : Addr} {y : V} {o : Option V} (I : Inv X pins σ H s) (g : DGet H a y o) : s.TypeIs (.ref a) "dict" := by
  rcases g with ⟨kvs, k, e, _, _⟩ | ⟨kvs, k, b, e, _, _, _⟩
  · obtain ⟨_, _, vs, _, dd⟩ := dk_rd I.hok e
    exact dd.typeIs
  · obtain ⟨_, _, xs, _, dd⟩ := dt_rd I.hok e
    exact dd.typeIs
def tDGet (td ty : TE) : TE := fun σ H Q => td σ H fun x H1 => ty σ H1 fun y H2 => ∃ a v, x = .ref a ∧ DGet H2 a y (some v) ∧ Q v H2
def tDNotIn (ty td : TE) : TE := fun σ H Q => ty σ H fun y H1 => td σ H1 fun x H2 => ∃ a o, x = .ref a ∧ DGet H2 a y o ∧ Q (.bl (!o.isSome)) H2
def sDPut (td ty tv : TE) : TS := fun D σ H => tv σ H fun v H1 => td σ H1 fun x H2 => ty σ H2 fun y H3 => ∃ a H4, x = .ref a ∧ DPut H3 a y v H4 ∧ D.nx σ H4
section
variable {X : Cx} {o i e value : Expr} {pos pos' tpos : Pos} {td ty tv : TE}
theorem pe_dget (hu : X.A.units + 1 < cLine) (ho : PE X o td) (hi : PE X i ty) (hs : NoSl i) : PE X (.Subscript o i pos) (tDGet td ty) := by
  intro pins s σ H Q I h
  refine subD_of PySem.F.slot_dict_getitem.lookup hs (thn (ho pins s σ H _ I h) fun u s1 ⟨x, H1, I1, rx, q1⟩ => thn (hi pins s1 σ H1 _ I1 q1) fun iv s2 ⟨y, H2, I2, ry, a, v, ex, g, q2⟩ => ?_)
  subst ex
  obtain rfl : u = Value.ref a := rx
  exact ⟨dict_typeIs I2 g, d_getItem hu I2 g ry fun w' s3 I3 rw' => ⟨v, H2, I3, rw', q2⟩⟩
theorem pc_dnotin (hu : X.A.units + 1 < cLine) (hi : PE X i ty) (ho : PE X o td) : PC X .NotIn i o (tDNotIn ty td) := by
  intro pins s σ H Q I h
  refine thn (hi pins s σ H _ I h) fun iv s1 ⟨y, H1, I1, ry, q1⟩ => thn (ho pins s1 σ H1 _ I1 q1) fun u s2 ⟨x, H2, I2, rx, a, ov, ex, g, q2⟩ => ?_
  subst ex
  obtain rfl : u = Value.ref a := rx
  exact d_notIn hu I2 g ry fun s3 I3 => ⟨.bl (!ov.isSome), H2, I3, rfl, q2⟩
theorem ps_dput (hu : X.A.units + 1 < cLine) (ho : PE X o td) (hi : PE X i ty) (hv : PE X value tv) (hs : swapsWith value (some (.Subscript o i pos')) pos.line X.env = pure false) :
    PS X (.Assign [.Subscript o i pos'] value pos) (sDPut td ty tv) := by
  intro pins s σ H D I h
  refine wpAny_Assign_Subscript (thn (hv pins s σ H _ I h) fun r s1 ⟨v, H1, I1, rv, q1⟩ => thn (ho pins s1 σ H1 _ I1 q1) fun u s2 ⟨x, H2, I2, rx, q2⟩ => thn (hi pins s2 σ H2 _ I2 q2) fun iv s3 ⟨y, H3, I3, ry, a, H4, ex, g, q3⟩ => ?_) hs
  subst ex
  obtain rfl : u = Value.ref a := rx
  exact d_setItem hu I3 g ry rv fun s4 I4 => ⟨σ, H4, I4, q3⟩
end


theorem dk_empty {P : Program} {w : World} {H : Hp} (h : Heap) (hb : sysModules < h.objs.size) : ObjOk P w H (h.push { cls := .type "dict", data := .dict #[] }) h.objs.size (.dK []) :=
  ⟨Nat.zero_le _, beq_eq_false_iff_ne.mpr (Ne.symm (Nat.ne_of_lt hb)), [], .nil, Heap.DictOf.new h⟩
def tDNewK : TE := fun _ H Q => ∀ p, H p = none → Q (.ref p) (upd H p (.dK []))
section
variable {X : Cx} {pos : Pos}
theorem pe_dnewK : PE X (.Dict [] [] pos) tDNewK := fun pins s σ H Q I h =>
  wpAny_Dict_empty ⟨.ref s.heap.objs.size, _, I.laid (a := s.heap.objs.size) (o := .dK []) (t' := s.toks) (fun _ _ q => Heap.get?_push_of_some _ q) (Nat.le_refl _) (dk_empty s.heap I.big), rfl, h _ (I.hok.fresh (Nat.le_refl _))⟩
end

structure M1 (X : Cx) (o : Expr) (m : Str) (apos : Pos) (e : Expr) (cpos : Pos) : Prop where
  base : attributeBase o m X.env (eval o X.env) = eval o X.env
  few : ((backTo cpos (starEach [e] X.env)).all (fun x => !x.1) && (backToKw cpos (keywordEach [] X.env)).all (fun x => x.1.isSome)
    && decide (([e] : List Expr).length + ([] : List Keyword).length + (if ([] : List Keyword).isEmpty then 0 else 1) < 30)) = true
  line : (apos.endLine == cpos.line) = true
  trees : backTo cpos (starEach [e] X.env) = [(false, eval e X.env)]
def IsD (H : Hp) (a : Addr) : Prop := (∃ kvs, Rd H a (.dK kvs)) ∨ ∃ kvs, Rd H a (.dT kvs)
theorem isD_at {X : Cx} {pins : List (Addr × Obj)} {σ : St} {H : Hp} {s : Shared} {a : Addr} (I : Inv X pins σ H s) (d : IsD H a) :
    s.TypeIs (.ref a) "dict" ∧ (∀ b, Value.ref a = .ref b → ∃ ob, s.heap.get? b = some ob ∧ ob.dict = none) ∧ (a == sysModules) = false := by
  rcases d with ⟨kvs, e⟩ | ⟨kvs, e⟩
  · obtain ⟨_, hd, vs, _, dd⟩ := dk_rd I.hok e
    refine ⟨dd.typeIs, fun b q => ?_, hd⟩
    cases q
    obtain ⟨ob, _, _, h1, h2, _⟩ := dd
    exact ⟨ob, h1, h2.2.1⟩
  · obtain ⟨_, hd, xs, _, dd⟩ := dt_rd I.hok e
    refine ⟨dd.typeIs, fun b q => ?_, hd⟩
    cases q
    obtain ⟨ob, _, _, h1, h2, _⟩ := dd
    exact ⟨ob, h1, h2.2.1⟩

section
variable {X : Cx} {pins : List (Addr × Obj)} {σ : St} {H : Hp} {s : Shared} {a : Addr} {y d : V} {u r : Value} {o : Option V} {A : Around} {E : Value → Shared → Prop}
end

def tDPop1 (td ty : TE) : TE := fun σ H Q => td σ H fun x H1 => ∃ a, x = .ref a ∧ IsD H1 a ∧ ty σ H1 fun y H2 => ∃ kvs k v, H2 a = some (.dK kvs) ∧ y = kV k ∧ valV kvs k = some v ∧ Q v (upd H2 a (.dK (dropK kvs k)))
section
variable {X : Cx} {o e f : Expr} {apos cpos : Pos} {td ty tx : TE}
theorem pe_dpop1 (ho : PE X o td) (he : PE X e ty) (m : M1 X o "pop" apos e cpos) : PE X (.Call (.Attribute o "pop" apos) [e] [] cpos) (tDPop1 td ty) := by
  intro pins s σ H Q I h
  refine wpAny_Call_method m.base m.few m.line PySem.F.plainAttrs_dict PySem.F.slot_dict_pop PySem.F.type_dict_pop (thn (ho pins s σ H _ I h) fun u s1 ⟨x, H1, I1, rx, a, ex, d, q1⟩ => ?_)
  subst ex
  obtain rfl : u = Value.ref a := rx
  obtain ⟨t1, t2, _⟩ := isD_at I1 d
  refine ⟨t1, t2, ?_⟩
  rw [m.trees]
  refine Calls.callWith_builtin rfl (Calls.evalArgs_plain (Calls.spliced_cons (thn (he pins s1 σ H1 _ I1 q1) fun iv s2 ⟨y, H2, I2, ry, kvs, k, v, ea, ey, l, q2⟩ => Calls.spliced_nil ?_)))
  subst ey
  exact d_pop I2 ea ry l (.inl rfl) fun w' s3 I3 rw' => ⟨v, _, I3, rw', q2⟩
end

section
variable {X : Cx} {pins : List (Addr × Obj)} {σ : St} {H : Hp} {s : Shared} {a : Addr} {kvs : List (Key × V)} {A : Around} {E : Value → Shared → Prop}
end


section
variable {X : Cx} {pins : List (Addr × Obj)} {σ : St} {H : Hp} {s : Shared} {a : Addr} {y : V} {u : Value} {A : Around} {E : Value → Shared → Prop}
end
end L2
namespace L2
open PySem PySem.Spec PyProof.Rows
section
variable {X : Cx}
theorem call_lenD : CallR X (.builtin "len") (fun xs H Q => ∃ a kvs, xs = [V.ref a] ∧ H a = some (.dK kvs) ∧ Q (.int kvs.length) H) := by
  intro pins s σ H xs us Q I r h
  obtain ⟨a, kvs, rfl, ha, q⟩ := h
  obtain ⟨u, rfl, ru⟩ := vals1 r
  cases ru
  exact d_len I (.inl ha) fun t s' I' => ⟨.int kvs.length, H, I', ⟨t, rfl⟩, q⟩
end
section
variable {κ : Type} [DecidableEq κ]
end
end L2

namespace L2
open PySem PySem.Spec PyProof.Rows
theorem mix_int {P : Program} {w : World} {n : Int} {v : Value} (h : (mixKind P w).is (Sum.inl n) v = true) : ∃ t, v = Value.int n t := by
  have h : keyIs (Sum.inl n) v = true := h
  have h : Value.isInt n v = true := by simpa [keyIs] using h
  cases v <;> simp [Value.isInt] at h
  exact ⟨_, by rw [h]⟩
theorem ints_keys {P : Program} {w : World} : ∀ {us : List Value} {ns : List Int} {vs : List (Key × Value)}, vs.map (·.1) = ns.map Sum.inl → us.length = vs.length → (∀ (j : Nat) (v : Value), us[j]? = some v → ∃ k x, vs[j]? = some (k, x) ∧ (mixKind P w).is k v = true) → IntsAre us ns
  | [], [], _, _, _, _ => .nil
  | [], n :: ns, [], e, _, _ => by simp at e
  | [], n :: ns, p :: r, _, hl, _ => by simp at hl
  | u :: us, ns, [], _, hl, _ => by simp at hl
  | u :: us, [], p :: r, e, _, _ => by simp at e
  | u :: us, n :: ns, p :: r, e, hl, h => by
    rw [List.map_cons, List.map_cons] at e
    obtain ⟨e1, e2⟩ := List.cons.inj e
    obtain ⟨k, x, hx, hk⟩ := h 0 u rfl
    cases hx
    rw [show k = Sum.inl n from e1] at hk
    obtain ⟨t, rfl⟩ := mix_int hk
    exact .cons n t (ints_keys e2 (by simpa using hl) fun j v hj => h (j + 1) v hj)
section
variable {prog : Program} {w : World} {A : Around} {E : Value → Shared → Prop} {s : Shared} {T : String} {r d : Addr} {n : Nat} {P : Nat → Value → Prop} {OK : Heap → Prop}
theorem collect_src {R : List Value → Shared → Prop} (K : PySem.W.KdlSrc prog w T r d n P OK) (hh : A.handled = none) (hok : OK s.heap) (hn : n ≤ sizeLine)
    (h : ∀ (h' : Heap) (tk : Nat) (acc : Array Value), (∀ b o, s.heap.get? b = some o → h'.get? b = some o) → s.heap.objs.size < h'.objs.size → ItemsOf P acc n → R acc.toList { s with heap := h', toks := tk }) :
    wpAny (model prog w) A (collect (.ref r)) R E s := by
  have hlt := K.there _ hok
  unfold collect
  refine wpAny_bind (wpAny_runValue (codeAny_builtin PySem.F.entry_proto_collect ?_))
  rw [Around.under_plainId PySem.F.plain_proto_collect _]
  show wpAny _ A.in1 (newList [] >>= fun l => again (.builtin "list.__iadd__" ⟨[l, .ref r], []⟩)) _ _ s
  refine wpAny_bind (wpAny_newObj_type ?_)
  refine wpAny_pure ⟨plainId_quiet PySem.F.plain_list_iadd _, codeAny_builtin PySem.F.entry_list_iadd ?_⟩
  rw [Around.under_plainId PySem.F.plain_list_iadd _]
  have hS₁ : (s.heap.push { cls := .type "list", data := .seq ([] : List Value).toArray }).get? s.heap.objs.size = some { cls := .type "list", data := .seq #[] } := Heap.get?_push_size _ rfl
  show wpAny _ A.in1 (Builtin.List.listExtendWith (.ref s.heap.objs.size) (.ref r) (.ref s.heap.objs.size)) _ _ _
  have key := PySem.W.kdl_extend (A := A) (s := { s with heap := s.heap.push { cls := .type "list", data := .seq ([] : List Value).toArray } })
    (R := fun (q : Result) (s' : Shared) => ∃ (h' : Heap) (tk : Nat) (acc' : Array Value) (c' : Nat), q = .ok (.ret (.ref s.heap.objs.size)) ∧ s' = { s with heap := h', toks := tk } ∧
      (∀ b o, s.heap.get? b = some o → h'.get? b = some o) ∧ h'.get? s.heap.objs.size = some { cls := .type "list", dict := none, data := .seq acc' c', slots := #[] } ∧ ItemsOf P acc' n)
    K hh (K.keep _ _ hok fun b _ o e => Heap.get?_push_of_some _ e) s.heap.objs.size (Nat.ne_of_gt hlt.1) (Nat.ne_of_gt hlt.2) (.ref s.heap.objs.size) 0 hS₁
    (fun h' tk acc' c' hk hS' hacc => ⟨h', tk, acc', c', rfl, rfl, fun b o e => hk b o (Nat.ne_of_lt (Heap.lt_size e)) (Heap.get?_push_of_some _ e), hS', hacc⟩) hn
  refine wpAny_mono key (fun fin s' x => ?_) fun e s' x => ?_
  · cases fin with
    | done f =>
      obtain ⟨h', tk, acc', c', e, rfl, hk, hS', hacc⟩ := x
      cases e
      show wpAny _ A (load s.heap.objs.size >>= _) _ _ _
      refine wpAny_bind (wpAny_load hS' ?_)
      exact wpAny_pure (h h' tk acc' hk (Heap.lt_size hS') hacc)
    | again c₁ =>
      refine ⟨x.1, codeAny_mono x.2 fun q s₂ y => ?_⟩
      obtain ⟨h', tk, acc', c', rfl, rfl, hk, hS', hacc⟩ := y
      show wpAny _ A (load s.heap.objs.size >>= _) _ _ _
      refine wpAny_bind (wpAny_load hS' ?_)
      exact wpAny_pure (h h' tk acc' hk (Heap.lt_size hS') hacc)
  · obtain ⟨_, _, _, _, e', _⟩ := x
    cases e'
end
section
variable {X : Cx}
theorem sortedD (hc : X.calm = true) : CallR X (.builtin "sorted") (fun xs H Q => ∃ (p : Addr) (kvs : List (Key × V)) (ns : List Int), xs = [.ref p] ∧ H p = some (.dK kvs) ∧ kvs.map (·.1) = ns.map Sum.inl ∧ kvs.length < 64 ∧
    ∀ (l : Addr) (ns' : List Int), H l = none → ns'.Perm ns → ns'.Pairwise (· ≤ ·) → Q (.ref l) (upd H l (.lst (ns'.map V.int)))) := by
  intro pins s σ H xs us Q I r h
  obtain ⟨p, kvs, ns, rfl, hp, hks, hn, q⟩ := h
  obtain ⟨u, rfl, rx⟩ := vals1 r
  cases rx
  obtain ⟨z, hd, vs, rel, dd⟩ := dk_of I.hok hp
  obtain ⟨ep, hat⟩ := dd.dictAt
  have hlen : vs.length = kvs.length := rel.length.symm
  refine Calls.call_function_entry kind_sorted plain_sorted entry_sorted (args_sorted1 _) ?_
  unfold Builtin.«sorted»
  refine wpAny_bind (m := checkCount "sorted" 1 1 _) (wpAny_pure ?_)
  refine wpAny_bind (collect_src (A := X.A.in1) (PySem.W.kdl_dict (knd := mixKind X.prog X.w) (kvs := vs) (ep := ep) hd) (I.ok.hd hc) hat (by rw [sizeLine_eq, hlen]; (first | lia | omega)) fun h1 tk acc hk hlt1 hacc => ?_)
  have hl : acc.toList.length = vs.length := by rw [Array.length_toList]; exact hacc.1
  have hI : IntsAre acc.toList ns := ints_keys (rel.keys.symm.trans hks) hl fun j v e => by
    obtain ⟨k, x, h1, h2⟩ := hacc.2 j v (by rw [← Array.getElem?_toList]; exact e)
    exact ⟨k, x, h1, h2⟩
  refine wpAny_bind (wpAny_newList ?_ (by rw [hl, hlen, sizeLine_eq]; (first | lia | omega)))
  have hoL : (h1.push (seqObj "list" acc.toList.toArray 0)).get? h1.objs.size = some (seqObj "list" acc.toList.toArray 0) := Heap.get?_push_size _ rfl
  refine wpAny_bind (wpAny_holding (wpAny_call_entry slot_list_sort ⟨_, hoL, rfl⟩ entry_list_sort (list_sort_tree hoL hI (by (first | lia | omega)) fun out ns' a1 a2 a3 => ⟨_, rfl, ?_⟩) (args_list_sort _)))
  refine wpAny_pure ⟨_, rfl, ?_⟩
  have hsz : s.heap.objs.size ≤ h1.objs.size := Nat.le_of_lt hlt1
  obtain ⟨e, he⟩ := sortedHeap_at (out := out) hoL
  have hfr : H h1.objs.size = none := I.hok.fresh hsz
  refine ⟨.ref h1.objs.size, _, I.laid (t' := tk) (fun b o hb => ?_) hsz ?_, rfl, q _ ns' hfr a2 a3⟩
  · have hb1 := hk b o hb
    have hlt := Heap.lt_size hb1
    rw [sortedHeap_old (Nat.ne_of_lt hlt) (by rw [size_push']; exact Nat.lt_succ_of_lt hlt), Heap.get?_push_ne _ _ _ (Nat.ne_of_lt hlt)]
    exact hb1
  · refine ⟨?_, out.toList, e, valsInts a1, ?_⟩
    · rw [List.length_map, a2.length_eq]
      have hx := congrArg List.length hks
      rw [List.length_map, List.length_map] at hx
      exact Nat.le_of_lt (small1000 (by (first | lia | omega)))
    · have : out.toList.toArray = out := by simp
      rw [this]
      exact he
theorem pe_fldK (K : PySem.W.Frag) {e : Expr} {f : Str} {pos : Pos} {ta : TE} (he : PE X e ta) (hb : attributeBase e f X.env (eval e X.env) = eval e X.env := by rfl) (hK : X.K = K := by rfl) : PE X (.Attribute e f pos) (tFld K ta f) := by
  subst hK
  exact pe_fld he hb
end
end L2

namespace Ring
open PySem L2
abbrev Held := List (Nat × Tie)
inductive Deed where
  | put (n : Nat)
  | drop (n : Nat) (t : Tie)
structure HeldOk (p f : Nat) (m : Held) : Prop where
  asc : (m.map (·.1)).Pairwise (· < ·)
  below : ∀ e ∈ m, e.1 < f
  good : ∀ e ∈ m, GoodTie (p : Int) e.2
  few : m.length ≤ 24
def without (n : Nat) (m : Held) : Held := m.filter fun e => decide (e.1 ≠ n)
inductive Chain (p : Nat) : List (Nat × Held) → List Deed → Prop
  | nil : Chain p [(0, [])] []
  | put {f : Nat} {m : Held} {hs : List (Nat × Held)} {ds : List Deed} {t : Tie} : Chain p ((f, m) :: hs) ds → GoodTie (p : Int) t → m.length < 24 → Chain p ((f + 1, m ++ [(f, t)]) :: (f, m) :: hs) (.put f :: ds)
  | drop {f : Nat} {m : Held} {hs : List (Nat × Held)} {ds : List Deed} {n : Nat} {t : Tie} : Chain p ((f, m) :: hs) ds → (n, t) ∈ m → Chain p ((f, without n m) :: (f, m) :: hs) (.drop n t :: ds)
section
variable {p f n : Nat} {m m' : Held} {hs : List (Nat × Held)} {ds : List Deed} {t : Tie}
theorem HeldOk.nil : HeldOk p 0 [] := ⟨List.Pairwise.nil, (fun _ h => nomatch h), (fun _ h => nomatch h), Nat.zero_le _⟩
theorem HeldOk.put (h : HeldOk p f m) (g : GoodTie (p : Int) t) (hl : m.length < 24) : HeldOk p (f + 1) (m ++ [(f, t)]) := by
  refine ⟨?_, fun e he => ?_, fun e he => ?_, by rw [List.length_append]; simp; (first | lia | omega)⟩
  · rw [List.map_append, List.pairwise_append]
    refine ⟨h.asc, by simp, fun x hx y hy => ?_⟩
    obtain ⟨e, he, rfl⟩ := List.mem_map.mp hx
    have : y = f := by simpa using hy
    rw [this]
    exact h.below e he
  · rcases List.mem_append.mp he with he | he
    · exact Nat.lt_succ_of_lt (h.below e he)
    · cases List.mem_singleton.mp he
      exact Nat.lt_succ_self _
  · rcases List.mem_append.mp he with he | he
    · exact h.good e he
    · cases List.mem_singleton.mp he
      exact g
theorem without_mem {e : Nat × Tie} (h : e ∈ without n m) : e ∈ m := (List.mem_filter.mp h).1
theorem HeldOk.drop (h : HeldOk p f m) (n : Nat) : HeldOk p f (without n m) :=
  ⟨h.asc.sublist (List.Sublist.map _ List.filter_sublist), fun e he => h.below e (without_mem he), fun e he => h.good e (without_mem he), Nat.le_trans (List.length_filter_le _ _) h.few⟩
theorem Chain.ok' : ∀ {hs : List (Nat × Held)} {ds : List Deed}, Chain p hs ds → ∀ f m hs', hs = (f, m) :: hs' → HeldOk p f m
  | _, _, .nil, f, m, hs', e => by cases e; exact HeldOk.nil
  | _, _, .put c g hl, f, m, hs', e => by cases e; exact (c.ok' _ _ _ rfl).put g hl
  | _, _, .drop c hm, f, m, hs', e => by cases e; exact (c.ok' _ _ _ rfl).drop _
theorem Chain.ok (c : Chain p ((f, m) :: hs) ds) : HeldOk p f m := c.ok' _ _ _ rfl
theorem Chain.len : ∀ {hs : List (Nat × Held)} {ds : List Deed}, Chain p hs ds → hs.length = ds.length + 1
  | _, _, .nil => rfl
  | _, _, .put c _ _ => congrArg (· + 1) c.len
  | _, _, .drop c _ => congrArg (· + 1) c.len
theorem HeldOk.web (h : HeldOk p f m) (p1 : 1 ≤ p) (p2 : p ≤ 10) : GoodWeb p (m.map (·.2)) := ⟨p1, p2, by rw [List.length_map]; exact h.few, fun t ht => by
  obtain ⟨e, he, rfl⟩ := List.mem_map.mp ht
  exact h.good e he⟩
theorem HeldOk.nodup (h : HeldOk p f m) : (m.map (·.1)).Nodup := h.asc.imp fun h => Nat.ne_of_lt h
theorem HeldOk.fresh (h : HeldOk p f m) : ¬ f ∈ m.map (·.1) := fun hm => by
  obtain ⟨e, he, q⟩ := List.mem_map.mp hm
  have := h.below e he
  (first | lia | omega)
theorem without_none : ∀ {m : Held}, ¬ n ∈ m.map (·.1) → without n m = m := fun {m} h => by
  unfold without
  rw [List.filter_eq_self]
  intro e he
  refine decide_eq_true fun z => h ?_
  rw [← z]
  exact List.mem_map_of_mem he
theorem without_new (h : ¬ n ∈ m.map (·.1)) : without n (m ++ [(n, t)]) = m := by
  have e := without_none h
  unfold without at e ⊢
  rw [List.filter_append, e]
  simp
theorem perm_back : ∀ {m : Held}, (m.map (·.1)).Nodup → (n, t) ∈ m → (without n m ++ [(n, t)]).Perm m
  | [], _, h => nomatch h
  | e :: r, hn, h => by
    obtain ⟨h1, h2⟩ := List.nodup_cons.mp (show (e.1 :: r.map (·.1)).Nodup from hn)
    by_cases he : e.1 = n
    · have hr : without n (e :: r) = r := by
        have q := without_none (n := n) (m := r) (he ▸ h1)
        unfold without at q ⊢
        rw [List.filter_cons, if_neg (by simp [he]), q]
      have ee : e = (n, t) := by
        rcases List.mem_cons.mp h with z | z
        · exact z.symm
        · exact absurd (List.mem_map_of_mem (f := (·.1)) z) (he ▸ h1)
      rw [hr, ee]
      exact List.perm_append_singleton _ _
    · have hr : without n (e :: r) = e :: without n r := by
        unfold without
        rw [List.filter_cons, if_pos (by simp [he])]
      rw [hr]
      refine List.Perm.cons _ (perm_back h2 ?_)
      rcases List.mem_cons.mp h with z | z
      · exact absurd (by rw [← z]) he
      · exact z
end
abbrev Ent := Nat × Addr × Tie
def entV (e : Ent) : Key × V := (Sum.inl ((e.1 : Nat) : Int), .ref e.2.1)
def entP (e : Ent) : Nat × Tie := (e.1, e.2.2)
def kN (n : Nat) : Key := Sum.inl ((n : Nat) : Int)
theorem kN_inj {a b : Nat} (h : kN a = kN b) : a = b := by
  have := Sum.inl.inj h
  (first | lia | omega)
def DictIs (H : Hp) (a : Addr) (m : Held) : Prop := ∃ es : List Ent, H a = some (.dK (es.map entV)) ∧ (es.map entP).Perm m ∧ ∀ e ∈ es, H e.2.1 = some (.tup (tieV e.2.2))
section
variable {H H' : Hp} {a b : Addr} {p f n : Nat} {m m' : Held} {es : List Ent} {t : Tie}
theorem DictIs.keep (h : DictIs H a m) (ts : Tups H H') (ha : H' a = H a) : DictIs H' a m := by
  obtain ⟨es, h1, h2, h3⟩ := h
  exact ⟨es, by rw [ha]; exact h1, h2, fun e he => ts _ _ (h3 e he)⟩
theorem DictIs.same (h : DictIs H a m) (s : Same H H') : DictIs H' a m := by
  obtain ⟨es, h1, h2, h3⟩ := h
  exact ⟨es, s _ _ h1, h2, fun e he => s _ _ (h3 e he)⟩
theorem names_of (hp : (es.map entP).Perm m) : (es.map (·.1)).Perm (m.map (·.1)) := by
  have q := hp.map (·.1)
  rw [List.map_map] at q
  exact q
theorem val_in : ∀ {es : List Ent}, (es.map (·.1)).Nodup → ∀ e ∈ es, valV (es.map entV) (kN e.1) = some (.ref e.2.1)
  | [], _, _, h => nomatch h
  | x :: r, hn, e, h => by
    obtain ⟨h1, h2⟩ := List.nodup_cons.mp (show (x.1 :: r.map (·.1)).Nodup from hn)
    rw [List.map_cons]
    rcases List.mem_cons.mp h with z | z
    · subst z
      exact valV_pos rfl
    · rw [valV_neg (show ¬ (entV x).1 = kN e.1 from fun q => h1 (by rw [kN_inj (a := x.1) q]; exact List.mem_map_of_mem z))]
      exact val_in h2 e z
theorem val_out : ∀ {es : List Ent}, ¬ n ∈ es.map (·.1) → valV (es.map entV) (kN n) = none
  | [], _ => rfl
  | x :: r, h => by
    rw [List.map_cons, valV_neg (show ¬ (entV x).1 = kN n from fun q => h (by rw [← kN_inj (a := x.1) q]; exact List.mem_cons_self))]
    exact val_out fun z => h (List.mem_cons_of_mem _ z)
theorem drop_es (n : Nat) : ∀ es : List Ent, dropK (es.map entV) (kN n) = (es.filter fun e => decide (e.1 ≠ n)).map entV
  | [] => rfl
  | x :: r => by
    have ih := drop_es n r
    unfold dropK at ih ⊢
    rw [List.map_cons, List.filter_cons, List.filter_cons, ih]
    by_cases h : x.1 = n
    · rw [if_neg (by simp [entV, kN, h]), if_neg (by simp [h])]
    · rw [if_pos (decide_eq_true (show (entV x).1 ≠ kN n from fun q => h (kN_inj (a := x.1) q))), if_pos (by simp [h])]
      rfl
theorem drop_perm (hp : (es.map entP).Perm m) : ((es.filter fun e => decide (e.1 ≠ n)).map entP).Perm (without n m) := by
  have q := hp.filter fun e => decide (e.1 ≠ n)
  rw [List.filter_map] at q
  exact q
theorem DictIs.sorted (h : DictIs H a m) (ok : HeldOk p f m) : ∃ kvs ns, H a = some (.dK kvs) ∧ kvs.map (·.1) = ns.map Sum.inl ∧ kvs.length < 64 ∧
    ∀ ns' : List Int, ns'.Perm ns → ns'.Pairwise (· ≤ ·) → ns'.map V.int = natsV (m.map (·.1)) := by
  obtain ⟨es, h1, h2, h3⟩ := h
  refine ⟨_, es.map fun e => ((e.1 : Nat) : Int), h1, ?_, ?_, fun ns' hp hs => ?_⟩
  · rw [List.map_map, List.map_map]
    rfl
  · have q := h2.length_eq
    rw [List.length_map] at q
    rw [List.length_map]
    have := ok.few
    (first | lia | omega)
  · have e1 : ns' = (m.map (·.1)).map fun x => ((x : Nat) : Int) := by
      refine List.Perm.eq_of_pairwise (fun x y _ _ h1 h2 => Int.le_antisymm h1 h2) hs ?_ (hp.trans ?_)
      · rw [List.pairwise_map]
        exact ok.asc.imp fun h => by (first | lia | omega)
      · have q := (names_of h2).map fun x => ((x : Nat) : Int)
        rw [List.map_map] at q
        exact q
    rw [e1, List.map_map]
    rfl
theorem DictIs.get (h : DictIs H a m) (ok : HeldOk p f m) (hm : (n, t) ∈ m) : ∃ kvs b, H a = some (.dK kvs) ∧ valV kvs (kN n) = some (.ref b) ∧ H b = some (.tup (tieV t)) := by
  obtain ⟨es, h1, h2, h3⟩ := h
  obtain ⟨e, he, q⟩ := List.mem_map.mp (h2.mem_iff.mpr hm)
  have e1 : e.1 = n := congrArg (·.1) q
  have e2 : e.2.2 = t := congrArg (·.2) q
  refine ⟨_, e.2.1, h1, ?_, by rw [← e2]; exact h3 e he⟩
  rw [← e1]
  exact val_in ((names_of h2).nodup_iff.mpr ok.nodup) e he
theorem DictIs.none (h : DictIs H a m) (hn : ¬ n ∈ m.map (·.1)) : ∃ kvs, H a = some (.dK kvs) ∧ valV kvs (kN n) = none := by
  obtain ⟨es, h1, h2, h3⟩ := h
  exact ⟨_, h1, val_out fun z => hn ((names_of h2).mem_iff.mp z)⟩
theorem DictIs.len (h : DictIs H a m) : ∃ kvs, H a = some (.dK kvs) ∧ kvs.length = m.length := by
  obtain ⟨es, h1, h2, h3⟩ := h
  refine ⟨_, h1, ?_⟩
  rw [List.length_map, ← h2.length_eq, List.length_map]
theorem DictIs.put (h : DictIs H a m) (hn : ¬ n ∈ m.map (·.1)) (hb : H b = some (.tup (tieV t))) : ∃ kvs, H a = some (.dK kvs) ∧ kvs.length = m.length ∧
    ∀ H' m', Tups H H' → H' a = some (.dK (putK kvs (kN n) (.ref b))) → (m ++ [(n, t)]).Perm m' → DictIs H' a m' := by
  obtain ⟨es, h1, h2, h3⟩ := h
  refine ⟨_, h1, by rw [List.length_map, ← h2.length_eq, List.length_map], fun H' m' ts ha hp => ⟨es ++ [(n, b, t)], ?_, ?_, fun e he => ?_⟩⟩
  · rw [ha, putK_new _ (val_out fun z => hn ((names_of h2).mem_iff.mp z)), List.map_append]
    rfl
  · rw [List.map_append]
    exact (h2.append_right _).trans hp
  · rcases List.mem_append.mp he with he | he
    · exact ts _ _ (h3 e he)
    · cases List.mem_singleton.mp he
      exact ts _ _ hb
theorem DictIs.pop (h : DictIs H a m) (ok : HeldOk p f m) (hm : (n, t) ∈ m) : ∃ kvs b, H a = some (.dK kvs) ∧ valV kvs (kN n) = some (.ref b) ∧ H b = some (.tup (tieV t)) ∧
    ∀ H', Tups H H' → H' a = some (.dK (dropK kvs (kN n))) → DictIs H' a (without n m) := by
  obtain ⟨es, h1, h2, h3⟩ := h
  obtain ⟨e, he, q⟩ := List.mem_map.mp (h2.mem_iff.mpr hm)
  have e1 : e.1 = n := congrArg (·.1) q
  have e2 : e.2.2 = t := congrArg (·.2) q
  refine ⟨_, e.2.1, h1, ?_, by rw [← e2]; exact h3 e he, fun H' ts ha => ⟨_, ha.trans (by rw [drop_es]), drop_perm h2, fun e he => ts _ _ (h3 e (List.mem_filter.mp he).1)⟩⟩
  rw [← e1]
  exact val_in ((names_of h2).nodup_iff.mpr ok.nodup) e he
end
def DeedAt (H : Hp) (y : V) : Deed → Prop
  | .put n => ∃ b, y = .ref b ∧ H b = some (.tup [.int (n : Int), .non])
  | .drop n t => ∃ b c, y = .ref b ∧ H b = some (.tup [.int (n : Int), .ref c]) ∧ H c = some (.tup (tieV t))
theorem DeedAt.tups {H H' : Hp} (ts : Tups H H') {y : V} : ∀ {d : Deed}, DeedAt H y d → DeedAt H' y d
  | .put _, ⟨b, e, h⟩ => ⟨b, e, ts _ _ h⟩
  | .drop _ _, ⟨b, c, e, h, g⟩ => ⟨b, c, e, ts _ _ h, ts _ _ g⟩
theorem unsnoc {α β : Type} {R : α → β → Prop} : ∀ {xs : List α} {ys : List β} {y : β}, Paired R xs (ys ++ [y]) → ∃ xs' x, xs = xs' ++ [x] ∧ Paired R xs' ys ∧ R x y
  | _, [], _, .cons h .nil => ⟨[], _, rfl, .nil, h⟩
  | _, _ :: _, _, .cons h r => by
    obtain ⟨xs', x, e, h1, h2⟩ := unsnoc r
    exact ⟨_ :: xs', x, by rw [e]; rfl, .cons h h1, h2⟩
def flds (n : Nat) (d : Addr) (f : Nat) (q : Addr) : List (Str × V) := [("points", .int (n : Int)), ("standing_ties", .ref d), ("next_name", .int (f : Int)), ("done", .ref q)]
theorem ne_ps : ¬ (("points" : Str) = "standing_ties") := by decide +kernel
theorem ne_pn : ¬ (("points" : Str) = "next_name") := by decide +kernel
theorem ne_pd : ¬ (("points" : Str) = "done") := by decide +kernel
theorem ne_sn : ¬ (("standing_ties" : Str) = "next_name") := by decide +kernel
theorem ne_sd : ¬ (("standing_ties" : Str) = "done") := by decide +kernel
theorem ne_nd : ¬ (("next_name" : Str) = "done") := by decide +kernel
theorem putF_ne {g f : Str} {x v : V} {r : List (Str × V)} (h : ¬ g = f) : putF f v ((g, x) :: r) = (g, x) :: putF f v r := if_neg h
theorem putF_eq {f : Str} {x v : V} {r : List (Str × V)} : putF f v ((f, x) :: r) = (f, v) :: r := if_pos rfl
theorem flds_init (n : Nat) (d : Addr) (f : Nat) (q : Addr) : putF "done" (.ref q) (putF "next_name" (.int (f : Int)) (putF "standing_ties" (.ref d) (putF "points" (.int (n : Int)) []))) = flds n d f q := by
  have e1 : putF "points" (.int (n : Int)) [] = [(("points" : Str), V.int (n : Int))] := rfl
  rw [e1, putF_ne ne_ps]
  rw [show putF "standing_ties" (.ref d) [] = [(("standing_ties" : Str), V.ref d)] from rfl, putF_ne ne_pn, putF_ne ne_sn]
  rw [show putF "next_name" (.int (f : Int)) [] = [(("next_name" : Str), V.int (f : Int))] from rfl, putF_ne ne_pd, putF_ne ne_sd, putF_ne ne_nd]
  rfl
theorem flds_next (n : Nat) (d : Addr) (f g : Nat) (q : Addr) : putF "next_name" (.int (g : Int)) (flds n d f q) = flds n d g q := by
  unfold flds
  rw [putF_ne ne_pn, putF_ne ne_sn, putF_eq]
section
variable {n f : Nat} {d q : Addr}
theorem fl_points : (flds n d f q).lookup ("points" : Str) = some (.int (n : Int)) := by
  rw [← flds_init, lookup_putF, if_neg ne_pd, lookup_putF, if_neg ne_pn, lookup_putF, if_neg ne_ps, lookup_putF, if_pos rfl]
theorem fl_ties : (flds n d f q).lookup ("standing_ties" : Str) = some (.ref d) := by
  rw [← flds_init, lookup_putF, if_neg ne_sd, lookup_putF, if_neg ne_sn, lookup_putF, if_pos rfl]
theorem fl_next : (flds n d f q).lookup ("next_name" : Str) = some (.int (f : Int)) := by
  rw [← flds_init, lookup_putF, if_neg ne_nd, lookup_putF, if_pos rfl]
theorem fl_done : (flds n d f q).lookup ("done" : Str) = some (.ref q) := by
  rw [← flds_init, lookup_putF, if_pos rfl]
theorem fl_no {m : Str} (h1 : ¬ m = "points") (h2 : ¬ m = "standing_ties") (h3 : ¬ m = "next_name") (h4 : ¬ m = "done") : (flds n d f q).lookup m = none := by
  rw [← flds_init, lookup_putF, if_neg h4, lookup_putF, if_neg h3, lookup_putF, if_neg h2, lookup_putF, if_neg h1]
  rfl
end
theorem none_of {H H' : Hp} {p d : Addr} (k : ∀ b o, H b = some o → b ≠ p → H' b = some o) (h : H' d = none) (n : d ≠ p) : H d = none := by
  cases e : H d with
  | none => rfl
  | some o =>
    rw [k d o e n] at h
    cases h
structure StAt (C : Addr) (H : Hp) (p d q : Addr) (n : Nat) (hs : List (Nat × Held)) (ds : List Deed) : Prop where
  ch : Chain n hs ds
  p1 : 1 ≤ n
  p2 : n ≤ 10
  ob : ∃ dx f m hs', hs = (f, m) :: hs' ∧ H p = some (.ins C dx (flds n d f q)) ∧ DictIs H d m
  dn : ∃ ys, H q = some (.lst ys) ∧ Paired (DeedAt H) ys ds.reverse
structure Kept (H H' : Hp) (p d q : Addr) : Prop where
  tups : Tups H H'
  rest : ∀ b o, H b = some o → b ≠ p → b ≠ d → b ≠ q → H' b = some o
theorem StAt.same {C : Addr} {H H' : Hp} {p d q : Addr} {n : Nat} {hs : List (Nat × Held)} {ds : List Deed} (h : StAt C H p d q n hs ds) (s : Same H H') : StAt C H' p d q n hs ds := by
  obtain ⟨dx, f, m, hs', e, h1, h2⟩ := h.ob
  obtain ⟨ys, h3, h4⟩ := h.dn
  exact ⟨h.ch, h.p1, h.p2, ⟨dx, f, m, hs', e, s _ _ h1, h2.same s⟩, ys, s _ _ h3, Paired.imp' (fun _ _ z => z.tups s.tups) h4⟩
section
variable {C p d q L : Addr} {H H' H2 : Hp} {n : Nat} {hs : List (Nat × Held)} {ds : List Deed} {xs ys : List V} {x : V} {r : Nat × Held}
end
def tieD (t : Tie) : PyData := .tuple [.int t.1, .int t.2.1, .int t.2.2]
def webD (p : Nat) (ts : List Tie) : PyData := .tuple [.int (p : Int), .tuple (ts.map tieD)]
section
variable {K : PySem.W.Frag}
theorem ties_dat {H : Hp} : ∀ {xs : List V} {ts : List Tie}, Paired (TupAt H) xs ts → DatVs K H xs (ts.map tieD)
  | _, _, .nil => .nil
  | _, _, .cons ⟨b, e, h⟩ r => by
    subst e
    exact .cons (.tup (SqT.of h) (.cons (.int _) (.cons (.int _) (.cons (.int _) .nil)))) (ties_dat r)
theorem web_dat {H : Hp} {w : Addr} {p : Nat} {ts : List Tie} (h : WebAt H w p ts) : DatV K H (.ref w) (webD p ts) := by
  obtain ⟨b, xs, h1, h2, h3⟩ := h.ex
  exact .tup (SqT.of h1) (.cons (.int _) (.cons (.tup (SqT.of h2) (ties_dat h3)) .nil))
end
theorem lay_ties : ∀ ts : List Tie, PyData.canLayAll0 (ts.map tieD) = true
  | [] => rfl
  | t :: r => by
    have ih := lay_ties r
    simp only [List.map_cons, PyData.canLayAll0, ih, Bool.and_true]
    rfl
theorem deep_ties : ∀ ts : List Tie, PyData.depthAll (ts.map tieD) ≤ 1
  | [] => Nat.zero_le _
  | t :: r => by
    have ih := deep_ties r
    show max (PyData.depth (tieD t)) (PyData.depthAll (r.map tieD)) ≤ 1
    have e : PyData.depth (tieD t) = 1 := rfl
    (first | lia | omega)
theorem lay_web (p : Nat) (ts : List Tie) : (webD p ts).canLay0 = true := by
  show (true && ((PyData.tuple (ts.map tieD)).canLay0 && true)) = true
  have e : (PyData.tuple (ts.map tieD)).canLay0 = PyData.canLayAll0 (ts.map tieD) := by simp [PyData.canLay0]
  rw [e, lay_ties]
  rfl
theorem shaped_web (p : Nat) (ts : List Tie) : SeqAt.shaped (webD p ts) = true := by
  unfold SeqAt.shaped
  rw [lay_web, Bool.true_and]
  refine decide_eq_true ?_
  have h := deep_ties ts
  have e : PyData.depth (webD p ts) = max 0 (max (PyData.depthAll (ts.map tieD) + 1) 0) + 1 := by simp [webD, PyData.depth, PyData.depthAll]
  (first | lia | omega)
theorem lay_list (l : List Nat) : (PyData.list (l.map natD)).canLay0 = true := by
  have e : (PyData.list (l.map natD)).canLay0 = PyData.canLayAll0 (l.map natD) := by simp [PyData.canLay0]
  rw [e, lay_nats]
end Ring

namespace L2
open PySem PySem.Spec PyProof.Rows
section
variable {X : Cx} {pins : List (Addr × Obj)} {σ : St} {H : Hp} {s : Shared}
end
section
variable {X : Cx} {tg : Expr}
end
end L2

namespace RM
variable {N : Net}
end RM

namespace Ring
open PySem L2
section
variable {p : Nat} {ts : List Tie} {g : GoodWeb p ts}
end
section
variable (p : Nat) (ts : List Tie) (g : GoodWeb p ts)
end
section
variable {p : Nat} {ts : List Tie} {g : GoodWeb p ts} {H H' : Hp} {kvs : List (Key × V)} {zs : List Nat}
end
end Ring

namespace L2
open PySem PySem.Spec PyProof.Rows
end L2

namespace Ring
end Ring

namespace Ring
open PySem L2
theorem intsV_len (l : List Int) : (intsV l).length = l.length := by unfold intsV; rw [List.length_map]
end Ring
namespace Ring
open PySem L2
end Ring

namespace Ring
open PySem L2
end Ring

namespace L2
open PySem PySem.Spec PyProof.Rows
section
variable {X : Cx}
end

section
variable {X : Cx} {elt iter tg : Expr} {ifs : List Expr} {scope : Scope} {xc : Str} {pos : Pos} {own frees : List Str} {js : List Nat} {wi : TI} {g : TG} {tt : TT} {te : TE}
end

def relabelS (scope osc : Scope) : Scope := { kind := scope.kind, names := scope.names.map (fun (n, k) => if (k == NameKind.free && osc.kind == .function && osc.names.lookup n == some .cell) then (n, NameKind.cell) else (n, k)), isGenerator := scope.isGenerator, isCoroutine := scope.isCoroutine, more := scope.more }
end L2

namespace L2
open PySem PySem.Spec PyProof.Rows
theorem relabel_loc {scope : Scope} {env : Env} {x : Str} : ∀ {names : List (Str × NameKind)}, names.lookup x = some .local →
    (names.map fun (n, k) => if (k == NameKind.free && env.scope.kind == .function && env.kindOf n == some .cell) then (n, NameKind.cell) else (n, k)).lookup x = some .local
  | [], h => by cases h
  | (n, j) :: r, h => by
    have ih := @relabel_loc scope env x r
    show List.lookup x ((if (j == NameKind.free && env.scope.kind == .function && env.kindOf n == some .cell) = true then (n, NameKind.cell) else (n, j)) :: _) = _
    cases hx : x == n with
    | true =>
      simp only [List.lookup_cons, hx] at h
      cases h
      rw [if_neg (by simp)]
      simp only [List.lookup_cons, hx]
    | false =>
      simp only [List.lookup_cons, hx] at h
      by_cases hc : (j == NameKind.free && env.scope.kind == .function && env.kindOf n == some .cell) = true
      · rw [if_pos hc]
        simp only [List.lookup_cons, hx]
        exact ih h
      · rw [if_neg hc]
        simp only [List.lookup_cons, hx]
        exact ih h
theorem wpAny_comprehension_x {M : Model} {A : Around} {E : Value → Shared → Prop} {s : Shared} {env : Env} {e : Expr} {scope : Scope} {pos : Pos} {newAcc first : Sem Value} {g : Comprehension} {gs : List Comprehension} {cl : List (Str × Addr)} {Q : Value → Shared → Prop}
    (hcl : clausesOf e = g :: gs) (hs : ∀ x, foldedSetIterable g.iter env x = pure x) (hc : closureFor scope env = pure cl) (hk : scope.kind = .function) (hn : ∀ x ∈ scope.names, x.2 = .local → scope.names.lookup x.1 = some .local)
    (h : wpAny M A first (fun x s₁ => wpAny M A (pyIter x) (fun it s₂ => wpAny M A newAcc (fun acc s₃ => wpAny M A (newFunctionEnv scope env.globals cl [] env.qual none .none (some env)) (fun cenv s₄ =>
      codeAny M A (.compStart e 0 it acc { cenv with scope := relabel scope env }) (fun r s' => ∃ m, s'.heap.Ns cenv.locals m ∧ ∀ h', Heap.SameBut cenv.locals s'.heap h' → match r with
        | .ok _ => Q acc { s' with heap := h' }
        | .error x => wpAny M A (PySem.passOn "comprehension.variables-let-go" x { cenv with scope := relabel scope env }) Q E { s' with heap := h' }) s₄) E s₃) E s₂) E s₁) E s) :
    wpAny M A (comprehension e scope env pos newAcc false first) Q E s := by
  simp only [comprehension, hcl, hs, pure_bind, hc]
  refine wpAny_bind (wpAny_mono h (fun x s₁ h₁ => ?_) fun _ _ z => z)
  refine wpAny_bind (wpAny_standAt ?_)
  refine wpAny_bind (wpAny_holding (wpAny_mono h₁ (fun it s₂ h₂ => ?_) fun _ _ z => z))
  rw [if_neg (by simp)]
  refine wpAny_bind (wpAny_mono h₂ (fun acc s₃ h₃ => ?_) fun _ _ z => z)
  refine wpAny_bind (wpAny_mono h₃ (fun cenv s₄ h₄ => ?_) fun _ _ z => z)
  refine wpAny_holding (wpAny_bind (wpAny_attempt (wpAny_holding (wpAny_run ?_))))
  have loc : ∀ y ∈ (List.filter (fun x => match x with | (n, k) => (k == NameKind.local || k == NameKind.cell) && n != Str.ofString ".0") scope.names).reverse, y.2 = NameKind.local → ({ cenv with scope := relabel scope env } : Env).kindOf y.1 = some NameKind.local := fun y hy hl => by
    have hm := (List.mem_filter.mp (List.mem_reverse.mp hy)).1
    exact relabel_loc (scope := scope) (hn y hm hl)
  refine codeAny_mono (show codeAny M (A.mark none) _ _ s₄ from h₄) fun r s' hr => ?_
  obtain ⟨m, hm, q⟩ := hr
  cases r with
  | ok f => exact wpAny_bind (wpAny_holding (wpAny_comp_letGo (cenv := { cenv with scope := relabel scope env }) hk _ _ m loc hm fun h' m' _ sb => wpAny_pure (q h' sb)))
  | error x => exact wpAny_bind (wpAny_holding (wpAny_comp_letGo (cenv := { cenv with scope := relabel scope env }) hk _ _ m loc hm fun h' m' _ sb => q h' sb))

def xeB (X : Cx) (N : List Str) (scope : Scope) (E : XK) (C : Addr) (s : Shared) (H : Hp) (fp : List Addr) : Value → Shared → Prop := fun e s' =>
  ∃ pins σ Hc sc, Inv (cxComp X N scope (fun _ _ => False) C s H fp) pins σ Hc sc ∧ CX1 X.prog X.w X.stack Hc sc E e s'
section
variable {X : Cx} {E : XK} {pins : List (Addr × Obj)} {σ : St} {H : Hp} {s : Shared} {N : List Str} {scope : Scope} {C : Addr} {fp : List Addr}
theorem inv_xe {xe xe' : Value → Shared → Prop} {Hc : Hp} {sc : Shared} (I : Inv (cxComp X N scope xe C s H fp) pins σ Hc sc) : Inv (cxComp X N scope xe' C s H fp) pins σ Hc sc :=
  ⟨⟨I.ok.mod, I.ok.kind, I.ok.glob, I.ok.blt, I.ok.above, I.ok.inj, I.ok.has, I.ok.cab, I.ok.hd, I.ok.frames, I.ok.stk, I.ok.exf, I.ok.bs, I.ok.bsz, I.ok.noex, I.ok.exfs, I.ok.funs, I.ok.frf⟩, I.os, I.bare, I.base, I.loc, I.cell, I.free, I.freeC, I.pin, I.hok, I.len⟩
theorem passB {P : Program} {w : World} (h1 : X.prog = P := by rfl) (h2 : X.w = w := by rfl) : Passes (CX1 P w) (cxComp X N scope (xeB X N scope E C s H fp) C s H fp) E := by
  subst h1 h2
  intro pins σ Hc sc e s' I q
  exact ⟨pins, σ, Hc, sc, inv_xe I, q⟩
theorem held_out (O : Out X E) (I : Inv X pins σ H s) {B : Heap} {ea : Addr} {cls a0 : Value} {od : Option Addr} {c : Value} (cov : Cov B X.fs X.s₀.heap H s.heap) (hd : Heap.HeldW B X.stack ea cls a0 X.env.locals s.heap) (sc : SecD od c ea s.heap) (hn : H ea = none) (q : CtxE E cls od c H) :
    X.xe (.ref ea) s := by
  refine O.xe _ _ ?_
  obtain ⟨y1, y2, y3, y4⟩ := hd
  rw [O.stk] at y3
  have y5 := y4
  obtain ⟨oe, vs, T, oT, ts, ge, ⟨hc, h0⟩, de, f1, nT, Te, gT, dT, f3⟩ := y5
  rw [leaving, noteFrame]
  simp only [O.fr]
  refine wpAny_bind (wpAny_bind (wpAny_field ge de f1 ?_))
  rw [if_pos (by simp)]
  refine wpAny_bind (wpAny_field gT dT f3 ?_)
  rw [if_pos (by simp)]
  refine wpAny_pure ?_
  refine land2 y1 y2 y3 y4 sc fun h' z1 z2 z3 => ?_
  exact fly_out O I cov (fly2 (s := { s with heap := h' }) z1) z2 z3 hn q
theorem funFrames_to {h h' B B' : Heap} : ∀ {l : List Env}, h.FunFrames B l → (∀ b ∈ frs l, ∀ o, h.get? b = some o → h'.get? b = some o) → (∀ b, B.get? b = none → B'.get? b = none) → h'.FunFrames B' l
  | [], _, _, _ => trivial
  | env :: rest, x, k, n => by
    obtain ⟨x1, ⟨L, o, x2, x3, x4, x5⟩, x6⟩ := x
    have hm : L ∈ frs (env :: rest) := List.mem_filterMap.mpr ⟨env, List.mem_cons_self, x2⟩
    refine ⟨x1, ⟨L, o, x2, n L x3, k L hm o x4, x5⟩, funFrames_to x6 (fun b hb => k b ?_) n⟩
    obtain ⟨e2, he, hb⟩ := List.mem_filterMap.mp hb
    exact List.mem_filterMap.mpr ⟨e2, List.mem_cons_of_mem _ he, hb⟩
theorem hide_one (B : Heap) (C : Addr) : (PySem.W.hideAll B [C]).get? C = none := Heap.hide_self ..
theorem block_throw {H2 : Hp} {s2 s8 : Shared} {e : Value} {cl : List (Str × Addr)} {E' : Value → Shared → Prop} {α : Type} {Qa : α → Shared → Prop} (O : Out X E) (I2 : Inv X pins σ H2 s2) (f2 : ∀ b ∈ fp, FpOk X pins H2 b) (hC : s2.heap.objs.size ≤ C) (h : xeB X N scope E C s2 H2 fp e s8) :
    wpAny (model X.prog X.w) X.A (noteFrame e (compEnvC scope cl C X.env)) (fun _ s' => ∃ m, s'.heap.Ns C m ∧ ∀ h', Heap.SameBut C s'.heap h' →
      wpAny (model X.prog X.w) X.A (PySem.passOn "comprehension.variables-let-go" e (compEnvC scope cl C X.env)) Qa X.xe { s' with heap := h' }) E' s8 := by
  obtain ⟨p, σ', Hc, sc, Ic, ea, cls, a0, od, c, H', B, rfl, os, bare, un, hok, hn, cov, fl, sec, qE⟩ := h
  have I1 : Inv (cxComp X N scope (fun _ _ => False) C s2 H2 fp) p σ' H' s8 := Ic.threw os bare un hok
  show wpAny _ _ (noteFrame (.ref ea) X.env) _ _ _
  have hfr : X.A.frames = some (X.env :: X.outer) := by rw [I2.ok.frames, O.stk]
  have fl' := fl
  rw [O.stk] at fl'
  refine note2 hfr O.fr fl' sec fun h1 x1 x2 up => ?_
  obtain ⟨m, hns, _⟩ := I1.loc
  obtain ⟨oC, es, ep, hoC, hdC, rest⟩ := id hns
  have hoC : s8.heap.get? C = some oC := hoC
  have hCsc : ∃ o, sc.heap.get? C = some o := by
    obtain ⟨_, ⟨o, _, _, z, _⟩, _⟩ := Ic.loc
    exact ⟨o, z⟩
  have frlt : ∀ b ∈ frs X.stack, b < s2.heap.objs.size := fun b hb => by
    obtain ⟨_, o, ho, _⟩ := I2.stack.mem hb
    exact Heap.lt_size ho
  have nC : C ∉ frs X.stack := fun z => absurd (frlt C z) (Nat.not_lt.mpr hC)
  have bC : B.get? C = some oC := cov C oC hoC (.inr hCsc) nC
  refine ⟨m, ⟨oC, es, ep, x1.1 C oC bC, hdC, rest⟩, fun h2 sb => ?_⟩
  have sb : Heap.SameBut C h1 h2 := sb
  obtain ⟨y1, y2, y3, oe, vs, T, oT, ts, ge, ⟨hc, h0⟩, de, f1, nT, Te, gT, dT, f3⟩ := x1
  have eC : ea ≠ C := fun z => by rw [z, bC] at y2; cases y2
  have tC : T ≠ C := fun z => by rw [z, bC] at nT; cases nT
  have ge2 : h2.get? ea = some oe := (sb.2 ea eC).trans ge
  have gT2 : h2.get? T = some oT := (sb.2 T tC).trans gT
  have z3 : 3 < ts.size := (Array.getElem?_eq_some_iff.mp f3).1
  rw [PySem.passOn]
  refine wpAny_bind (wpAny_field ge2 de f1 ?_)
  rw [if_neg (by simp)]
  refine wpAny_bind ?_
  show wpAny _ _ (setFlight (.ref ea) X.env.frame) _ _ _
  rw [O.fr, setFlight]
  refine wpAny_bind (wpAny_field ge2 de f1 ?_)
  rw [if_pos (by simp)]
  refine wpAny_setField gT2 dT z3 (wpAny_throw ?_)
  dsimp only
  have dT3 := Obj.data_mapFields dT (·.setIfInBounds 3 ((some X.env.locals : Option Addr).elim Value.none fun f => rawInt f))
  have gT3 := Heap.get?_update_self (Obj.mapFields (·.setIfInBounds 3 ((some X.env.locals : Option Addr).elim Value.none fun f => rawInt f))) gT2 (Obj.isFreed_of_fields dT3)
  have k3 : ∀ b, b ≠ C → b ≠ T → (h2.update T (Obj.mapFields (·.setIfInBounds 3 ((some X.env.locals : Option Addr).elim Value.none fun f => rawInt f)))).get? b = h1.get? b := fun b n1 n2 => (Heap.get?_update_other h2 _ (Ne.symm n2)).trans (sb.2 b n1)
  generalize h2.update T (Obj.mapFields (·.setIfInBounds 3 ((some X.env.locals : Option Addr).elim Value.none fun f => rawInt f))) = h3 at gT3 k3
  have neT : ∀ b o, B.get? b = some o → b ≠ T := fun b o e z => by rw [z, nT] at e; cases e
  have inB : ∀ b o, B.get? b = some o → b ≠ C → h3.get? b = some o := fun b o e n => (k3 b n (neT b o e)).trans (y1 b o e)
  have frT : ∀ b ∈ frs X.stack, b ≠ T := fun b hb z => by
    rw [O.stk] at hb
    obtain ⟨_, o, ho, nf⟩ := y3.mem hb
    rw [z, gT] at ho
    cases ho
    exact nf ts dT
  have frC : ∀ b ∈ frs X.stack, b ≠ C := fun b hb z => nC (z ▸ hb)
  have hB' : ∀ b o, (PySem.W.hideAll B [C]).get? b = some o → B.get? b = some o := fun b o e => PySem.W.of_hideAll _ e
  have hBn : ∀ b, B.get? b = none → (PySem.W.hideAll B [C]).get? b = none := fun b e => by
    cases z : (PySem.W.hideAll B [C]).get? b with
    | none => rfl
    | some o => rw [hB' b o z] at e; cases e
  have u8 : Un (frs X.stack) fp H2 H' s2.heap s8.heap := I1.base
  have scT : ∀ b o, s2.heap.get? b = some o → b ∉ fp → ∃ o', sc.heap.get? b = some o' := fun b o e n => Ic.base.there b o e n
  have oldC : ∀ b o, s2.heap.get? b = some o → b ≠ C := fun b o e z => absurd (Heap.lt_size e) (by rw [z]; exact Nat.not_lt.mpr hC)
  have nofs : ∀ b ∈ frs X.stack, H' b = none := fun b hb => I1.ok.stk.elim (fun _ => I1.stkFree b hb) fun _ => I1.stkFree b hb
  have un3 : Un (frs X.stack) fp H2 H' s2.heap h3 := by
    refine ⟨fun b o e n hb hx => inB b o (cov b o (u8.keep b o e n hb hx) (.inr (scT b o e hx)) hb) (oldC b o e), fun b o e n hb hx => ?_, u8.free, fun b o e hx => ?_, u8.tups, u8.frzs, u8.tbls⟩
    · obtain ⟨sl, q⟩ := u8.slot b o e n hb hx
      obtain ⟨sl', q'⟩ := up b _ q (I1.frData b hb _ q)
      exact ⟨sl', (k3 b (frC b hb) (frT b hb)).trans q'⟩
    · obtain ⟨o', q⟩ := u8.there b o e hx
      by_cases hb : b ∈ frs X.stack
      · obtain ⟨sl', q'⟩ := up b _ q (I1.frData b hb _ q)
        exact ⟨_, (k3 b (frC b hb) (frT b hb)).trans q'⟩
      · exact ⟨o', inB b o' (cov b o' q (.inr (scT b o e hx)) hb) (oldC b o e)⟩
  have trk : ∀ b u, H' b = some u → b ∉ frs X.stack ∧ b ≠ C := fun b u e => ⟨fun z => (by rw [nofs b z] at e; cases e), fun z => (by rw [z, show H' C = none from I1.free] at e; cases e)⟩
  have hok3 : HOk X.prog X.w H' h3 := fun b u e => by
    refine (hok b u e).stay (fun c v hc q => ?_) (fun _ q => q) fun _ _ q => q
    have hct : ∃ z, H' c = some z := by
      rcases hc with hc | hc
      · rw [hc]
        exact ⟨u, e⟩
      · exact ⟨_, hc⟩
    obtain ⟨z, hz⟩ := hct
    obtain ⟨t1, t2⟩ := trk c z hz
    exact inB c v (cov c v q (.inl (by rw [hz]; simp)) t1) t2
  have IX : Inv X pins σ H' { s8 with heap := h3 } := I2.call' (ch := fp) (s' := { s8 with heap := h3 }) I1.os un3 hok3 bare fun b hb => by
    obtain ⟨_, g1, _, g3, g4, g5⟩ := f2 b hb
    exact ⟨g3, g1, g4, g5⟩
  refine held_out (B := PySem.W.hideAll B [C]) (a0 := a0) O IX (fun b o e3 c n => ?_) ⟨fun b o e => inB b o (hB' b o e) fun z => ?_, hBn ea y2, ?_, ?_⟩ ?_ hn qE
  · have e3 : h3.get? b = some o := e3
    have nbC : b ≠ C := fun z => by
      rcases c with c | ⟨o', c⟩
      · exact c (by rw [z]; exact I1.free)
      · exact absurd (Nat.lt_of_lt_of_le (Heap.lt_size c) I2.sz) (by rw [z]; exact Nat.not_lt.mpr hC)
    have nbf : b ∉ frs X.stack := fun z => by
      rcases List.mem_cons.mp (I2.stkSub b z) with q | q
      · subst q
        rcases c with c | ⟨o', c⟩
        · exact c IX.free
        · exact absurd (Nat.lt_of_lt_of_le (Heap.lt_size c) I2.ok.above) (Nat.lt_irrefl _)
      · exact n q
    have nfp : ∀ o', X.s₀.heap.get? b = some o' → b ∉ fp := fun o' c z => by
      obtain ⟨_, _, _, g3, _, _⟩ := f2 b z
      rcases g3 with g | g
      · rw [O.ex] at g
        cases g
      · exact absurd (Heap.lt_size c) (Nat.not_lt.mpr g)
    have in2 : ∀ o', X.s₀.heap.get? b = some o' → ∃ o2, s2.heap.get? b = some o2 := fun o' c => I2.base.there b o' c (by rw [O.ex]; simp)
    have ht : ∃ o1, s8.heap.get? b = some o1 := by
      rcases c with c | ⟨o', c⟩
      · cases hz : H' b with
        | none => exact absurd hz c
        | some z => exact (hok b z hz).thing
      · obtain ⟨o2, q2⟩ := in2 o' c
        exact u8.there b o2 q2 (nfp o' c)
    obtain ⟨o1, q1⟩ := ht
    have q2 := cov b o1 q1 (c.imp id fun ⟨o', c⟩ => let ⟨o2, q2⟩ := in2 o' c; scT b o2 q2 (nfp o' c)) nbf
    have q3 := inB b o1 q2 nbC
    rw [e3] at q3
    rw [Option.some.inj q3]
    exact PySem.W.hideAll_get _ q2 (by simpa using nbC)
  · rw [z, hide_one] at e
    cases e
  · rw [← O.stk] at y3
    exact funFrames_to y3 (fun b hb o e => (k3 b (frC b hb) (frT b hb)).trans e) hBn
  · exact ⟨oe, vs, T, _, _, (k3 ea eC (Ne.symm Te)).trans ge, ⟨hc, h0⟩, de, f1, hBn T nT, Te, gT3, dT3, by simp [z3]⟩
  · obtain ⟨o2, v2, g2, d2, kk⟩ := x2
    exact ⟨o2, v2, (k3 ea eC (Ne.symm Te)).trans g2, d2, kk⟩
end
section
variable {X : Cx} {EE : XK} {elt iter tg : Expr} {ifs : List Expr} {scope : Scope} {pos : Pos} {own frees : List Str} {js : List Nat} {wi : TI} {g : TG} {tt : TT} {te : TE}
theorem comp_blockE {pins : List (Addr × Obj)} {σ : St} {H2 : Hp} {s2 : Shared} {it : Addr} {fp : List Addr} {tn : Nat → Heap → Prop} {J : It} {E : Value → Shared → Prop} {RR : Value → Env → Result → Shared → Prop} {QQ : Addr → Hp → Prop}
    (O : Out X EE) (T : CompText X scope own frees js)
    (hg : ∀ C s H fp, PG (cxComp X (own ++ frees) scope (fun _ _ => False) C s H fp) tg g)
    (ht : ∀ C s H fp, PTs (cxComp X (own ++ frees) scope (fun _ _ => False) C s H fp) ifs tt)
    (he : ∀ C s H fp, PE (cxComp X (own ++ frees) scope (xeB X (own ++ frees) scope EE C s H fp) C s H fp) elt te)
    (I2 : Inv X pins σ H2 s2) (TT' : TurnX X.A X.calm X.prog X.w X.K tg J fp it tn) (st2 : tn 0 s2.heap) (f2 : ∀ b ∈ fp, FpOk X pins H2 b)
    (hl : ∀ D, H2 D = none → CompLoop J g tt te own.length (takeSt σ js) D (QQ D) (upd H2 D (.lst [])))
    (hRR : ∀ D C σ' H' s', s2.heap.objs.size ≤ C → Inv (cxComp X (own ++ frees) scope (fun _ _ => False) C s2 H2 fp) [] σ' H' s' → QQ D H' → RR (.ref D) (newEnv scope C X.env.globals (closOf X.env.cells scope.names []) X.env.qual none .none (some X.env) builtinsNs) (.ok .next) s')
    (hER : ∀ D C e s8, s2.heap.objs.size ≤ C → xeB X (own ++ frees) scope EE C s2 H2 fp e s8 → notedBy (model X.prog X.w) X.A (compEnvC scope (closOf X.env.cells scope.names []) C X.env) (fun e s' => RR D (newEnv scope C X.env.globals (closOf X.env.cells scope.names []) X.env.qual none .none (some X.env) builtinsNs) (.error e) s') e s8) :
    wpAny (model X.prog X.w) X.A (newList []) (fun acc s₃ => wpAny (model X.prog X.w) X.A (newFunctionEnv scope X.env.globals (closOf X.env.cells scope.names []) [] X.env.qual none .none (some X.env)) (fun cenv s₄ =>
      codeAny (model X.prog X.w) X.A (.compStart (.ListComp elt [⟨tg, iter, ifs, 0⟩] scope pos) 0 (.ref it) acc { cenv with scope := relabel scope X.env }) (RR acc cenv) s₄) E s₃) E s2 := by
  refine wpAny_newObj_type (wpAny_newFunctionEnv T.nocell (by intro y hy; simp at hy) (fun h₁ hns₁ hsb₁ => ?_) T.kind)
  dsimp only at hns₁ hsb₁ ⊢
  generalize hH2 : s2.heap.push { cls := .type "list", dict := none, data := .seq ([] : List Value).toArray } = G2 at hns₁ hsb₁ ⊢
  have hC : G2.objs.size = s2.heap.objs.size + 1 := by rw [← hH2, Heap.size_push]
  have hDC : s2.heap.objs.size ≠ G2.objs.size := by rw [hC]; exact Nat.ne_of_lt (Nat.lt_succ_self _)
  have hCle : s2.heap.objs.size ≤ G2.objs.size := by rw [hC]; exact Nat.le_succ _
  have below : ∀ b, b < s2.heap.objs.size → b ≠ G2.objs.size := fun b hb => by rw [hC]; exact Nat.ne_of_lt (Nat.lt_succ_of_lt hb)
  have old : ∀ b o, s2.heap.get? b = some o → h₁.get? b = some o := fun b o e => hsb₁.extBut b o (below b (Heap.lt_size e)) (Heap.get?_push_of_some _ (hH2 ▸ Heap.get?_push_of_some _ e))
  have hacc : h₁.get? s2.heap.objs.size = some { cls := .type "list", data := .seq ([] : List Value).toArray 0 } := hsb₁.extBut _ _ hDC (Heap.get?_push_of_some _ (hH2 ▸ Heap.get?_push_size _ rfl))
  have fpo : ∀ b ∈ fp, ∃ o, s2.heap.get? b = some o := fun b hb => let ⟨o, e, _⟩ := TT'.obj _ _ st2 b hb; ⟨o, e⟩
  have st1 : tn 0 h₁ := TT'.keep _ _ _ st2 fun b _ o e => old b o e
  obtain ⟨W, ⟨m0, w0⟩, turn⟩ := hl s2.heap.objs.size (I2.hok.fresh (Nat.le_refl _))
  have hfx : ∀ {H' : Hp}, (∀ b ∈ fp, H' b = none) → ∀ b ∈ fp, FpOk (cxComp X (own ++ frees) scope (fun _ _ => False) G2.objs.size s2 H2 fp) [] H' b := fun {H'} hn b hb => by
    obtain ⟨_, f1, f2', _, f4, _⟩ := f2 b hb
    obtain ⟨o, ho⟩ := fpo b hb
    refine ⟨hn b hb, below b (Heap.lt_size ho), fun z => ?_, .inl hb, fun x c e => ?_, fun p hp => absurd (show p ∈ ([] : List (Addr × Obj)) from hp) (by simp)⟩
    · rcases List.mem_cons.mp (I2.stkSub b z) with q | q
      · exact f1 q
      · exact f2' q
    · rcases closOf_look (show (closOf X.env.cells scope.names []).lookup x = some c from e) with q | ⟨q1, q2⟩
      · cases q
      · obtain ⟨c', hc'⟩ := closure_ok I2 T x .free q1 rfl
        rw [hc'] at q2
        have q2 : c' = c := q2
        rw [← q2]
        exact f4 x c' hc'
  have fp0 : ∀ b ∈ fp, upd H2 s2.heap.objs.size (.lst []) b = none := fun b hb => by
    obtain ⟨o, ho⟩ := fpo b hb
    rw [upd_ne (Nat.ne_of_lt (Heap.lt_size ho))]
    exact (f2 b hb).1
  have back : ∀ {σ6 : St} {p6 : List (Addr × Obj)} {H6 : Hp} {s6 : Shared}, Inv (cxComp X (own ++ frees) scope (fun _ _ => False) G2.objs.size s2 H2 fp) p6 σ6 H6 s6 → σ6.drop own.length = takeSt σ js →
      Inv (cxComp X (own ++ frees) scope (fun _ _ => False) G2.objs.size s2 H2 fp) [] (List.replicate own.length none ++ takeSt σ js) H6 s6 := fun {σ6 p6 H6 s6} I6 hd => by
    have hl6 : σ6.length = (own ++ frees).length := I6.len
    have J6 := I6.pins_of (pins' := []) fun p hp => absurd hp (by simp)
    refine J6.weak ?_ fun i v e => ?_
    · have q := congrArg List.length hd
      rw [List.length_drop] at q
      rw [List.length_append] at hl6
      rw [List.length_append, List.length_replicate]
      (first | lia | omega)
    · by_cases hi : i < own.length
      · rw [List.getElem?_append_left (by simpa using hi), List.getElem?_replicate, if_pos hi] at e
        cases e
      · rw [List.getElem?_append_right (by simpa using hi), List.length_replicate, ← hd, List.getElem?_drop] at e
        rw [show own.length + (i - own.length) = i by (first | lia | omega)] at e
        exact e
  have loop : ∀ s₃ : Shared, s₃ = { s2 with heap := h₁, toks := s2.toks + ([] : List (Str × Value)).length } →
      codeAny (model X.prog X.w) X.A (.compLoop (.ListComp elt [⟨tg, iter, ifs, 0⟩] scope pos) 0 (.ref it) (.ref s2.heap.objs.size) (compEnvC scope (closOf X.env.cells scope.names []) G2.objs.size X.env))
        (RR (.ref s2.heap.objs.size) (newEnv scope G2.objs.size X.env.globals (closOf X.env.cells scope.names []) X.env.qual none .none (some X.env) builtinsNs)) s₃ := by
    rintro s₃ rfl
    refine compLoop_any (fun n s' => ∃ i acc H', Inv (cxComp X (own ++ frees) scope (fun _ _ => False) G2.objs.size s2 H2 fp) [] (List.replicate own.length none ++ takeSt σ js) H' s' ∧ tn i s'.heap ∧ (∀ b ∈ fp, H' b = none) ∧ W i n acc H') ?_ m0
      ⟨0, [], upd H2 s2.heap.objs.size (.lst []), inv_comp I2 T f2 fpo (Nat.le_refl _) hCle hDC old hacc hns₁, st1, fp0, w0⟩
    rintro n s3 ⟨i, acc, H3, I3, st3, fr3, w3⟩
    obtain ⟨hD3, hcase⟩ := turn i n acc H3 w3
    rcases hcase with ⟨stop, qn⟩ | ⟨go, hz, NN, hNN, step⟩
    · refine wpAny_mono (TT'.done (cxComp X (own ++ frees) scope (fun _ _ => False) G2.objs.size s2 H2 fp) rfl rfl rfl rfl rfl i [] s3 _ H3 (fun _ _ => False) I3 (hfx fr3) st3 stop) (fun r s4 ⟨hr, I4⟩ => ?_) fun _ _ z => z.elim
      subst hr
      exact hRR _ _ _ H3 s4 hCle I4 qn
    · refine wpAny_mono (TT'.item (cxComp X (own ++ frees) scope (fun _ _ => False) G2.objs.size s2 H2 fp) rfl rfl rfl rfl rfl i [] s3 _ H3 (fun _ _ => False) I3 (hfx fr3) st3 go) (fun r s4 ⟨u, hr, h4⟩ => ?_) fun _ _ z => z.elim
      subst hr
      refine wpAny_mono h4 (fun _ s5 ⟨x, H5, I5, r5, y5, st5, fr5⟩ => ?_) fun _ _ z => z.elim
      have I5' := I5.pinned (hfx fr5) (TT'.obj _ _ st5)
      refine wpAny_mono (hg _ _ _ _ _ s5 _ H5 x u _ I5' r5 (step x H5 y5)) (fun _ s6 ⟨σ6, H6, I6, hd6, q6⟩ => ?_) fun _ _ z => z.elim
      refine wpAny_mono (ht _ _ _ _ _ s6 σ6 H6 _ I6 q6) (fun ok s7 ⟨H7, I7, q7⟩ => ?_) fun _ _ z => z.elim
      have again : ∀ {H8 : Hp} {s8 : Shared}, Inv (cxComp X (own ++ frees) scope (fun _ _ => False) G2.objs.size s2 H2 fp) ([] ++ pinsAt fp s5.heap) σ6 H8 s8 → tn (i + 1) s8.heap ∧ ∀ b ∈ fp, H8 b = none := fun {H8 s8} I8 => by
        refine ⟨TT'.keep _ _ _ st5 fun b hb o e => (I8.pin (b, o) (List.mem_append_right _ (List.mem_append_right _ (mem_pinsAt hb e)))).1, fun b hb => ?_⟩
        obtain ⟨o, e, d⟩ := TT'.obj _ _ st5 b hb
        exact (I8.pin (b, o) (List.mem_append_right _ (List.mem_append_right _ (mem_pinsAt hb e)))).2.1
      cases ok with
      | false =>
        rw [if_neg Bool.false_ne_true]
        obtain ⟨m', hm, w7⟩ := hNN _ _ q7
        obtain ⟨t7, n7⟩ := again I7
        exact ⟨m', hm, i + 1, acc, H7, back I7 hd6, t7, n7, w7⟩
      | true =>
        rw [if_pos rfl]
        refine wpAny_mono (he _ _ _ _ _ s7 σ6 H7 _ (inv_xe I7) q7) (fun xv s8 ⟨v, H8, I8, r8, hD8, q8⟩ => ?_) fun e s8 z => hER _ _ e s8 hCle z
        replace I8 := inv_xe (xe' := fun _ _ => False) I8
        obtain ⟨m', hm, w8⟩ := hNN _ _ q8
        refine wpAny_mono (mt_append (X := cxComp X (own ++ frees) scope (fun _ _ => False) G2.objs.size s2 H2 fp) _ s8 σ6 H8 (.ref s2.heap.objs.size) [v] (.ref s2.heap.objs.size) [xv] (fun y H9 => y = .non ∧ H9 = upd H8 s2.heap.objs.size (.lst (acc ++ [v]))) I8 rfl (.cons r8 .nil) ⟨_, acc, v, rfl, rfl, hD8, hz, rfl, rfl⟩)
          (fun _ s9 ⟨y, H9, I9, _, _, e9⟩ => ?_) fun _ _ z => z.elim
        subst e9
        obtain ⟨t9, n9⟩ := again I9
        exact ⟨m', hm, i + 1, acc ++ [v], _, back I9 hd6, t9, n9, w8⟩
  exact codeAny_compStart_list (loop _ rfl) (TT'.self _ 0 _ _ _ st1 (loop _ rfl))

theorem pe_compE (O : Out X EE) (T : CompText X scope own frees js) (hc : X.calm = true) (hi : PI X tg iter wi)
    (hg : ∀ C s H fp, PG (cxComp X (own ++ frees) scope (fun _ _ => False) C s H fp) tg g)
    (ht : ∀ C s H fp, PTs (cxComp X (own ++ frees) scope (fun _ _ => False) C s H fp) ifs tt)
    (he : ∀ C s H fp, PE (cxComp X (own ++ frees) scope (xeB X (own ++ frees) scope EE C s H fp) C s H fp) elt te)
    (hs : ∀ x, foldedSetIterable iter X.env x = pure x := by intro _; rfl) :
    PE X (.ListComp elt [⟨tg, iter, ifs, 0⟩] scope pos) (tComp wi g tt te own.length js) := by
  intro pins s σ H Q I h
  rw [eval_ListComp]
  refine wpAny_comprehension_x rfl hs (closure_is (closure_ok I T)) T.kind T.names ?_
  refine wpAny_mono (hi pins s σ H _ I h) (fun v s1 h1 => wpAny_mono h1 (fun itv s2 h2 => ?_) fun _ _ z => z) fun _ _ z => z
  obtain ⟨it, fp, tn, J, H2, e, I2, TT', st2, f2, hl⟩ := h2
  subst e
  refine comp_blockE (QQ := fun D H' => Q (.ref D) H') O T hg ht he I2 (TT'.x hc) st2 f2 hl (fun D C σ' H' s' hC J' q => ?_) fun D C e s8 hC z => ?_
  · obtain ⟨m, hn, _⟩ := J'.loc
    exact ⟨m, hn, fun h' sb => ⟨.ref D, H', inv_comp_back I2 f2 hC J' sb, rfl, q⟩⟩
  · exact block_throw O I2 f2 hC z
end
end L2

namespace L2
open PySem PySem.Spec PyProof.Rows
section
variable {X : Cx}
end
end L2

namespace Ring
open PySem L2
def listT (t : Tie) : List Int := [t.1, t.2.1, t.2.2]
def GoodT (p : Int) (ns : List Int) : Prop := ∃ t, ns = listT t ∧ GoodTie p t
def GoodW (p : Int) (nss : List (List Int)) : Prop := 1 ≤ p ∧ p ≤ 10 ∧ nss.length ≤ 24 ∧ ∀ ns ∈ nss, GoodT p ns
def TieS (H : Hp) (x : V) (ns : List Int) : Prop := ∃ b, x = .ref b ∧ (H b = some (.lst (intsV ns)) ∨ H b = some (.tup (intsV ns)))
def TupI (H : Hp) (x : V) (ns : List Int) : Prop := ∃ b, x = .ref b ∧ H b = some (.tup (intsV ns))
theorem TupI.tie {H : Hp} {x : V} {ns : List Int} (h : TupI H x ns) : TieS H x ns := let ⟨b, e, z⟩ := h; ⟨b, e, .inr z⟩
theorem TupI.tups {H H' : Hp} (s : Tups H H') {x : V} {ns : List Int} (h : TupI H x ns) : TupI H' x ns := let ⟨b, e, z⟩ := h; ⟨b, e, s _ _ z⟩
theorem TupI.same {H H' : Hp} (s : Same H H') {x : V} {ns : List Int} (h : TupI H x ns) : TupI H' x ns := h.tups s.tups
theorem TieS.same {H H' : Hp} (s : Same H H') {x : V} {ns : List Int} (h : TieS H x ns) : TieS H' x ns := let ⟨b, e, z⟩ := h; ⟨b, e, z.imp (s _ _) (s _ _)⟩
theorem good_of {p : Int} {x y z : Int} (h : GoodT p [x, y, z]) : GoodTie p (x, y, z) := by
  obtain ⟨⟨a, b, c⟩, e, g⟩ := h
  have e1 : x = a := (List.cons.inj e).1
  have e2 : y = b := (List.cons.inj (List.cons.inj e).2).1
  have e3 : z = c := (List.cons.inj (List.cons.inj (List.cons.inj e).2).2).1
  rw [e1, e2, e3]
  exact g
theorem good_len {p : Int} {ns : List Int} (h : GoodT p ns) : ns.length = 3 := by
  obtain ⟨t, rfl, _⟩ := h
  rfl
theorem paired_list {H : Hp} : ∀ {xs : List V} {ts : List Tie}, Paired (TupAt H) xs ts → Paired (TupI H) xs (ts.map listT)
  | _, _, .nil => .nil
  | _, _, .cons h r => .cons h (paired_list r)
end Ring

namespace L2
open PySem PySem.Spec PyProof.Rows
section
variable {prog : Program} {w : World} {A : Around} {E : Value → Shared → Prop} {s : Shared} {env : Env}
variable {nm q : Str} {C N : Addr} {bs bm : List Value} {hdct : Bool} {sn : List Str} {sub : List Value} {ab : Bool} {col : Option Bool} {dd : Option Addr} {k0 k1 k2 k3 k5 : Option Value} {newId : String}
def fromObj (C t ea : Addr) : Obj := { cls := .ref C, data := .fields #[.ref t, .none, .ref ea, .none, .bool true, .none] }
set_option maxHeartbeats 2000000 in
theorem raise_from {x c : Sem Value} {ea : Addr} {Q : Flow → Shared → Prop} (hbase : bm.contains (.type "BaseException") = true) (hh : A.handled = some (.ref ea))
    (hc : ∀ (s : Shared) (Q : Value → Shared → Prop), Q .none s → wpAny (model prog w) A c Q E s)
    (h : wpAny (model prog w) A x (fun v s1 => ∃ e t, v = .ref e ∧ ea ≠ e ∧ s1.heap.get? C = some (excClassObj nm q C N bs bm hdct sn sub ab col dd k0 k1 k2 k3 k5 newId) ∧ C ≠ e ∧ Sec ea s1.heap ∧
      s1.heap.get? e = some { cls := .ref C, data := .fields #[.ref t, .none, .none, .none, .bool false, .none] } ∧ ∀ h' : Heap, Heap.SameBut e s1.heap h' → h'.get? e = some (fromObj C t ea) → E (.ref e) { s1 with heap := h' }) E s) :
    wpAny (model prog w) A (raiseStmt env (some x) (some c)) Q E s := by
  have hcB : (Value.ref C :: bm).contains (.type "BaseException") = true := by rw [List.contains_cons, hbase, Bool.or_true]
  unfold raiseStmt
  refine wpAny_bind (wpAny_mono h (fun v s1 y => ?_) fun _ _ y => y)
  obtain ⟨e, t, rfl, ne, gC, nC, sc, ge, q⟩ := y
  refine wpAny_bind (wpAny_holding (hc _ _ (wpAny_bind (wpAny_pure ?_))))
  obtain ⟨hp, g, d, tk, os⟩ := s1
  dsimp only
  refine wpAny_bind (wpAny_holding ?_)
  repeat (first | with_reducible refine wpAny_loadPart_at ge ?_ | with_reducible refine wpAny_loadPart_at gC ?_ | (with_reducible refine wpAny_isSubtype_exc gC ?_; rw [hcB]) | wp_step)
  have g1 := Heap.get?_update_self (Obj.mapFields fun x => x.setIfInBounds 3 Value.none) ge rfl
  have g2 := Heap.get?_update_self (Obj.mapFields fun x => x.setIfInBounds 4 (Value.bool true)) g1 rfl
  have g3 := Heap.get?_update_self (Obj.mapFields fun x => x.setIfInBounds 2 (Value.ref ea)) g2 rfl
  obtain ⟨oh, hs, gh, dh, zh⟩ := sc
  refine raise_over hh ne g2 rfl (by simp) ⟨oh, hs, (Heap.get?_update_other _ _ (Ne.symm ne)).trans ((Heap.get?_update_other _ _ (Ne.symm ne)).trans gh), dh, zh⟩ ?_
  exact q _ (((Heap.SameBut.update ..).trans (Heap.SameBut.update ..)).trans (Heap.SameBut.update ..)) g3
set_option maxHeartbeats 2000000 in
theorem raise_from_call {B initId : String} {bmB : List Value} (F : ExcBaseFacts B newId initId bmB) {mN : Str → Option Value} {x : Str} {np cpos pos : Pos} {args : List Expr} {ea : Addr} {Q : Flow → Shared → Prop}
    (hbase : bm.contains (.type "BaseException") = true) (hh : A.handled = some (.ref ea)) (hplain : (backTo cpos (starEach args env)).any (·.1) = false) (hni : mN "__init__" = none) {cz : Expr} (hz : eval cz env = pure .none)
    (h : wpAny (model prog w) A (eval (.Name x np) env) (fun f s1 => f = .ref C ∧ wpAny (model prog w) A (evalArgs (.ref C) true (backTo cpos (starEach args env)) [])
      (fun a s2 => a.kw = [] ∧ a.pos.length ≤ sizeLine ∧ s2.heap.get? C = some (excClassObj nm q C N bs bm hdct sn sub ab col dd k0 k1 k2 k3 k5 newId) ∧ s2.heap.Ns N mN ∧ OwnTail s2.heap bmB bm ∧ Sec ea s2.heap ∧
        ∀ h' h3 e t, Heap.MadeExcOf s2.heap h' e (.ref C) a.pos → Heap.SameBut e h' h3 → h3.get? e = some (fromObj C t ea) → E (.ref e) { s2 with heap := h3 }) E s1) E s) :
    wpAny (model prog w) A (exec (.Raise (some (.Call (.Name x np) args [] cpos)) (some cz) pos) env) Q E s := by
  rw [arm_exec_Raise]
  refine wpAny_bind (wpAny_standAt (raise_from (C := C) (nm := nm) (q := q) (N := N) (bs := bs) (bm := bm) (hdct := hdct) (sn := sn) (sub := sub) (ab := ab) (col := col) (dd := dd) (k0 := k0) (k1 := k1) (k2 := k2) (k3 := k3) (k5 := k5) (newId := newId) hbase hh (fun s' Q' q' => ?_) ?_))
  · rw [hz]
    exact wpAny_bind (wpAny_pure (wpAny_bind (wpAny_standAt (wpAny_pure q'))))
  refine wpAny_bind (wpAny_mono (wpAny_Call_ofName (wpAny_mono h (fun f s1 y1 => ?_) fun _ _ y => y)) (fun v s3 y3 => wpAny_bind (wpAny_standAt (wpAny_pure y3))) fun _ _ y => y)
  obtain ⟨rfl, y1⟩ := y1
  unfold callWith
  refine wpAny_bind (wpAny_holding (wpAny_mono y1 (fun a s2 y2 => wpAny_bind (wpAny_standAt ?_)) fun _ _ y => y))
  obtain ⟨apos, akw⟩ := a
  obtain ⟨hkw, hlen, hC, hn, T, sc, y2⟩ := y2
  obtain rfl : akw = [] := hkw
  obtain ⟨hp, g, d, tk, os⟩ := s2
  simp only [hplain]
  refine wpAny_bind (wpAny_keeperOf_exc hC (wpAny_bind (wpAny_call_exc_subT (hrest := hlen) F T hC hn hni fun h' e mk => wpAny_bind (wpAny_holding (wpAny_point (wpAny_pure ?_))))))
  obtain ⟨t, ht, _, _⟩ := mk.there
  obtain ⟨oh, hs, gh, dh, zh⟩ := sc
  refine ⟨e, t, rfl, fun z => ?_, mk.keeps _ _ hC, fun z => ?_, ⟨oh, hs, mk.keeps _ _ gh, dh, zh⟩, ht, fun h3 sb g3 => y2 h' h3 e t mk sb g3⟩
  · have := mk.new
    rw [← z, gh] at this
    cases this
  · have := mk.new
    rw [← z, hC] at this
    cases this
end
end L2

namespace L2
open PySem PySem.Spec PyProof.Rows
section
variable {M : Model} {A : Around} {E : Value → Shared → Prop} {s : Shared} {B : Heap} {l : List Env} {L e : Addr} {cls a0 : Value} {Q : Unit → Shared → Prop} {od : Option Addr} {c : Value}
theorem hold2 {fl : Value} (hk : B.StaysIn s.heap) (hn : B.get? e = none) (hl : s.heap.FunFrames B l) (ht : s.heap.TracedAtW B e cls a0 fl) (h2 : SecD od c e s.heap)
    (q : ∀ h', Heap.HeldW B l e cls a0 L h' → SecD od c e h' → s.heap.UpToSlots h' → Q () { s with heap := h' }) : wpAny M A (setFlight (.ref e) (some L)) Q E s := by
  obtain ⟨oe, vs, T, oT, ts, ge, hc, de, f1, nT, Te, gT, dT, f3⟩ := ht
  have z3 : 3 < ts.size := (Array.getElem?_eq_some_iff.mp f3).1
  rw [setFlight]
  refine wpAny_bind (wpAny_field ge de f1 ?_)
  rw [if_pos (by simp)]
  refine wpAny_setField gT dT z3 ?_
  have up := upd_rec (Obj.mapFields (·.setIfInBounds 3 ((some L : Option Addr).elim Value.none fun f => rawInt f))) gT dT
  have ge' := (Heap.get?_update_other s.heap (Obj.mapFields (·.setIfInBounds 3 ((some L : Option Addr).elim Value.none fun f => rawInt f))) Te).trans ge
  have dT' := Obj.data_mapFields dT (·.setIfInBounds 3 ((some L : Option Addr).elim Value.none fun f => rawInt f))
  refine q _ ⟨stays_rec _ hk nT, hn, FunFrames_up hl up, oe, vs, T, _, _, ge', hc, de, f1, nT, Te, Heap.get?_update_self _ gT (Obj.isFreed_of_fields dT'), dT', by simp [z3]⟩ ?_ up
  obtain ⟨o2, v2, g2, d2, k2, z2⟩ := h2
  rw [ge] at g2
  cases g2
  exact ⟨oe, v2, ge', d2, k2, z2⟩
end
section
variable {X : Cx} {E : XK} {pins : List (Addr × Obj)} {σ : St} {H : Hp} {s : Shared}
theorem Out.noted (O : Out X E) {ea : Addr} {oe : Obj} {vs : Array Value} {a0 c : Value} {A : Around} {s2 : Shared} (hA : A.frames = X.A.frames) (J : Inv X pins σ H s2) (so : s.os = s2.os) (sg : s.gens = s2.gens) (kp : ∀ b o, s2.heap.get? b = some o → s.heap.get? b = some o) (n2 : s2.heap.get? ea = none) (I : Inv X pins σ H s) (ge : s.heap.get? ea = some oe) (de : oe.data = .fields vs) (h0 : vs[0]? = some a0) (h1 : vs[1]? = some .none) (h2 : vs[2]? = some c)
    (hn : H ea = none) (new : X.s₀.heap.get? ea = none) (q : CtxE E oe.cls oe.dict c H) : notedBy (model X.prog X.w) A X.env (cameBackBy (model X.prog X.w) X.A X.env X.xe) (.ref ea) s := by
  have hfr : A.frames = some (X.env :: X.outer) := by rw [hA, I.ok.frames, O.stk]
  have hl : s.heap.FunFrames (PySem.W.hideAll s.heap (ea :: frs X.stack)) (X.env :: X.outer) := by
    have z := PySem.W.funFrames_hide (as := ea :: frs X.stack) I.stack fun env he b hb => List.mem_cons_of_mem _ (List.mem_filterMap.mpr ⟨env, he, hb⟩)
    rw [O.stk] at z ⊢
    exact z
  show wpAny _ A (noteFrame (.ref ea) X.env) _ _ s
  rw [noteFrame]
  simp only [O.fr]
  refine wpAny_bind (wpAny_field ge de h1 ?_)
  rw [if_neg (by decide)]
  refine entry2 (a0 := a0) (B := PySem.W.hideAll s.heap (ea :: frs X.stack)) hfr hl O.fr ge (fun b o e => PySem.W.of_hideAll _ e) (PySem.W.hideAll_none _ (List.mem_cons_self ..)) de (Array.getElem?_eq_some_iff.mp h1).1 h0 h2 rfl fun h' held sc up => ?_
  obtain ⟨y1, y2, y3, y4⟩ := held
  have y5 := y4
  obtain ⟨oe9, vs9, T9, _, _, ge9, _, de9, f9, _⟩ := y5
  show wpAny _ X.A (field (.ref ea) 1 >>= _) _ _ { s with heap := h' }
  refine wpAny_bind (wpAny_field (s := { s with heap := h' }) ge9 de9 f9 ?_)
  rw [if_neg (by simp)]
  rw [O.fr]
  refine hold2 (s := { s with heap := h' }) y1 y2 y3 y4 sc fun h' held sc up2 => ?_
  have up := up.trans up2
  have un : Un X.fs [] X.H₀ H X.s₀.heap s.heap := by
    have u := I.base
    rw [O.ex] at u
    exact u
  have cov : Cov (PySem.W.hideAll s.heap (ea :: frs X.stack)) X.fs X.s₀.heap H s.heap := by
    refine Cov.outer I (h0 := X.s₀.heap) (fun b o e c n => ?_) fun b o e => ⟨o, e⟩
    refine PySem.W.hideAll_get _ e fun z => ?_
    rcases List.mem_cons.mp z with z | z
    · subst z
      rcases c with c | ⟨o', c⟩
      · exact c hn
      · rw [new] at c
        cases c
    · exact n z
  have covS : Cov (PySem.W.hideAll s.heap (ea :: frs X.stack)) (frs X.stack) s2.heap H s.heap := fun b o e c n => by
    refine PySem.W.hideAll_get _ e fun z => ?_
    rcases List.mem_cons.mp z with z | z
    · subst z
      rcases c with c | ⟨o', c⟩
      · exact c hn
      · rw [n2] at c
        cases c
    · exact n z
  obtain ⟨u2, ok2, c2⟩ := stays_un (Un.kept (fs := frs X.stack) (ex := []) (H := H) kp) I.hok I.stkFree I.frData covS held.1 up
  have I2 : Inv X pins σ H { s with heap := h' } := J.threw (s' := { s with heap := h' }) so (by show AllBare s.gens; rw [sg]; exact J.bare) u2 ok2
  obtain ⟨u3, ok3, c3⟩ := stays_un un I.hok (I.fsFree O.ex) I.fsData cov held.1 up
  rw [← O.stk] at held
  exact held_out O I2 c3 held sc hn q
end
def tTryF (K : PySem.W.Frag) (C D k : Nat) (EX : XK) (tb : XK → TS) (ta : TA) : TS := fun Dn σ H => ∃ E : XK, tb E Dn σ H ∧ ∀ cls od H', E cls od H' → PySem.W.exmOne K cls (.ref C) = some true ∧
  ∀ ea, H' ea = none → ta (List.replicate k none) (upd H' ea (ExcO ea cls)) fun vs H1 => vs.length ≤ sizeLine ∧ H1 ea = some (ExcO ea cls) ∧ EX (.int (D : Int) ea) none H1
section
variable {X : Cx}
set_option maxHeartbeats 1000000 in
theorem ps_tryF {EX : XK} {x y : Str} {C DC : Addr} {bm : List Value} {B9 newId initId : String} {body : List Stmt} {a0 cz : Expr} {es : List Expr} {np np2 cpos rpos hpos pos : Pos} {tb : XK → TS} {ta : TA} (K : PySem.W.Frag) (O9 : Out X EX)
    (hg : Gl X x) (hm : X.mg x = some (.ref C)) (hg2 : Gl X y) (OD : ∀ h, X.K.In h → h.Ns mainGlobals X.mg → OwnCls y DC bm newId X.mg h) (FB : ExcBaseFacts B9 newId initId bm) (hz : eval cz X.env = pure .none)
    (hb : ∀ E pn xe, Passes (CX1 X.prog X.w) { X with pn := pn, xe := xe } E → PSs { X with pn := pn, xe := xe } body (tb E))
    (ha : ∀ ea pn xe, PA { X with A := X.A.mark (some (.ref ea)), calm := false, pn := pn, xe := xe } (a0 :: es) ta)
    (he : starEach (a0 :: es) X.env = (false, eval a0 X.env) :: starEach es X.env := by rfl) (hpl : (backTo cpos (starEach es X.env)).any (·.1) = false := by rfl) (hd2 : (y == ("__debug__" : Str)) = false := by decide)
    (hK : X.K = K := by rfl) (hdb : (x == ("__debug__" : Str)) = false := by decide) :
    PS X (.Try body [.ExceptHandler (some (.Name x np)) none [.Raise (some (.Call (.Name y np2) (a0 :: es) [] cpos)) (some cz) rpos] hpos] [] [] pos) (tTryF K C DC X.N.length EX tb ta) := by
  have hst := O9.stk
  have hf := O9.fr
  have hexs := O9.ex
  subst hK
  intro pins s σ H D I h
  obtain ⟨E, htb, hE⟩ := h
  refine wpAny_Try_except ?_
  have hfr : X.A.frames = some (X.env :: X.outer) := by rw [I.ok.frames, hst]
  -- the body, in a context whose exceptions come here
  have I' : Inv { X with pn := X.pn ++ pins, xe := fun e s1 => ∃ pins' σ' H0 s0, Inv { X with pn := X.pn ++ pins } pins' σ' H0 s0 ∧ CX1 X.prog X.w X.stack H0 s0 E e s1 } [] σ H s :=
    I.recx (A' := X.A) (cm := X.calm) rfl I.ok.hd fun p hp => by simpa using hp
  have hpass : Passes (CX1 X.prog X.w) { X with pn := X.pn ++ pins, xe := fun e s1 => ∃ pins' σ' H0 s0, Inv { X with pn := X.pn ++ pins } pins' σ' H0 s0 ∧ CX1 X.prog X.w X.stack H0 s0 E e s1 } E := by
    intro pins' σ' H0 s0 e s1 J q
    exact ⟨pins', σ', H0, s0, J.recx (A' := X.A) (cm := X.calm) (pn' := X.pn ++ pins) rfl J.ok.hd fun p hp => hp, q⟩
  have toX : ∀ {pins' σ' H' s'}, Inv { X with pn := X.pn ++ pins } pins' σ' H' s' → Inv X pins σ' H' s' := fun {pins' σ' H' s'} J => by
    have z := J.recx (A' := X.A) (cm := X.calm) (pn' := X.pn) (pins' := pins) (xe' := X.xe) rfl J.ok.hd fun p hp => List.mem_append_left _ hp
    exact z
  have toX' : ∀ {pins' σ' H' s'} {xe' : Value → Shared → Prop}, Inv { X with pn := X.pn ++ pins, xe := xe' } pins' σ' H' s' → Inv X pins σ' H' s' := fun {pins' σ' H' s' xe'} J => by
    have z := J.recx (A' := X.A) (cm := X.calm) (pn' := X.pn) (pins' := pins) (xe' := X.xe) rfl J.ok.hd fun p hp => List.mem_append_left _ hp
    exact z
  refine wpAny_mono (hb E _ _ hpass [] s σ H D I' htb) (fun f s1 q => ?_) fun e s1 q => ?_
  · cases f with
    | next =>
      obtain ⟨σ', H', J, q⟩ := q
      exact wpAny_execs_nil ⟨σ', H', toX' J, q⟩
    | brk =>
      obtain ⟨σ', H', J, q⟩ := q
      exact ⟨σ', H', toX' J, q⟩
    | cont =>
      obtain ⟨σ', H', J, q⟩ := q
      exact ⟨σ', H', toX' J, q⟩
    | ret u =>
      obtain ⟨v, σ', H', J, r, q⟩ := q
      exact ⟨v, σ', H', toX' J, r, q⟩
  · obtain ⟨pins', σ', H0, s0, I0, ea, cls, a0, od, c, H1, B, rfl, os, bare, un, hok, hn, cov, fl, sc, qE⟩ := q
    rcases qE with ⟨rfl, _, qE⟩ | ⟨C9, e9, C8, rfl, rfl, rfl, _, qE⟩
    case inr => exact absurd (hE _ _ _ qE).1 (exm_no _ _ _ _)
    obtain ⟨hex, hth⟩ := hE cls od H1 qE
    have J1 : Inv { X with pn := X.pn ++ pins } pins' σ' H1 s1 := I0.threw os bare un hok
    have nof : ∀ b ∈ frs X.stack, H1 b = none := J1.stkFree
    have frd : ∀ {h' : Heap}, s1.heap.UpToSlots h' → ∀ b ∈ frs X.stack, ∀ ob, h'.get? b = some ob → ∀ vs, ob.data ≠ .fields vs := fun {h'} up b hb ob e vs z => by
      obtain ⟨_, o, ho, hnf⟩ := J1.stack.mem hb
      obtain ⟨sl, q⟩ := up b o ho hnf
      rw [e] at q
      cases q
      exact hnf vs z
    -- a station: the invariant again
    have at_ : ∀ {h' : Heap}, B.StaysIn h' → s1.heap.UpToSlots h' → Inv X pins σ' H1 { s1 with heap := h' } := fun {h'} hB up => by
      obtain ⟨u2, ok2, _⟩ := stays_un un hok nof (frd (Heap.UpToSlots.refl _)) cov hB up
      exact toX (I0.threw (s' := { s1 with heap := h' }) os bare u2 ok2)
    have eNo : ea ∉ frs X.stack := fun z => by
      obtain ⟨oe, vs, e, _, d, _⟩ := fl.first
      exact frd (Heap.UpToSlots.refl _) ea z oe e vs d
    have new0 : s0.heap.get? ea = none := by
      cases hz : s0.heap.get? ea with
      | none => rfl
      | some o =>
        obtain ⟨oe, vs, e, _⟩ := fl.first
        have q := cov ea oe e (.inr ⟨o, hz⟩) eNo
        rw [fl.2.1] at q
        cases q
    have fl' : Heap.FlyingW B (X.env :: X.outer) ea cls a0 s1.heap := by
      rw [hst] at fl
      exact fl
    refine note2 hfr hf fl' sc fun h4 held4 sc4 up4 => ?_
    obtain ⟨g1, g2, g3, g4⟩ := held4
    refine land2 (s := { s1 with heap := h4 }) g1 g2 g3 g4 sc4 fun h5 fl5 sc5 up5 => ?_
    have up15 := up4.trans up5
    have J5 := at_ fl5.1 up15
    have hfm : (X.A.mark (some (.ref ea))).frames = X.A.frames := rfl
    have J5' : Inv { X with A := X.A.mark (some (.ref ea)), calm := false, pn := X.pn, xe := fun _ _ => False } pins σ' H1 { s1 with heap := h5 } := J5.recx hfm (fun z => nomatch z) fun p hp => hp
    refine wpAny_handleBy_cons (codeAny_handlers_test (ld_glob J5' hg hm ?_ hdb)) (by intro q; cases q)
    obtain ⟨ob, hob, hobc⟩ := fl5.there
    have LT : PySem.W.Looks (model X.prog X.w) h5 (typeOf (.ref ea)) cls := hobc ▸ (PySem.W.Looks.ld hob).andThen .now
    refine PySem.W.Looks.here (s := { s1 with heap := h5 }) (PySem.W.exm_one (K := X.K) J5.kIn LT hex) ?_
    refine codeAny_handlers_suite ?_
    obtain ⟨k1, k2, k3, k4⟩ := fl5
    refine land2 (s := { s1 with heap := h5 }) k1 k2 k3 k4.at sc5 fun h6 fl6 sc6 up6 => ?_
    have up16 := up15.trans up6
    have J6 := at_ fl6.1 up16
    obtain ⟨oe, vs, e6, c6, d6, _⟩ := fl6.first
    have z6 : vs[2]? = some .none ∧ oe.dict = od := by
      obtain ⟨o2, v2, g2, d2, z2, y2⟩ := sc6
      rw [e6] at g2
      cases g2
      rw [d6] at d2
      cases d2
      exact ⟨z2, y2⟩
    have ne0 : ea ≠ X.env.locals := fun z => by
      obtain ⟨m, ⟨o, _, _, ho, hd, _⟩, _⟩ := J6.loc
      rw [← z] at ho
      rw [e6] at ho
      cases ho
      rw [d6] at hd
      cases hd
    have J7 : Inv X pins σ' (upd H1 ea (ExcO ea cls)) { s1 with heap := h6 } := by
      refine J6.track hn ?_ ne0 (fun y c e z => ?_) (fun p hp z => ?_) (excO_ok ⟨oe, vs, e6, c6, d6, z6.1⟩)
      · cases hz : X.s₀.heap.get? ea with
        | none => rfl
        | some o =>
          obtain ⟨o', q⟩ := I0.base.there ea o hz (show ea ∉ X.ex by rw [hexs]; simp)
          rw [new0] at q
          cases q
      · obtain ⟨v, o, ho, hd⟩ := J6.cell y c e
        rw [z, e6] at ho
        cases ho
        rw [d6] at hd
        cases hd
      · have q := (I0.pin p (List.mem_append_left _ hp)).1
        rw [z, new0] at q
        cases q
    have J8 : Inv { X with A := X.A.mark (some (.ref ea)), calm := false, pn := X.pn, xe := notedBy (model X.prog X.w) (X.A.mark (some (.ref ea))) X.env (cameBackBy (model X.prog X.w) X.A X.env X.xe) } pins (List.replicate X.N.length none) (upd H1 ea (ExcO ea cls)) { s1 with heap := h6 } := by
      have z : Inv X pins (List.replicate X.N.length none) (upd H1 ea (ExcO ea cls)) { s1 with heap := h6 } := J7.weak (by rw [List.length_replicate, J7.len]) fun j v e => by
        rw [List.getElem?_replicate] at e
        split at e <;> cases e
      exact z.recx hfm (fun z => nomatch z) fun p hp => hp
    refine wpAny_execs_cons ?_
    have OC := OD _ J7.mod.kin J7.mod.glob
    obtain ⟨tl, N, nm, q, bs, hdct, sn, sub, ab, col, dd, k0, k1, k2, k3, k5, mN, hC, hN, hni, T⟩ := OC.obj
    refine raise_from_call (C := DC) (nm := nm) (q := q) (N := N) (bs := bs) (bm := tl) (hdct := hdct) (sn := sn) (sub := sub) (ab := ab) (col := col) (dd := dd) (k0 := k0) (k1 := k1) (k2 := k2) (k3 := k3) (k5 := k5) FB (mN := mN) (ea := ea)
      (T.hasType FB.hasBase) rfl (by rw [he]; show (false || (backTo cpos (starEach es X.env)).any (·.1)) = false; rw [hpl]; rfl) hni hz (ld_glob J8 hg2 OC.bound ⟨rfl, ?_⟩ hd2)
    have hA := ha ea X.pn _ cpos pins _ _ _ _ J8 (hth ea hn)
    rw [he] at hA ⊢
    refine Calls.evalArgs_plain (wpAny_mono hA (fun us s2 ⟨vs, H2, I2, r2, z2, hx2, q2⟩ => ?_) fun _ _ y => y)
    have J9 : Inv X pins (List.replicate X.N.length none) H2 s2 := by
      have z := I2.recx (A' := X.A) (cm := X.calm) (pn' := X.pn) (pins' := pins) (xe' := X.xe) hfm.symm I.ok.hd fun p hp => hp
      exact z
    obtain ⟨⟨o9, v9, e1, _, e3, e4⟩, _⟩ := (show ObjOk X.prog X.w H2 s2.heap ea (ExcO ea cls) from J9.hok ea _ hx2)
    refine ⟨rfl, by rw [← r2.length]; exact z2, J9.bk _ _ hC, hN.keeps J9.bk, T.keeps J9.bk, ⟨o9, v9, e1, e3, e4⟩, fun h' h3 e t mk sb g3 => ?_⟩
    have kp : ∀ b o, s2.heap.get? b = some o → h3.get? b = some o := fun b o q => (sb.2 b fun z => by rw [z, mk.new] at q; cases q).trans (mk.keeps b o q)
    have I3 : Inv X pins (List.replicate X.N.length none) H2 { s2 with heap := h3 } := J9.kept (t' := s2.toks) kp
    have hn2 : H2 e = none := by
      cases hz : H2 e with
      | none => rfl
      | some z =>
        obtain ⟨ob, q⟩ := (J9.hok e z hz).thing
        rw [mk.new] at q
        cases q
    have new2 : X.s₀.heap.get? e = none := by
      cases hz : X.s₀.heap.get? e with
      | none => rfl
      | some o =>
        obtain ⟨o', q⟩ := J9.base.there e o hz (by rw [O9.ex]; simp)
        rw [mk.new] at q
        cases q
    exact O9.noted (A := X.A.mark (some (.ref ea))) (s := { s2 with heap := h3 }) hfm J9 rfl rfl kp mk.new I3 g3 rfl rfl rfl rfl hn2 new2 (.inr ⟨DC, ea, cls, rfl, rfl, rfl, hx2, q2⟩)
end
end L2

namespace L2
open PySem PySem.Spec PySem.Calls PyProof.Rows PySem.W

def ExcC (ea : Addr) (cls c : Value) : HO := .ext fun h => ∃ oe vs, h.get? ea = some oe ∧ oe.cls = cls ∧ oe.data = .fields vs ∧ vs[2]? = some c
theorem excC_ok {P : Program} {w : World} {H : Hp} {h : Heap} {ea : Addr} {cls c : Value} (q : ∃ oe vs, h.get? ea = some oe ∧ oe.cls = cls ∧ oe.data = .fields vs ∧ vs[2]? = some c) : ObjOk P w H h ea (ExcC ea cls c) :=
  ⟨q, let ⟨oe, _, e, _⟩ := q; ⟨oe, e⟩, fun h1 h2 ⟨oe, vs, e, c, d, z⟩ k => ⟨oe, vs, k oe e, c, d, z⟩⟩
def Chn (c : Value) (H : Hp) : Prop := c = .none ∨ ∃ e' C', c = .ref e' ∧ H e' = some (ExcO e' C')
theorem Chn.of {E : XK} {cls : Value} {od : Option Addr} {c : Value} {H : Hp} (q : CtxE E cls od c H) : Chn c H := q.imp (·.1) fun ⟨_, e', C', _, _, h, k, _⟩ => ⟨e', C', h, k⟩
theorem Chn.put {c : Value} {H : Hp} {a : Addr} {o : HO} (q : Chn c H) (hn : H a = none) : Chn c (upd H a o) := q.imp id fun ⟨e', C', h, k⟩ => ⟨e', C', h, by rw [upd_ne (ne_of_none k hn)]; exact k⟩
def SecC (ea : Addr) (h : Heap) : Prop := ∃ oe vs c, h.get? ea = some oe ∧ oe.data = .fields vs ∧ vs[2]? = some c ∧ (c = .none ∨ ∃ e', c = .ref e' ∧ Sec e' h)
def tTryC (K : PySem.W.Frag) (C i k : Nat) (tb : XK → TS) (th : Addr → TS) : TS := fun D σ H => ∃ E : XK, tb E D σ H ∧ ∀ D9 od c H', CtxE E (.ref D9) od c H' → PySem.W.exmOne K (.ref D9) (.ref C) = some true ∧
  ∀ ea, H' ea = none → th ea { nx := fun σ2 H2 => D.nx (σ2.set i none) H2, rt := fun _ _ => False } ((List.replicate k none).set i (some (.ref ea))) (upd H' ea (ExcC ea (.ref D9) c))
section
variable {X : Cx}
set_option maxHeartbeats 1000000 in
theorem ps_tryC {x n : Str} {i : Nat} {C : Addr} {body rest : List Stmt} {b0 : Stmt} {np hpos pos : Pos} {tb : XK → TS} {th : Addr → TS} (K : PySem.W.Frag) (hst : X.stack = X.env :: X.outer) (hf : X.env.frame = some X.env.locals) (hexs : X.ex = []) (hN : X.N.Nodup) (hi : X.N[i]? = some n)
    (hx : X.env.scope.names.lookup n = some .local) (hg : Gl X x) (hm : X.mg x = some (.ref C))
    (hb : ∀ E pn xe, Passes (CX1 X.prog X.w) { X with pn := pn, xe := xe } E → PSs { X with pn := pn, xe := xe } body (tb E))
    (hh : ∀ ea pn, PSs { X with A := X.A.mark (some (.ref ea)), calm := false, pn := pn, xe := fun _ _ => False } (b0 :: rest) (th ea)) (hK : X.K = K := by rfl) (hdb : (x == ("__debug__" : Str)) = false := by decide) :
    PS X (.Try body [.ExceptHandler (some (.Name x np)) (some n) (b0 :: rest) hpos] [] [] pos) (tTryC K C i X.N.length tb th) := by
  subst hK
  intro pins s σ H D I h
  obtain ⟨E, htb, hE⟩ := h
  refine wpAny_Try_except ?_
  have hfr : X.A.frames = some (X.env :: X.outer) := by rw [I.ok.frames, hst]
  -- the body, in a context whose exceptions come here
  have I' : Inv { X with pn := X.pn ++ pins, xe := fun e s1 => ∃ pins' σ' H0 s0, Inv { X with pn := X.pn ++ pins } pins' σ' H0 s0 ∧ CX1 X.prog X.w X.stack H0 s0 E e s1 } [] σ H s :=
    I.recx (A' := X.A) (cm := X.calm) rfl I.ok.hd fun p hp => by simpa using hp
  have hpass : Passes (CX1 X.prog X.w) { X with pn := X.pn ++ pins, xe := fun e s1 => ∃ pins' σ' H0 s0, Inv { X with pn := X.pn ++ pins } pins' σ' H0 s0 ∧ CX1 X.prog X.w X.stack H0 s0 E e s1 } E := by
    intro pins' σ' H0 s0 e s1 J q
    exact ⟨pins', σ', H0, s0, J.recx (A' := X.A) (cm := X.calm) (pn' := X.pn ++ pins) rfl J.ok.hd fun p hp => hp, q⟩
  have toX : ∀ {pins' σ' H' s'}, Inv { X with pn := X.pn ++ pins } pins' σ' H' s' → Inv X pins σ' H' s' := fun {pins' σ' H' s'} J => by
    have z := J.recx (A' := X.A) (cm := X.calm) (pn' := X.pn) (pins' := pins) (xe' := X.xe) rfl J.ok.hd fun p hp => List.mem_append_left _ hp
    exact z
  have toX' : ∀ {pins' σ' H' s'} {xe' : Value → Shared → Prop}, Inv { X with pn := X.pn ++ pins, xe := xe' } pins' σ' H' s' → Inv X pins σ' H' s' := fun {pins' σ' H' s' xe'} J => by
    have z := J.recx (A' := X.A) (cm := X.calm) (pn' := X.pn) (pins' := pins) (xe' := X.xe) rfl J.ok.hd fun p hp => List.mem_append_left _ hp
    exact z
  refine wpAny_mono (hb E _ _ hpass [] s σ H D I' htb) (fun f s1 q => ?_) fun e s1 q => ?_
  · cases f with
    | next =>
      obtain ⟨σ', H', J, q⟩ := q
      exact wpAny_execs_nil ⟨σ', H', toX' J, q⟩
    | brk =>
      obtain ⟨σ', H', J, q⟩ := q
      exact ⟨σ', H', toX' J, q⟩
    | cont =>
      obtain ⟨σ', H', J, q⟩ := q
      exact ⟨σ', H', toX' J, q⟩
    | ret u =>
      obtain ⟨v, σ', H', J, r, q⟩ := q
      exact ⟨v, σ', H', toX' J, r, q⟩
  · obtain ⟨pins', σ', H0, s0, I0, ea, cls, a0, od, c, H1, B, rfl, os, bare, un, hok, hn, cov, fl, sc, qE⟩ := q
    obtain ⟨D9, rfl⟩ : ∃ D9 : Addr, cls = .ref D9 := by
      rcases qE with ⟨_, z, _⟩ | ⟨C9, _, _, z, _⟩
      · exact z
      · exact ⟨C9, z⟩
    obtain ⟨hex, hth⟩ := hE D9 od c H1 qE
    have J1 : Inv { X with pn := X.pn ++ pins } pins' σ' H1 s1 := I0.threw os bare un hok
    have nof : ∀ b ∈ frs X.stack, H1 b = none := J1.stkFree
    have frd : ∀ {h' : Heap}, s1.heap.UpToSlots h' → ∀ b ∈ frs X.stack, ∀ ob, h'.get? b = some ob → ∀ vs, ob.data ≠ .fields vs := fun {h'} up b hb ob e vs z => by
      obtain ⟨_, o, ho, hnf⟩ := J1.stack.mem hb
      obtain ⟨sl, q⟩ := up b o ho hnf
      rw [e] at q
      cases q
      exact hnf vs z
    -- a station: the invariant again
    have at_ : ∀ {h' : Heap}, B.StaysIn h' → s1.heap.UpToSlots h' → Inv X pins σ' H1 { s1 with heap := h' } := fun {h'} hB up => by
      obtain ⟨u2, ok2, _⟩ := stays_un un hok nof (frd (Heap.UpToSlots.refl _)) cov hB up
      exact toX (I0.threw (s' := { s1 with heap := h' }) os bare u2 ok2)
    have eNo : ea ∉ frs X.stack := fun z => by
      obtain ⟨oe, vs, e, _, d, _⟩ := fl.first
      exact frd (Heap.UpToSlots.refl _) ea z oe e vs d
    have new0 : s0.heap.get? ea = none := by
      cases hz : s0.heap.get? ea with
      | none => rfl
      | some o =>
        obtain ⟨oe, vs, e, _⟩ := fl.first
        have q := cov ea oe e (.inr ⟨o, hz⟩) eNo
        rw [fl.2.1] at q
        cases q
    have fl' : Heap.FlyingW B (X.env :: X.outer) ea (.ref D9) a0 s1.heap := by
      rw [hst] at fl
      exact fl
    refine note2 hfr hf fl' sc fun h4 held4 sc4 up4 => ?_
    obtain ⟨g1, g2, g3, g4⟩ := held4
    refine land2 (s := { s1 with heap := h4 }) g1 g2 g3 g4 sc4 fun h5 fl5 sc5 up5 => ?_
    have up15 := up4.trans up5
    have J5 := at_ fl5.1 up15
    have hfm : (X.A.mark (some (.ref ea))).frames = X.A.frames := rfl
    have J5' : Inv { X with A := X.A.mark (some (.ref ea)), calm := false, pn := X.pn, xe := fun _ _ => False } pins σ' H1 { s1 with heap := h5 } := J5.recx hfm (fun z => nomatch z) fun p hp => hp
    refine wpAny_handleBy_cons (codeAny_handlers_test (ld_glob J5' hg hm ?_ hdb)) (by intro q; cases q)
    obtain ⟨ob, hob, hobc⟩ := fl5.there
    have LT : PySem.W.Looks (model X.prog X.w) h5 (typeOf (.ref ea)) (.ref D9) := hobc ▸ (PySem.W.Looks.ld hob).andThen .now
    refine PySem.W.Looks.here (s := { s1 with heap := h5 }) (PySem.W.exm_one (K := X.K) J5.kIn LT hex) ?_
    refine codeAny_handlers_suite_as ?_
    obtain ⟨k1, k2, k3, k4⟩ := fl5
    refine land2 (s := { s1 with heap := h5 }) k1 k2 k3 k4.at sc5 fun h6 fl6 sc6 up6 => ?_
    have up16 := up15.trans up6
    have J6 := at_ fl6.1 up16
    obtain ⟨oe, vs, e6, c6, d6, _⟩ := fl6.first
    have z6 : vs[2]? = some c ∧ oe.dict = od := by
      obtain ⟨o2, v2, g2, d2, z2, y2⟩ := sc6
      rw [e6] at g2
      cases g2
      rw [d6] at d2
      cases d2
      exact ⟨z2, y2⟩
    have ne0 : ea ≠ X.env.locals := fun z => by
      obtain ⟨m, ⟨o, _, _, ho, hd, _⟩, _⟩ := J6.loc
      rw [← z] at ho
      rw [e6] at ho
      cases ho
      rw [d6] at hd
      cases hd
    have J7 : Inv X pins σ' (upd H1 ea (ExcC ea (.ref D9) c)) { s1 with heap := h6 } := by
      refine J6.track hn ?_ ne0 (fun y c9 e z => ?_) (fun p hp z => ?_) (excC_ok ⟨oe, vs, e6, c6, d6, z6.1⟩)
      · cases hz : X.s₀.heap.get? ea with
        | none => rfl
        | some o =>
          obtain ⟨o', q⟩ := I0.base.there ea o hz (show ea ∉ X.ex by rw [hexs]; simp)
          rw [new0] at q
          cases q
      · obtain ⟨v, o, ho, hd⟩ := J6.cell y c9 e
        rw [z, e6] at ho
        cases ho
        rw [d6] at hd
        cases hd
      · have q := (I0.pin p (List.mem_append_left _ hp)).1
        rw [z, new0] at q
        cases q
    have J8 : Inv { X with A := X.A.mark (some (.ref ea)), calm := false, pn := X.pn, xe := fun _ _ => False } pins (List.replicate X.N.length none) (upd H1 ea (ExcC ea (.ref D9) c)) { s1 with heap := h6 } := by
      have z : Inv X pins (List.replicate X.N.length none) (upd H1 ea (ExcC ea (.ref D9) c)) { s1 with heap := h6 } := J7.weak (by rw [List.length_replicate, J7.len]) fun j v e => by
        rw [List.getElem?_replicate] at e
        split at e <;> cases e
      exact z.recx hfm (fun z => nomatch z) fun p hp => hp
    refine store_ok (X := { X with A := X.A.mark (some (.ref ea)), calm := false, pn := X.pn, xe := fun _ _ => False }) (v := .ref ea) J8 hN hi (.inl hx) rfl (fun s9 J9 => ?_) (.inr hx)
    refine wpAny_mono (hh _ _ pins s9 _ _ _ J9 (hth ea hn)) (fun f s10 q => ?_) fun _ _ z => z.elim
    cases f with
    | next =>
      obtain ⟨σ2, H2, J10, q⟩ := q
      have J11 : Inv X pins σ2 H2 s10 := by
        have z := J10.recx (A' := X.A) (cm := X.calm) (pn' := X.pn) (pins' := pins) (xe' := X.xe) hfm.symm I.ok.hd fun p hp => hp
        exact z
      exact unname_ok J11 hN hi hx fun s12 J12 => ⟨_, H2, J12, q⟩
    | brk => obtain ⟨_, _, _, q⟩ := q; exact q.elim
    | cont => obtain ⟨_, _, _, q⟩ := q; exact q.elim
    | ret u => obtain ⟨_, _, _, _, _, q⟩ := q; exact q.elim
end
section
variable {prog : Program} {w : World} {A : Around} {E : Value → Shared → Prop} {s : Shared}
theorem raise_overC {α : Type} {e ea : Addr} {oe : Obj} {vs : Array Value} {Q : α → Shared → Prop} (hh : A.handled = some (.ref ea)) (ne : ea ≠ e) (ge : s.heap.get? e = some oe) (de : oe.data = .fields vs) (hz : 2 < vs.size) (h2 : ∃ oe vs c, s.heap.get? ea = some oe ∧ oe.data = .fields vs ∧ vs[2]? = some c ∧ (c = .none ∨ ∃ e', c = .ref e' ∧ e' ≠ e ∧ Sec e' s.heap))
    (q : E (.ref e) { s with heap := s.heap.update e (Obj.mapFields (·.setIfInBounds 2 (.ref ea))) }) : wpAny (model prog w) A (raiseNew (.ref e) : Sem α) Q E s := by
  obtain ⟨oh, hs, c, gh, dh, zh, hc⟩ := h2
  rcases hc with rfl | ⟨e', rfl, n1, sc⟩
  · exact raise_over hh ne ge de hz ⟨oh, hs, gh, dh, zh⟩ q
  obtain ⟨o', v', g', d', z'⟩ := sc
  have n2 : e' ≠ ea := fun z => by
    rw [z, gh] at g'
    cases g'
    rw [dh] at d'
    cases d'
    rw [zh] at z'
    cases z'
  rw [raiseNew]
  refine wpAny_bind (wpAny_handled ?_)
  rw [hh]
  dsimp only
  rw [if_pos (by simp [ne])]
  refine wpAny_bind (wpAny_holding (wpAny_runValue (codeAny_builtin entry_unchain ?_)))
  show wpAny _ _ (field (.ref ea) 2 >>= _) _ _ s
  refine wpAny_bind (wpAny_field gh dh zh ?_)
  rw [if_neg (by simp), if_neg (by simp [n1]), if_neg (by simp [n2])]
  rw [if_neg (by decide)]
  refine wpAny_bind (wpAny_pure ?_)
  refine wpAny_pure ⟨Code.quiet_builtin _ (by decide +kernel), codeAny_builtin entry_unchain ?_⟩
  show wpAny _ _ (field (.ref e') 2 >>= _) _ _ s
  refine wpAny_bind (wpAny_field g' d' z' ?_)
  refine wpAny_bind (wpAny_pure ?_)
  refine wpAny_pure ?_
  show wpAny _ _ (setField (.ref e) 2 (.ref ea) >>= fun _ => throw (.ref e)) _ _ s
  exact wpAny_bind (wpAny_setField (s := s) (x := .ref ea) ge de hz (wpAny_throw q))
theorem range_end_overC {it ea : Addr} {x left step : Int} {Q : Option Value → Shared → Prop} (hh : A.handled = some (.ref ea)) (h2 : SecC ea s.heap) (hit : IsRangeIter s.heap it x left step) (hleft : left ≤ 0)
    (hQ : ∀ h', Heap.ExtBut it s.heap h' → Q none { s with heap := h' }) : wpAny (model prog w) A (pyNext (.ref it)) Q E s := by
  have hT : s.TypeIs (.ref it) "range_iterator" := ⟨_, hit, rfl⟩
  rw [pyNext]
  refine wpAny_bind (wpAny_attempt (wpAny_callSpecial?_slot (name := Str.ofString "__next__") hT F.slot_range_iterator_next (wpAny_call_entry F.slot_range_iterator_next hT F.entry_range_iterator_next ?_ (F.args_range_iterator_next_1 _))))
  show wpAny _ _ (field (.ref it) 0 >>= fun _ => _) _ _ s
  refine wpAny_bind (wpAny_field hit rfl (x := rawInt x) rfl ?_)
  show wpAny _ _ (field (.ref it) 1 >>= fun _ => _) _ _ s
  refine wpAny_bind (wpAny_field hit rfl (x := rawInt left) rfl ?_)
  show wpAny _ _ (field (.ref it) 2 >>= fun _ => _) _ _ s
  refine wpAny_bind (wpAny_field hit rfl (x := rawInt step) rfl ?_)
  show wpAny _ _ (if left ≤ 0 then _ else _) _ _ s
  rw [if_pos hleft]
  refine wpAny_bind (wpAny_rule (wpAny_bind ?_))
  show wpAny _ _ (newExc (.type "StopIteration") [] >>= fun _ => _) _ _ _
  refine wpAny_bind ?_
  simp only [newExc, newTuple]
  refine wpAny_bind (wpAny_newObj_type ?_ (by size_fits))
  refine wpAny_bind (m := firstArgMember _ _) (wpAny_of_eq (a := Value.none) (by first | rfl | (simp only [firstArgMember]; rfl)) (wpAny_newObj_type ?_ (by size_fits)))
  obtain ⟨oh, hs, c, gh, dh, zh, hc⟩ := h2
  have lt := Heap.lt_size gh
  refine raise_overC hh ?_ (Heap.get?_push_size _ rfl) rfl (by simp; (first | lia | omega)) ⟨oh, hs, c, Heap.get?_push_of_some _ (Heap.get?_push_of_some _ gh), dh, zh, hc.imp id fun ⟨e', h1, o', v', g', k⟩ => ⟨e', h1, (by rw [Heap.size_push]; exact Nat.ne_of_lt (Nat.lt_succ_of_lt (Heap.lt_size g'))), o', v', Heap.get?_push_of_some _ (Heap.get?_push_of_some _ g'), k⟩⟩ ?_
  · rw [Heap.size_push]
    exact Nat.ne_of_lt (Nat.lt_succ_of_lt lt)
  · have g0 := Heap.get?_push_size (s.heap.push { cls := .type "tuple", data := .seq #[] }) (o := { cls := .type "StopIteration", data := .fields (#[.ref s.heap.objs.size, .none, .none, .none, .bool false, .none] ++ ownMembersOf (.type "StopIteration") []) }) rfl
    have g1 := Heap.get?_update_self (Obj.mapFields (·.setIfInBounds 2 (.ref ea))) g0 (Obj.isFreed_of_fields (Obj.data_mapFields rfl _))
    refine wpAny_bind (wpAny_isInstance (T := "StopIteration") (b := true) ⟨_, g1, Obj.cls_mapFields _ _⟩ isSubtype_stop ?_)
    refine wpAny_pure (hQ _ fun b o hb g => ?_)
    have nb : (s.heap.push { cls := .type "tuple", data := .seq #[] }).objs.size ≠ b := by
      rw [Heap.size_push]
      exact Nat.ne_of_gt (Nat.lt_succ_of_lt (Heap.lt_size g))
    exact (Heap.get?_update_other _ _ nb).trans (Heap.get?_push_of_some _ (Heap.get?_push_of_some _ g))
end
theorem sec_of {X : Cx} {pins : List (Addr × Obj)} {σ : St} {H : Hp} {s : Shared} {ea : Addr} {C c : Value} (I : Inv X pins σ H s) (he : H ea = some (ExcC ea C c)) (hc : Chn c H) : SecC ea s.heap := by
  obtain ⟨⟨oe, vs, e1, _, e3, e4⟩, _⟩ := (show ObjOk X.prog X.w H s.heap ea (ExcC ea C c) from I.hok ea _ he)
  refine ⟨oe, vs, c, e1, e3, e4, hc.imp id fun ⟨e', C', h1, h2⟩ => ⟨e', h1, ?_⟩⟩
  obtain ⟨⟨o2, v2, g1, _, g3, g4⟩, _⟩ := (show ObjOk X.prog X.w H s.heap e' (ExcO e' C') from I.hok e' _ h2)
  exact ⟨o2, v2, g1, g3, g4⟩
def ItrC (ea : Addr) (C c : Value) (lo : Int) (n : Nat) : It := ⟨(Itr lo n).go, (Itr lo n).yld, fun i H => (Itr lo n).stop i H ∧ H ea = some (ExcC ea C c) ∧ Chn c H⟩
theorem turn_rangeC {A : Around} {P : Program} {w : World} {K : PySem.W.Frag} {tg : Expr} {ea : Addr} {C c : Value} (hh : A.handled = some (.ref ea)) (it : Addr) (lo : Int) (n : Nat) :
    TurnX A false P w K tg (ItrC ea C c lo n) [it] it (fun i h => IsRangeIter h it (lo + (i : Int) * 1) ((n : Int) - (i : Int)) 1) := by
  have T0 := turn_range (P := P) (w := w) (K := K) (tg := tg) it lo n
  refine ⟨T0.mem, T0.obj, T0.keep, ?_, ?_, T0.self⟩
  · intro X hP hw hK hA hc i pins s σ H E I hf st hg
    subst hP hw hK
    obtain ⟨f0, f1, f2, f3, f4, f5⟩ := hf it (by simp)
    have hg' : i < n := hg
    refine wpAny_pyNext_range_item st (by (first | lia | omega)) fun h' st' sb => ?_
    have I1 : Inv X pins σ H { s with heap := h', toks := s.toks + 1 } := I.turned (fun b o hb e => (sb.2 b hb).trans e) f0 f1 f3 f4 f5
    have st2 : IsRangeIter h' it (lo + ((i + 1 : Nat) : Int) * 1) ((n : Int) - ((i + 1 : Nat) : Int)) 1 := by
      rw [show lo + ((i + 1 : Nat) : Int) * 1 = lo + (i : Int) * 1 + 1 by (first | lia | omega), show (n : Int) - ((i + 1 : Nat) : Int) = (n : Int) - (i : Int) - 1 by (first | lia | omega)]
      exact st'
    refine ⟨_, rfl, go_of (s := { s with heap := h', toks := s.toks + 1 }) (n := "range_iterator") st2 rfl rfl (by decide) ⟨.int (lo + i), H, I1, ⟨s.toks, ?_⟩, ⟨rfl, rfl⟩, st2, fun b hb => (hf b hb).1⟩⟩
    rw [Int.mul_one]
  · intro X hP hw hK hA hc i pins s σ H E I hf st hg
    subst hP hw hK hA
    obtain ⟨f0, f1, f2, f3, f4, f5⟩ := hf it (by simp)
    obtain ⟨hg, he, hc⟩ := hg
    exact range_end_overC hh (sec_of I he hc) st (by have : n ≤ i := hg; (first | lia | omega)) fun h' eb => ⟨rfl, I.turned (t' := s.toks) (fun b o hb e => eb b o hb e) f0 f1 f3 f4 f5⟩
def iRngC (ea : Addr) (C c : Value) (ta : TA) : TI := fun σ H R => ta σ H fun vs H1 => ∃ j : Int, vs = [.int j] ∧ -(2 ^ 62) ≤ j ∧ j < 2 ^ 62 ∧ R (ItrC ea C c 0 j.toNat) H1
theorem pi_rangeC {X : Cx} {tg : Expr} {ea : Addr} {C c : Value} {a : Expr} {ta : TA} {p pos : Pos} (hh : X.A.handled = some (.ref ea)) (hc : X.calm = false) (hg : Gl X "range") (hm : X.mg "range" = none) (ha : PA X [a] ta) (hs : starEach [a] X.env = [(false, eval a X.env)] := by rfl) :
    PIX X tg (.Call (.Name "range" p) [a] [] pos) (iRngC ea C c ta) := by
  intro pins s σ H R I h
  refine Call_ (ld_blt I hg hm boot_range (PyProof.Rows.callWith_type1 (thn (ha pos pins s σ H _ I h) fun us s1 ⟨vs, H1, I1, r1, q1⟩ => ?_) hs rfl))
  obtain ⟨j, e, q1, q2, q⟩ := q1
  subst e
  cases r1 with
  | cons r rr =>
    cases rr
    obtain ⟨t, rfl⟩ := r
    refine call_range_1 ?_
    refine wpAny_pyIter_range (IsRange.new ..) (small_one (by (first | lia | omega)) (by (first | lia | omega)) q1 q2) ?_
    generalize hr : ({ cls := .type "range", data := .fields #[.int 0 _, .int j t, .int 1 _] } : Obj) = ro
    have I2 : Inv X pins σ H1 { s1 with heap := s1.heap.push ro, toks := s1.toks + 1 + 1 } := I1.kept fun b o e => Heap.get?_push_of_some _ e
    refine ⟨(s1.heap.push ro).objs.size, [(s1.heap.push ro).objs.size], _, _, H1, rfl, I2.kept (t' := s1.toks + 1 + 1) fun b o e => Heap.get?_push_of_some _ e, hc.symm ▸ turn_rangeC (C := C) (c := c) hh _ 0 j.toNat, ?_, fun b hb => ?_, q⟩
    · have e1 : (0 : Int) + ((0 : Nat) : Int) * 1 = 0 := by simp
      have e2 : ((j.toNat : Nat) : Int) - ((0 : Nat) : Int) = Builtin.Range.rangeSize 0 j 1 := by rw [rangeSize_one]; split <;> (first | lia | omega)
      show IsRangeIter _ _ (0 + ((0 : Nat) : Int) * 1) (((j.toNat : Nat) : Int) - ((0 : Nat) : Int)) 1
      rw [e1, e2]
      exact Heap.get?_push_size _ rfl
    · have e : b = (s1.heap.push ro).objs.size := by simpa using hb
      subst e
      exact I2.fpOk (Nat.le_refl _) (I2.hok.fresh (Nat.le_refl _))
theorem comp_rangeC {ea : Addr} {C c : Value} {m n : Nat} {g : TG} {tt : TT} {te : TE} {fr : St} {D : Addr} {Q : Hp → Prop} {H1 : Hp} {lo : Int} (Pv : Nat → List V → Hp → Prop) (h0 : Pv 0 [] H1) (hl : ∀ i acc H, i ≤ m → Pv i acc H → H D = some (.lst acc) ∧ acc.length ≤ i) (hz : m ≤ sizeLine)
    (hs : ∀ i acc H, i < m → Pv i acc H → g (.int (lo + i)) (List.replicate n none ++ fr) H fun σ2 H2 => σ2.drop n = fr ∧ tt σ2 H2 fun b H3 =>
      if b = true then te σ2 H3 fun v H4 => H4 D = some (.lst acc) ∧ Pv (i + 1) (acc ++ [v]) (upd H4 D (.lst (acc ++ [v]))) else Pv (i + 1) acc H3)
    (hd : ∀ acc H, Pv m acc H → H ea = some (ExcC ea C c) ∧ Chn c H ∧ Q H) : CompLoop (ItrC ea C c lo m) g tt te n fr D Q H1 := by
  refine ⟨fun i k acc H => k = m - i ∧ i ≤ m ∧ Pv i acc H, ⟨m, by simp, Nat.zero_le _, h0⟩, ?_⟩
  rintro i k acc H ⟨rfl, hi, p⟩
  obtain ⟨hD, ha⟩ := hl i acc H hi p
  refine ⟨hD, ?_⟩
  by_cases hlt : i < m
  · refine .inr ⟨hlt, by (first | lia | omega), Pv (i + 1), fun acc' H' p' => ⟨m - (i + 1), by (first | lia | omega), rfl, hlt, p'⟩, fun x H' y => ?_⟩
    obtain ⟨e, y⟩ := y
    subst e y
    exact hs i acc _ hlt p
  · have e : i = m := by (first | lia | omega)
    subst e
    obtain ⟨h1, h2, h3⟩ := hd acc H p
    exact .inl ⟨⟨Nat.le_refl _, h1, h2⟩, h3⟩
def rIsiC (K : Frag) : List V → Hp → VK → Prop := fun xs H Q => ∃ x c D u b cx, xs = [.ref x, c] ∧ clsV c = some u ∧ H x = some (ExcC x (.ref D) cx) ∧ ExcCls K D ∧ kitOne K (.ref D) u = some b ∧ Q (.bl b) H
theorem isiC {X : Cx} (K : Frag) (hK : X.K = K := by rfl) : CallR X (.builtin "isinstance") (rIsiC K) := by
  subst hK
  intro pins s σ H xs us Q I r h
  obtain ⟨x, c, D, u, b, cx, rfl, rc, ty, C, e, q⟩ := h
  cases r with
  | cons r1 r2 =>
    cases r2 with
    | cons r2 r3 =>
      cases r3
      cases clsV_of rc r2
      cases (show _ = Value.ref x from r1)
      obtain ⟨⟨oe, vs, e1, e2, _⟩, _⟩ := (show ObjOk X.prog X.w H s.heap x (ExcC x (.ref D) cx) from I.hok x _ ty)
      exact kia_one (kitx_exc C) I.kIn ⟨oe, e1, e2⟩ e (fun z => nomatch z) fun tk => ⟨.bl b, H, I.tok tk, rfl, q⟩
end L2

namespace L2
open PySem
theorem for_range' {lo : Int} {n : Nat} {g : TG} {tb : TS} {D : Ends} {σ : St} {H : Hp} (Pv : Nat → St → Hp → Prop) (h0 : Pv 0 σ H)
    (hs : ∀ i, let D' : Ends := { D with nx := Pv (i + 1), ct := Pv (i + 1), bk := D.nx }; ∀ σ H, i < n → Pv i σ H → g (.int (lo + i)) σ H fun σ2 H2 => tb D' σ2 H2) (hd : ∀ σ H, Pv n σ H → D.nx σ H) :
    ∃ W : Nat → Nat → St → Hp → Prop, (∃ m, W 0 m σ H) ∧ ∀ i m σ H, W i m σ H →
      ((Itr lo n).stop i H ∧ D.nx σ H) ∨ ((Itr lo n).go i H ∧ ∃ N : St → Hp → Prop, (∀ σ' H', N σ' H' → ∃ m', m' < m ∧ W (i + 1) m' σ' H') ∧ ∀ x H', (Itr lo n).yld i H x H' → g x σ H' fun σ2 H2 => tb { D with nx := N, ct := N, bk := D.nx } σ2 H2) :=
  for_range Pv h0 (fun i σ H hi p => hs i σ H hi p) hd
theorem for_list' {K : PySem.W.Frag} {a : Addr} {xs : List V} {g : TG} {tb : TS} {D : Ends} {σ : St} {H : Hp} (Pv : Nat → St → Hp → Prop) (h0 : Pv 0 σ H) (hl : ∀ i σ H, i ≤ xs.length → Pv i σ H → SqL K H a xs)
    (hs : ∀ i x, let D' : Ends := { D with nx := Pv (i + 1), ct := Pv (i + 1), bk := D.nx }; ∀ σ H, xs[i]? = some x → Pv i σ H → g x σ H fun σ2 H2 => tb D' σ2 H2) (hd : ∀ σ H, Pv xs.length σ H → D.nx σ H) :
    ∃ W : Nat → Nat → St → Hp → Prop, (∃ m, W 0 m σ H) ∧ ∀ i m σ H, W i m σ H →
      ((Itl K a).stop i H ∧ D.nx σ H) ∨ ((Itl K a).go i H ∧ ∃ N : St → Hp → Prop, (∀ σ' H', N σ' H' → ∃ m', m' < m ∧ W (i + 1) m' σ' H') ∧ ∀ x H', (Itl K a).yld i H x H' → g x σ H' fun σ2 H2 => tb { D with nx := N, ct := N, bk := D.nx } σ2 H2) :=
  for_list Pv h0 hl (fun i x σ H hi p => hs i x σ H hi p) hd
theorem bmK {X : Cx} {e : Expr} {T : String} {r : V → List V → Hp → VK → Prop} {to : TE} {t : TA} (K : PySem.W.Frag) (p : PE X e (tBM X.K T r to t)) (h : X.K = K := by rfl) : PE X e (tBM K T r to t) := by subst h; exact p
theorem bm0K {X : Cx} {e : Expr} {T : String} {r : V → List V → Hp → VK → Prop} {to : TE} (K : PySem.W.Frag) (p : PE X e (tBM0 X.K T r to)) (h : X.K = K := by rfl) : PE X e (tBM0 K T r to) := by subst h; exact p
end L2

namespace L2
open PySem
theorem ixq {K : PySem.W.Frag} {H : Hp} {a : Addr} {xs : List V} {k : Int} {v : V} {R : V → Prop} (hs : SqT K H a xs) (ha : atI xs k = some v) (q : R v) : ∃ p ys k' w, V.ref a = .ref p ∧ V.int k = .int k' ∧ SqT K H p ys ∧ atI ys k' = some w ∧ R w := ⟨a, xs, k, v, rfl, rfl, hs, ha, q⟩
theorem ixl {K : PySem.W.Frag} {H : Hp} {a : Addr} {xs : List V} {k : Int} {v : V} {R : V → Prop} (hs : SqL K H a xs) (ha : atI xs k = some v) (q : R v) : ∃ p ys k' w, V.ref a = .ref p ∧ V.int k = .int k' ∧ SqL K H p ys ∧ atI ys k' = some w ∧ R w := ⟨a, xs, k, v, rfl, rfl, hs, ha, q⟩
theorem ijq {i j : Int} {R : Int → Int → Prop} (h : R i j) : ∃ i' j', V.int i = .int i' ∧ V.int j = .int j' ∧ R i' j' := ⟨i, j, rfl, rfl, h⟩
end L2
namespace L2
open PySem
theorem lnq {K : PySem.W.Frag} {H : Hp} {a : Addr} {xs : List V} {E : Addr → Prop} {R : List V → Prop} (e : E a) (h : SqL K H a xs ∨ SqT K H a xs) (q : R xs) : ∃ p ys, E p ∧ (SqL K H p ys ∨ SqT K H p ys) ∧ R ys := ⟨a, xs, e, h, q⟩
theorem exq {α : Type} {A R : α → Prop} {x : α} (h : A x) (r : R x) : ∃ x, A x ∧ R x := ⟨x, h, r⟩
end L2

namespace L2
open PySem PySem.Spec PyProof.Rows
section
variable {P : Program} {w : World} {K : PySem.W.Frag} {mg : Str → Option Value} {base : Heap}
end
end L2

set_option Elab.async false
set_option maxRecDepth 100000
set_option maxHeartbeats 4000000
namespace K53
open PySem L2 Ring
def top (i : Nat) : Stmt := PySem.Challenge.pw_ringbase_k53_deeds_refused.main.body.getD i (.Pass ⟨0, 0, 0, 0⟩)
abbrev s_made_web : Stmt := top 19
theorem sc_made_web : FnScope ["points", "ties"] ["points", "ties"] (defScope s_made_web) := ⟨rfl, rfl, rfl, by decide +kernel, rfl, by decide +kernel, by decide +kernel⟩
theorem hd_made_web {sa0 sa1 sa2 : TS} {sc0 sc1 : TT} {D : Ends} {σ : St} {H : Hp} (h : let zz0 : TS := sa0; let zz1 : TS := sa1; let zz2 : TS := (tSeq (tIfS sc0 zz1 tNext) zz0); let zz3 : TS := sa2; (tSeq (tIfS sc1 zz3 tNext) zz2) D σ H) : (tSeq (tIfS sc1 sa2 tNext) (tSeq (tIfS sc0 sa1 tNext) sa0)) D σ H := h
abbrev s_made_tie : Stmt := top 20
theorem sc_made_tie : FnScope ["points", "tie", "end"] ["points", "tie"] (defScope s_made_tie) := ⟨rfl, rfl, rfl, by decide +kernel, rfl, by decide +kernel, by decide +kernel⟩
theorem hd_made_tie {sa0 sa1 sa2 sa3 sa4 : TS} {sc0 sc1 sc2 sc3 : TT} {si0 : TI} {sg0 : TG} {D : Ends} {σ : St} {H : Hp} (h : let zz0 : TS := sa0; let zz1 : TS := sa1; let zz2 : TS := (tSeq (tIfS sc0 zz1 tNext) zz0); let zz3 : TS := sa2; let zz4 : TS := (tSeq (tIfS sc1 zz3 tNext) zz2); let zz5 : TS := sa3; let zz6 : TS := (tIfS sc2 zz5 tNext); let zz7 : TS := (tSeq (tFor si0 sg0 zz6) zz4); let zz8 : TS := sa4; (tSeq (tIfS sc3 zz8 tNext) zz7) D σ H) : (tSeq (tIfS sc3 sa4 tNext) (tSeq (tFor si0 sg0 (tIfS sc2 sa3 tNext)) (tSeq (tIfS sc1 sa2 tNext) (tSeq (tIfS sc0 sa1 tNext) sa0)))) D σ H := h
abbrev s_law_cell : Stmt := top 24
theorem sc_law_cell : FnScope ["script", "k"] ["script", "k"] (defScope s_law_cell) := ⟨rfl, rfl, rfl, by decide +kernel, rfl, by decide +kernel, by decide +kernel⟩
theorem hd_law_cell {sa0 sa1 : TS} {sc0 : TT} {D : Ends} {σ : St} {H : Hp} (h : let zz0 : TS := sa0; let zz1 : TS := sa1; (tSeq (tIfS sc0 zz1 tNext) zz0) D σ H) : (tSeq (tIfS sc0 sa1 tNext) sa0) D σ H := h
abbrev s_law_turn : Stmt := top 25
theorem sc_law_turn : FnScope ["cell", "stir"] ["cell"] (defScope s_law_turn) := ⟨rfl, rfl, rfl, by decide +kernel, rfl, by decide +kernel, by decide +kernel⟩
theorem hd_law_turn {sa0 sa1 : TS} {D : Ends} {σ : St} {H : Hp} (h : let zz0 : TS := sa0; (tSeq sa1 zz0) D σ H) : (tSeq sa1 sa0) D σ H := h
abbrev s_law_whole : Stmt := top 26
theorem sc_law_whole : FnScope ["found"] ["found"] (defScope s_law_whole) := ⟨rfl, rfl, rfl, by decide +kernel, rfl, by decide +kernel, by decide +kernel⟩
abbrev s_law_kinds : Stmt := top 27
theorem sc_law_kinds : FnScope ["e", "found"] ["e"] (defScope s_law_kinds) := ⟨rfl, rfl, rfl, by decide +kernel, rfl, by decide +kernel, by decide +kernel⟩
theorem hd_law_kinds {sa0 sa1 sa2 sa3 sa4 : TS} {sc0 : TT} {D : Ends} {σ : St} {H : Hp} (h : let zz0 : TS := sa0; let zz1 : TS := sa1; let zz2 : TS := (tSeq (tIfS sc0 zz1 tNext) zz0); let zz3 : TS := (tSeq sa2 zz2); let zz4 : TS := (tSeq sa3 zz3); (tSeq sa4 zz4) D σ H) : (tSeq sa4 (tSeq sa3 (tSeq sa2 (tSeq (tIfS sc0 sa1 tNext) sa0)))) D σ H := h
abbrev s_law_near : Stmt := top 28
theorem sc_law_near : FnScope ["cell", "points", "number", "one", "other"] ["cell", "points"] (defScope s_law_near) := ⟨rfl, rfl, rfl, by decide +kernel, rfl, by decide +kernel, by decide +kernel⟩
theorem hd_law_near {sa0 sa1 sa2 sa3 sa4 sa5 : TS} {sc0 : TT} {D : Ends} {σ : St} {H : Hp} (h : let zz0 : TS := sa0; let zz1 : TS := (tSeq sa1 zz0); let zz2 : TS := (tSeq sa2 zz1); let zz3 : TS := (tSeq sa3 zz2); let zz4 : TS := sa4; let zz5 : TS := (tSeq (tIfS sc0 zz4 tNext) zz3); (tSeq sa5 zz5) D σ H) : (tSeq sa5 (tSeq (tIfS sc0 sa4 tNext) (tSeq sa3 (tSeq sa2 (tSeq sa1 sa0))))) D σ H := h
abbrev s_law_made : Stmt := top 29
theorem sc_law_made : FnScope ["held"] ["held"] (defScope s_law_made) := ⟨rfl, rfl, rfl, by decide +kernel, rfl, by decide +kernel, by decide +kernel⟩
abbrev s_law_can : Stmt := top 30
theorem sc_law_can : FnScope ["points", "held", "tie"] ["points", "held", "tie"] (defScope s_law_can) := ⟨rfl, rfl, rfl, by decide +kernel, rfl, by decide +kernel, by decide +kernel⟩
theorem hd_law_can {sa0 sa1 : TS} {sc0 : TT} {D : Ends} {σ : St} {H : Hp} (h : let zz0 : TS := sa0; let zz1 : TS := sa1; (tSeq (tIfS sc0 zz1 tNext) zz0) D σ H) : (tSeq (tIfS sc0 sa1 tNext) sa0) D σ H := h
abbrev s_law_shown : Stmt := top 31
theorem sc_law_shown : FnScope ["standing", "points", "held", "many", "found"] ["standing", "points", "held", "many"] (defScope s_law_shown) := ⟨rfl, rfl, rfl, by decide +kernel, rfl, by decide +kernel, by decide +kernel⟩
theorem hd_law_shown {sa0 sa1 sa2 sa3 : TS} {sc0 sc1 : TT} {D : Ends} {σ : St} {H : Hp} (h : let zz0 : TS := sa0; let zz1 : TS := sa1; let zz2 : TS := (tSeq (tIfS sc0 zz1 tNext) zz0); let zz3 : TS := (tSeq sa2 zz2); let zz4 : TS := sa3; (tSeq (tIfS sc1 zz4 tNext) zz3) D σ H) : (tSeq (tIfS sc1 sa3 tNext) (tSeq sa2 (tSeq (tIfS sc0 sa1 tNext) sa0))) D σ H := h
abbrev s_law_no_web : Stmt := top 32
theorem sc_law_no_web : FnScope ["points", "found", "e"] ["points"] (defScope s_law_no_web) := ⟨rfl, rfl, rfl, by decide +kernel, rfl, by decide +kernel, by decide +kernel⟩
theorem hd_law_no_web {sa0 sa1 sa2 : TS} {D : Ends} {σ : St} {H : Hp} (h : let zz0 : TS := sa0; let zz1 : TS := (tSeq sa1 zz0); (tSeq sa2 zz1) D σ H) : (tSeq sa2 (tSeq sa1 sa0)) D σ H := h
abbrev s_law_refused : Stmt := top 33
theorem sc_law_refused : FnScope ["standing", "deed", "found", "e"] ["standing", "deed"] (defScope s_law_refused) := ⟨rfl, rfl, rfl, by decide +kernel, rfl, by decide +kernel, by decide +kernel⟩
theorem hd_law_refused {sa0 sa1 sa2 : TS} {D : Ends} {σ : St} {H : Hp} (h : let zz0 : TS := sa0; let zz1 : TS := (tSeq sa1 zz0); (tSeq sa2 zz1) D σ H) : (tSeq sa2 (tSeq sa1 sa0)) D σ H := h
abbrev s_law_bad_deeds : Stmt := top 34
theorem sc_law_bad_deeds : FnScope ["points", "held", "fresh", "turn", "tie", "some", "length", "deeds", "gone"] ["points", "held", "fresh", "turn"] (defScope s_law_bad_deeds) := ⟨rfl, rfl, rfl, by decide +kernel, rfl, by decide +kernel, by decide +kernel⟩
theorem hd_law_bad_deeds {sa0 sa1 sa2 sa3 sa4 sa5 sa6 sa7 sa8 : TS} {sc0 sc1 : TT} {D : Ends} {σ : St} {H : Hp} (h : let zz0 : TS := sa0; let zz1 : TS := sa1; let zz2 : TS := (tSeq (tIfS sc0 zz1 tNext) zz0); let zz3 : TS := sa2; let zz4 : TS := (tSeq (tIfS sc1 zz3 tNext) zz2); let zz5 : TS := (tSeq sa3 zz4); let zz6 : TS := (tSeq sa4 zz5); let zz7 : TS := (tSeq sa5 zz6); let zz8 : TS := (tSeq sa6 zz7); let zz9 : TS := (tSeq sa7 zz8); (tSeq sa8 zz9) D σ H) : (tSeq sa8 (tSeq sa7 (tSeq sa6 (tSeq sa5 (tSeq sa4 (tSeq sa3 (tSeq (tIfS sc1 sa2 tNext) (tSeq (tIfS sc0 sa1 tNext) sa0)))))))) D σ H := h
abbrev s_law : Stmt := top 35
theorem sc_law : FnScope ["script", "points", "turn", "standing", "held", "fresh", "many", "cell", "deed", "tie", "name", "again"] ["script"] (defScope s_law) := ⟨rfl, rfl, rfl, by decide +kernel, rfl, by decide +kernel, by decide +kernel⟩
theorem hd_law {sa0 sa1 sa2 sa3 sa4 sa5 sa6 sa7 sa8 sa9 sa10 sa11 sa12 sa13 sa14 sa15 sa16 sa17 sa18 sa19 : TS} {sc0 sc1 sc2 sc3 sc4 : TT} {si0 si1 si2 : TI} {sg0 sg1 sg2 : TG} {D : Ends} {σ : St} {H : Hp} (h : let zz0 : TS := sa0; let zz1 : TS := sa1; let zz2 : TS := (tSeq (tFor si0 sg0 zz1) zz0); let zz3 : TS := sa2; let zz4 : TS := (tSeq sa3 zz3); let zz5 : TS := (tSeq sa4 zz4); let zz6 : TS := sa6; let zz7 : TS := (tSeq sa7 zz6); let zz8 : TS := (tSeq sa8 zz7); let zz9 : TS := (tSeq sa9 zz8); let zz10 : TS := (tSeq sa5 zz5); let zz11 : TS := (tIfS sc1 zz9 tNext); let zz12 : TS := (tIfS sc0 zz10 zz11); let zz13 : TS := (tSeq sa10 zz12); let zz14 : TS := sa11; let zz15 : TS := (tIfS sc2 zz14 tNext); let zz16 : TS := (tSeq (tFor si2 sg2 zz15) zz13); let zz17 : TS := (tSeq (tFor si1 sg1 zz16) zz2); let zz18 : TS := (tSeq sa12 zz17); let zz19 : TS := (tSeq sa13 zz18); let zz20 : TS := (tSeq sa14 zz19); let zz21 : TS := sa15; let zz22 : TS := (tSeq (tIfS sc3 zz21 tNext) zz20); let zz23 : TS := (tSeq sa16 zz22); let zz24 : TS := sa17; let zz25 : TS := (tSeq (tIfS sc4 zz24 tNext) zz23); let zz26 : TS := (tSeq sa18 zz25); (tSeq sa19 zz26) D σ H) : (tSeq sa19 (tSeq sa18 (tSeq (tIfS sc4 sa17 tNext) (tSeq sa16 (tSeq (tIfS sc3 sa15 tNext) (tSeq sa14 (tSeq sa13 (tSeq sa12 (tSeq (tFor si1 sg1 (tSeq (tFor si2 sg2 (tIfS sc2 sa11 tNext)) (tSeq sa10 (tIfS sc0 (tSeq sa5 (tSeq sa4 (tSeq sa3 sa2))) (tIfS sc1 (tSeq sa9 (tSeq sa8 (tSeq sa7 sa6))) tNext))))) (tSeq (tFor si0 sg0 sa1) sa0)))))))))) D σ H := h
abbrev s_Standing_init : Stmt := inClass (top 22) 0
theorem sc_Standing_init : FnScope ["self", "points"] ["self", "points"] (defScope s_Standing_init) := ⟨rfl, rfl, rfl, by decide +kernel, rfl, by decide +kernel, by decide +kernel⟩
theorem hd_Standing_init {sa0 sa1 sa2 sa3 sa4 : TS} {D : Ends} {σ : St} {H : Hp} (h : let zz0 : TS := sa0; let zz1 : TS := (tSeq sa1 zz0); let zz2 : TS := (tSeq sa2 zz1); let zz3 : TS := (tSeq sa3 zz2); (tSeq sa4 zz3) D σ H) : (tSeq sa4 (tSeq sa3 (tSeq sa2 (tSeq sa1 sa0)))) D σ H := h
abbrev s_Standing_put : Stmt := inClass (top 22) 1
theorem sc_Standing_put : FnScope ["self", "one", "other", "length", "tie", "name"] ["self", "one", "other", "length"] (defScope s_Standing_put) := ⟨rfl, rfl, rfl, by decide +kernel, rfl, by decide +kernel, by decide +kernel⟩
theorem hd_Standing_put {sa0 sa1 sa2 sa3 sa4 sa5 sa6 : TS} {D : Ends} {σ : St} {H : Hp} (h : let zz0 : TS := sa0; let zz1 : TS := (tSeq sa1 zz0); let zz2 : TS := (tSeq sa2 zz1); let zz3 : TS := (tSeq sa3 zz2); let zz4 : TS := (tSeq sa4 zz3); let zz5 : TS := (tSeq sa5 zz4); (tSeq sa6 zz5) D σ H) : (tSeq sa6 (tSeq sa5 (tSeq sa4 (tSeq sa3 (tSeq sa2 (tSeq sa1 sa0)))))) D σ H := h
abbrev s_Standing_drop : Stmt := inClass (top 22) 2
theorem sc_Standing_drop : FnScope ["self", "name"] ["self", "name"] (defScope s_Standing_drop) := ⟨rfl, rfl, rfl, by decide +kernel, rfl, by decide +kernel, by decide +kernel⟩
theorem hd_Standing_drop {sa0 sa1 : TS} {sc0 : TT} {D : Ends} {σ : St} {H : Hp} (h : let zz0 : TS := sa0; let zz1 : TS := sa1; (tSeq (tIfS sc0 zz1 tNext) zz0) D σ H) : (tSeq (tIfS sc0 sa1 tNext) sa0) D σ H := h
abbrev s_Standing_back : Stmt := inClass (top 22) 3
theorem sc_Standing_back : FnScope ["self", "deed"] ["self"] (defScope s_Standing_back) := ⟨rfl, rfl, rfl, by decide +kernel, rfl, by decide +kernel, by decide +kernel⟩
theorem hd_Standing_back {sa0 sa1 sa2 sa3 sa4 : TS} {sc0 sc1 : TT} {D : Ends} {σ : St} {H : Hp} (h : let zz0 : TS := sa0; let zz1 : TS := (tSeq sa1 zz0); let zz2 : TS := sa2; let zz3 : TS := (tIfS sc0 zz1 zz2); let zz4 : TS := (tSeq sa3 zz3); let zz5 : TS := sa4; (tSeq (tIfS sc1 zz5 tNext) zz4) D σ H) : (tSeq (tIfS sc1 sa4 tNext) (tSeq sa3 (tIfS sc0 (tSeq sa1 sa0) sa2))) D σ H := h
abbrev s_Standing_names : Stmt := inClass (top 22) 4
theorem sc_Standing_names : FnScope ["self"] ["self"] (defScope s_Standing_names) := ⟨rfl, rfl, rfl, by decide +kernel, rfl, by decide +kernel, by decide +kernel⟩
abbrev s_Standing_ties_now : Stmt := inClass (top 22) 5
theorem sc_Standing_ties_now : FnScope ["self"] ["self"] (defScope s_Standing_ties_now) := ⟨rfl, rfl, rfl, by decide +kernel, rfl, by decide +kernel, by decide +kernel⟩
abbrev s_Standing_web_now : Stmt := inClass (top 22) 6
theorem sc_Standing_web_now : FnScope ["self"] ["self"] (defScope s_Standing_web_now) := ⟨rfl, rfl, rfl, by decide +kernel, rfl, by decide +kernel, by decide +kernel⟩
abbrev s_Standing_deeds : Stmt := inClass (top 22) 9
theorem sc_Standing_deeds : FnScope ["self"] ["self"] (defScope s_Standing_deeds) := ⟨rfl, rfl, rfl, by decide +kernel, rfl, by decide +kernel, by decide +kernel⟩
set_option genInjectivity false
set_option genSizeOf false
structure Adr where
  f_made_web : Addr
  d_made_web : FuncData
  f_made_tie : Addr
  d_made_tie : FuncData
  f_law_cell : Addr
  d_law_cell : FuncData
  f_law_turn : Addr
  d_law_turn : FuncData
  f_law_whole : Addr
  d_law_whole : FuncData
  f_law_kinds : Addr
  d_law_kinds : FuncData
  f_law_near : Addr
  d_law_near : FuncData
  f_law_made : Addr
  d_law_made : FuncData
  f_law_can : Addr
  d_law_can : FuncData
  f_law_shown : Addr
  d_law_shown : FuncData
  f_law_no_web : Addr
  d_law_no_web : FuncData
  f_law_refused : Addr
  d_law_refused : FuncData
  f_law_bad_deeds : Addr
  d_law_bad_deeds : FuncData
  f_law : Addr
  d_law : FuncData
  f_Standing_init : Addr
  d_Standing_init : FuncData
  f_Standing_put : Addr
  d_Standing_put : FuncData
  f_Standing_drop : Addr
  d_Standing_drop : FuncData
  f_Standing_back : Addr
  d_Standing_back : FuncData
  f_Standing_names : Addr
  d_Standing_names : FuncData
  f_Standing_ties_now : Addr
  d_Standing_ties_now : FuncData
  f_Standing_web_now : Addr
  d_Standing_web_now : FuncData
  f_Standing_deeds : Addr
  d_Standing_deeds : FuncData
  c_RingError : Addr
  c_BadWeb : Addr
  c_BadSet : Addr
  c_BadPoint : Addr
  c_NotRing : Addr
  c_NoChord : Addr
  c_NoBase : Addr
  c_NoSuch : Addr
  c_TooMany : Addr
  c_BadRow : Addr
  c_NoDeed : Addr
  c_NotEven : Addr
  c_NoText : Addr
  c_Standing : Addr
structure Txt (K : PySem.W.Frag) (mg : Str → Option Value) (a : Adr) : Prop where
  F_made_web : Fun K "made_web" "made_web" s_made_web a.f_made_web a.d_made_web
  m_made_web : mg "made_web" = some (.ref a.f_made_web)
  b_made_web : Binds K a.d_made_web ["points", "ties"] []
  F_made_tie : Fun K "made_tie" "made_tie" s_made_tie a.f_made_tie a.d_made_tie
  m_made_tie : mg "made_tie" = some (.ref a.f_made_tie)
  b_made_tie : Binds K a.d_made_tie ["points", "tie"] []
  F_law_cell : Fun K "_law_cell" "_law_cell" s_law_cell a.f_law_cell a.d_law_cell
  m_law_cell : mg "_law_cell" = some (.ref a.f_law_cell)
  b_law_cell : Binds K a.d_law_cell ["script", "k"] []
  F_law_turn : Fun K "_law_turn" "_law_turn" s_law_turn a.f_law_turn a.d_law_turn
  m_law_turn : mg "_law_turn" = some (.ref a.f_law_turn)
  b_law_turn : Binds K a.d_law_turn ["cell"] []
  F_law_whole : Fun K "_law_whole" "_law_whole" s_law_whole a.f_law_whole a.d_law_whole
  m_law_whole : mg "_law_whole" = some (.ref a.f_law_whole)
  b_law_whole : Binds K a.d_law_whole ["found"] []
  F_law_kinds : Fun K "_law_kinds" "_law_kinds" s_law_kinds a.f_law_kinds a.d_law_kinds
  m_law_kinds : mg "_law_kinds" = some (.ref a.f_law_kinds)
  b_law_kinds : Binds K a.d_law_kinds ["e"] []
  F_law_near : Fun K "_law_near" "_law_near" s_law_near a.f_law_near a.d_law_near
  m_law_near : mg "_law_near" = some (.ref a.f_law_near)
  b_law_near : Binds K a.d_law_near ["cell", "points"] []
  F_law_made : Fun K "_law_made" "_law_made" s_law_made a.f_law_made a.d_law_made
  m_law_made : mg "_law_made" = some (.ref a.f_law_made)
  b_law_made : Binds K a.d_law_made ["held"] []
  F_law_can : Fun K "_law_can" "_law_can" s_law_can a.f_law_can a.d_law_can
  m_law_can : mg "_law_can" = some (.ref a.f_law_can)
  b_law_can : Binds K a.d_law_can ["points", "held", "tie"] []
  F_law_shown : Fun K "_law_shown" "_law_shown" s_law_shown a.f_law_shown a.d_law_shown
  m_law_shown : mg "_law_shown" = some (.ref a.f_law_shown)
  b_law_shown : Binds K a.d_law_shown ["standing", "points", "held", "many"] []
  F_law_no_web : Fun K "_law_no_web" "_law_no_web" s_law_no_web a.f_law_no_web a.d_law_no_web
  m_law_no_web : mg "_law_no_web" = some (.ref a.f_law_no_web)
  b_law_no_web : Binds K a.d_law_no_web ["points"] []
  F_law_refused : Fun K "_law_refused" "_law_refused" s_law_refused a.f_law_refused a.d_law_refused
  m_law_refused : mg "_law_refused" = some (.ref a.f_law_refused)
  b_law_refused : Binds K a.d_law_refused ["standing", "deed"] []
  F_law_bad_deeds : Fun K "_law_bad_deeds" "_law_bad_deeds" s_law_bad_deeds a.f_law_bad_deeds a.d_law_bad_deeds
  m_law_bad_deeds : mg "_law_bad_deeds" = some (.ref a.f_law_bad_deeds)
  b_law_bad_deeds : Binds K a.d_law_bad_deeds ["points", "held", "fresh", "turn"] []
  F_law : Fun K "law" "law" s_law a.f_law a.d_law
  m_law : mg "law" = some (.ref a.f_law)
  b_law : Binds K a.d_law ["script"] []
  F_Standing_init : Fun K "__init__" "Standing.__init__" s_Standing_init a.f_Standing_init a.d_Standing_init
  mk_Standing : Mk K a.c_Standing a.f_Standing_init
  b_Standing_init : Binds K a.d_Standing_init ["self", "points"] []
  F_Standing_put : Fun K "put" "Standing.put" s_Standing_put a.f_Standing_put a.d_Standing_put
  mt_Standing_put : Meth K a.c_Standing "put" a.f_Standing_put
  b_Standing_put : Binds K a.d_Standing_put ["self", "one", "other", "length"] []
  F_Standing_drop : Fun K "drop" "Standing.drop" s_Standing_drop a.f_Standing_drop a.d_Standing_drop
  mt_Standing_drop : Meth K a.c_Standing "drop" a.f_Standing_drop
  b_Standing_drop : Binds K a.d_Standing_drop ["self", "name"] []
  F_Standing_back : Fun K "back" "Standing.back" s_Standing_back a.f_Standing_back a.d_Standing_back
  mt_Standing_back : Meth K a.c_Standing "back" a.f_Standing_back
  b_Standing_back : Binds K a.d_Standing_back ["self"] []
  F_Standing_names : Fun K "names" "Standing.names" s_Standing_names a.f_Standing_names a.d_Standing_names
  mt_Standing_names : Meth K a.c_Standing "names" a.f_Standing_names
  b_Standing_names : Binds K a.d_Standing_names ["self"] []
  F_Standing_ties_now : Fun K "ties_now" "Standing.ties_now" s_Standing_ties_now a.f_Standing_ties_now a.d_Standing_ties_now
  mt_Standing_ties_now : Meth K a.c_Standing "ties_now" a.f_Standing_ties_now
  b_Standing_ties_now : Binds K a.d_Standing_ties_now ["self"] []
  F_Standing_web_now : Fun K "web_now" "Standing.web_now" s_Standing_web_now a.f_Standing_web_now a.d_Standing_web_now
  mt_Standing_web_now : Meth K a.c_Standing "web_now" a.f_Standing_web_now
  b_Standing_web_now : Binds K a.d_Standing_web_now ["self"] []
  F_Standing_deeds : Fun K "deeds" "Standing.deeds" s_Standing_deeds a.f_Standing_deeds a.d_Standing_deeds
  mt_Standing_deeds : Meth K a.c_Standing "deeds" a.f_Standing_deeds
  b_Standing_deeds : Binds K a.d_Standing_deeds ["self"] []
  n_ValueError : mg "ValueError" = none
  n_bool : mg "bool" = none
  n_int : mg "int" = none
  n_isinstance : mg "isinstance" = none
  n_len : mg "len" = none
  n_list : mg "list" = none
  n_max : mg "max" = none
  n_range : mg "range" = none
  n_sorted : mg "sorted" = none
  n_tuple : mg "tuple" = none
  g_MOST_POINTS : ∃ t, mg "MOST_POINTS" = some (.int 10 t)
  g_MOST_TIES : ∃ t, mg "MOST_TIES" = some (.int 24 t)
  g_LONGEST : ∃ t, mg "LONGEST" = some (.int 1000000000000000000000000000000 t)
  g_RingError : mg "RingError" = some (.ref a.c_RingError)
  g_BadWeb : mg "BadWeb" = some (.ref a.c_BadWeb)
  g_BadSet : mg "BadSet" = some (.ref a.c_BadSet)
  g_BadPoint : mg "BadPoint" = some (.ref a.c_BadPoint)
  g_NotRing : mg "NotRing" = some (.ref a.c_NotRing)
  g_NoChord : mg "NoChord" = some (.ref a.c_NoChord)
  g_NoBase : mg "NoBase" = some (.ref a.c_NoBase)
  g_NoSuch : mg "NoSuch" = some (.ref a.c_NoSuch)
  g_TooMany : mg "TooMany" = some (.ref a.c_TooMany)
  g_BadRow : mg "BadRow" = some (.ref a.c_BadRow)
  g_NoDeed : mg "NoDeed" = some (.ref a.c_NoDeed)
  g_NotEven : mg "NotEven" = some (.ref a.c_NotEven)
  g_NoText : mg "NoText" = some (.ref a.c_NoText)
  g_Standing : mg "Standing" = some (.ref a.c_Standing)
  cl_Standing : Cls K a.c_Standing
  na_points : NoAttr K a.c_Standing "points"
  na_standing_ties : NoAttr K a.c_Standing "standing_ties"
  na_next_name : NoAttr K a.c_Standing "next_name"
  na_done : NoAttr K a.c_Standing "done"
  x_BadWeb : ∀ h : Heap, K.In h → h.Ns mainGlobals mg → PyProof.Rows.OwnCls "BadWeb" a.c_BadWeb [.type "ValueError", .type "Exception", .type "BaseException", .type "object"] "ValueError.__new__" mg h
  e_BadWeb : ExcCls K a.c_BadWeb
  h_BadWeb : PySem.W.exmOne K (.ref a.c_BadWeb) (.ref a.c_RingError) = some true
  qV_BadWeb : PySem.W.kitOne K (.ref a.c_BadWeb) (.type "ValueError") = some true
  q_BadWeb_BadWeb : PySem.W.kitOne K (.ref a.c_BadWeb) (.ref a.c_BadWeb) = some true
  q_BadWeb_BadSet : PySem.W.kitOne K (.ref a.c_BadWeb) (.ref a.c_BadSet) = some false
  q_BadWeb_BadPoint : PySem.W.kitOne K (.ref a.c_BadWeb) (.ref a.c_BadPoint) = some false
  q_BadWeb_NotRing : PySem.W.kitOne K (.ref a.c_BadWeb) (.ref a.c_NotRing) = some false
  q_BadWeb_NoChord : PySem.W.kitOne K (.ref a.c_BadWeb) (.ref a.c_NoChord) = some false
  q_BadWeb_NoBase : PySem.W.kitOne K (.ref a.c_BadWeb) (.ref a.c_NoBase) = some false
  q_BadWeb_NoSuch : PySem.W.kitOne K (.ref a.c_BadWeb) (.ref a.c_NoSuch) = some false
  q_BadWeb_TooMany : PySem.W.kitOne K (.ref a.c_BadWeb) (.ref a.c_TooMany) = some false
  q_BadWeb_BadRow : PySem.W.kitOne K (.ref a.c_BadWeb) (.ref a.c_BadRow) = some false
  q_BadWeb_NoDeed : PySem.W.kitOne K (.ref a.c_BadWeb) (.ref a.c_NoDeed) = some false
  q_BadWeb_NotEven : PySem.W.kitOne K (.ref a.c_BadWeb) (.ref a.c_NotEven) = some false
  q_BadWeb_NoText : PySem.W.kitOne K (.ref a.c_BadWeb) (.ref a.c_NoText) = some false
  x_NoDeed : ∀ h : Heap, K.In h → h.Ns mainGlobals mg → PyProof.Rows.OwnCls "NoDeed" a.c_NoDeed [.type "ValueError", .type "Exception", .type "BaseException", .type "object"] "ValueError.__new__" mg h
  e_NoDeed : ExcCls K a.c_NoDeed
  h_NoDeed : PySem.W.exmOne K (.ref a.c_NoDeed) (.ref a.c_RingError) = some true
  qV_NoDeed : PySem.W.kitOne K (.ref a.c_NoDeed) (.type "ValueError") = some true
  q_NoDeed_BadWeb : PySem.W.kitOne K (.ref a.c_NoDeed) (.ref a.c_BadWeb) = some false
  q_NoDeed_BadSet : PySem.W.kitOne K (.ref a.c_NoDeed) (.ref a.c_BadSet) = some false
  q_NoDeed_BadPoint : PySem.W.kitOne K (.ref a.c_NoDeed) (.ref a.c_BadPoint) = some false
  q_NoDeed_NotRing : PySem.W.kitOne K (.ref a.c_NoDeed) (.ref a.c_NotRing) = some false
  q_NoDeed_NoChord : PySem.W.kitOne K (.ref a.c_NoDeed) (.ref a.c_NoChord) = some false
  q_NoDeed_NoBase : PySem.W.kitOne K (.ref a.c_NoDeed) (.ref a.c_NoBase) = some false
  q_NoDeed_NoSuch : PySem.W.kitOne K (.ref a.c_NoDeed) (.ref a.c_NoSuch) = some false
  q_NoDeed_TooMany : PySem.W.kitOne K (.ref a.c_NoDeed) (.ref a.c_TooMany) = some false
  q_NoDeed_BadRow : PySem.W.kitOne K (.ref a.c_NoDeed) (.ref a.c_BadRow) = some false
  q_NoDeed_NoDeed : PySem.W.kitOne K (.ref a.c_NoDeed) (.ref a.c_NoDeed) = some true
  q_NoDeed_NotEven : PySem.W.kitOne K (.ref a.c_NoDeed) (.ref a.c_NotEven) = some false
  q_NoDeed_NoText : PySem.W.kitOne K (.ref a.c_NoDeed) (.ref a.c_NoText) = some false
  hs_BadWeb : PySem.W.exmOne K (.ref a.c_BadWeb) (.ref a.c_BadWeb) = some true
section
variable {K : PySem.W.Frag} {mg : Str → Option Value} {a : Adr}
theorem Txt.k_made_web (T : Txt K mg a) : PySem.W.keepIn K (.ref a.f_made_web) = true := T.F_made_web.kp
theorem Txt.k_made_tie (T : Txt K mg a) : PySem.W.keepIn K (.ref a.f_made_tie) = true := T.F_made_tie.kp
theorem Txt.k_law_cell (T : Txt K mg a) : PySem.W.keepIn K (.ref a.f_law_cell) = true := T.F_law_cell.kp
theorem Txt.k_law_turn (T : Txt K mg a) : PySem.W.keepIn K (.ref a.f_law_turn) = true := T.F_law_turn.kp
theorem Txt.k_law_whole (T : Txt K mg a) : PySem.W.keepIn K (.ref a.f_law_whole) = true := T.F_law_whole.kp
theorem Txt.k_law_kinds (T : Txt K mg a) : PySem.W.keepIn K (.ref a.f_law_kinds) = true := T.F_law_kinds.kp
theorem Txt.k_law_near (T : Txt K mg a) : PySem.W.keepIn K (.ref a.f_law_near) = true := T.F_law_near.kp
theorem Txt.k_law_made (T : Txt K mg a) : PySem.W.keepIn K (.ref a.f_law_made) = true := T.F_law_made.kp
theorem Txt.k_law_can (T : Txt K mg a) : PySem.W.keepIn K (.ref a.f_law_can) = true := T.F_law_can.kp
theorem Txt.k_law_shown (T : Txt K mg a) : PySem.W.keepIn K (.ref a.f_law_shown) = true := T.F_law_shown.kp
theorem Txt.k_law_no_web (T : Txt K mg a) : PySem.W.keepIn K (.ref a.f_law_no_web) = true := T.F_law_no_web.kp
theorem Txt.k_law_refused (T : Txt K mg a) : PySem.W.keepIn K (.ref a.f_law_refused) = true := T.F_law_refused.kp
theorem Txt.k_law_bad_deeds (T : Txt K mg a) : PySem.W.keepIn K (.ref a.f_law_bad_deeds) = true := T.F_law_bad_deeds.kp
end
structure KindsOf (K : PySem.W.Frag) (a : Adr) (C : Addr) (j : Nat) : Prop where
  lt : j < 12
  e : ExcCls K C
  q0 : PySem.W.kitOne K (.ref C) (.ref a.c_BadWeb) = some (decide (0 = j))
  q1 : PySem.W.kitOne K (.ref C) (.ref a.c_BadSet) = some (decide (1 = j))
  q2 : PySem.W.kitOne K (.ref C) (.ref a.c_BadPoint) = some (decide (2 = j))
  q3 : PySem.W.kitOne K (.ref C) (.ref a.c_NotRing) = some (decide (3 = j))
  q4 : PySem.W.kitOne K (.ref C) (.ref a.c_NoChord) = some (decide (4 = j))
  q5 : PySem.W.kitOne K (.ref C) (.ref a.c_NoBase) = some (decide (5 = j))
  q6 : PySem.W.kitOne K (.ref C) (.ref a.c_NoSuch) = some (decide (6 = j))
  q7 : PySem.W.kitOne K (.ref C) (.ref a.c_TooMany) = some (decide (7 = j))
  q8 : PySem.W.kitOne K (.ref C) (.ref a.c_BadRow) = some (decide (8 = j))
  q9 : PySem.W.kitOne K (.ref C) (.ref a.c_NoDeed) = some (decide (9 = j))
  q10 : PySem.W.kitOne K (.ref C) (.ref a.c_NotEven) = some (decide (10 = j))
  q11 : PySem.W.kitOne K (.ref C) (.ref a.c_NoText) = some (decide (11 = j))
  qV : PySem.W.kitOne K (.ref C) (.type "ValueError") = some true
def sp_law_kinds (K : PySem.W.Frag) (a : Adr) (ea : Addr) : Sp := fun vs H Q _ => vs = [.ref ea] ∧ ∃ C j c, H ea = some (ExcC ea (.ref C) c) ∧ Chn c H ∧ KindsOf K a C j ∧ ∀ D H', H D = none → Same H H' → H' D = some (.lst [.int (j : Int)]) → Q (.ref D) H'
theorem filter_one {j : Nat} (h : j < 12) : (List.range 12).filter (fun k => decide (k = j)) = [j] := by
  match j, h with
  | 0, _ | 1, _ | 2, _ | 3, _ | 4, _ | 5, _ | 6, _ | 7, _ | 8, _ | 9, _ | 10, _ | 11, _ => decide
  | n + 12, h => (first | lia | omega)
theorem kinds_get {j i : Nat} (h : i < 12) : ([.bl (decide (0 = j)), .bl (decide (1 = j)), .bl (decide (2 = j)), .bl (decide (3 = j)), .bl (decide (4 = j)), .bl (decide (5 = j)), .bl (decide (6 = j)), .bl (decide (7 = j)), .bl (decide (8 = j)), .bl (decide (9 = j)), .bl (decide (10 = j)), .bl (decide (11 = j))] : List V)[i]? = some (.bl (decide (i = j))) := by
  match i, h with
  | 0, _ | 1, _ | 2, _ | 3, _ | 4, _ | 5, _ | 6, _ | 7, _ | 8, _ | 9, _ | 10, _ | 11, _ => rfl
  | n + 12, h => (first | lia | omega)
section
variable {P : Program} {w : World} {K : PySem.W.Frag} {mg : Str → Option Value} {base : Heap} {a : Adr}
theorem G_law_kinds (T : Txt K mg a) (ea : Addr) : FnH ea P w K mg base 1 a.f_law_kinds a.d_law_kinds ["e"] (sp_law_kinds K a ea) := by
  refine T.F_law_kinds.okH sc_law_kinds (fun vs H Q E h => ?_) (fun cdv A outer s H vs Q E hr h => ?_)
  · obtain ⟨rfl, _⟩ := h
    rfl
  · obtain ⟨rfl, C, j, c, hx, hcn, kk, q⟩ := h
    refine ⟨_, (pss_cons (ps_set (i := 1) sc_law_kinds.nd rfl (Or.inr rfl) (pe_lst (pa_cons (pe_callB (isiC K) (by rfl) T.n_isinstance PyProof.Rows.boot_isinstance (pa_cons (pv 0) (pa_cons (pe_cls (by rfl) T.g_BadWeb) pa_nil))) (pa_cons (pe_callB (isiC K) (by rfl) T.n_isinstance PyProof.Rows.boot_isinstance (pa_cons (pv 0) (pa_cons (pe_cls (by rfl) T.g_BadSet) pa_nil))) (pa_cons (pe_callB (isiC K) (by rfl) T.n_isinstance PyProof.Rows.boot_isinstance (pa_cons (pv 0) (pa_cons (pe_cls (by rfl) T.g_BadPoint) pa_nil))) (pa_cons (pe_callB (isiC K) (by rfl) T.n_isinstance PyProof.Rows.boot_isinstance (pa_cons (pv 0) (pa_cons (pe_cls (by rfl) T.g_NotRing) pa_nil))) pa_nil))))))
      (pss_cons (ps_set (i := 1) sc_law_kinds.nd rfl (Or.inr rfl) (pe_op (catL K) (pv 1) (pe_lst (pa_cons (pe_callB (isiC K) (by rfl) T.n_isinstance PyProof.Rows.boot_isinstance (pa_cons (pv 0) (pa_cons (pe_cls (by rfl) T.g_NoChord) pa_nil))) (pa_cons (pe_callB (isiC K) (by rfl) T.n_isinstance PyProof.Rows.boot_isinstance (pa_cons (pv 0) (pa_cons (pe_cls (by rfl) T.g_NoBase) pa_nil))) (pa_cons (pe_callB (isiC K) (by rfl) T.n_isinstance PyProof.Rows.boot_isinstance (pa_cons (pv 0) (pa_cons (pe_cls (by rfl) T.g_NoSuch) pa_nil))) (pa_cons (pe_callB (isiC K) (by rfl) T.n_isinstance PyProof.Rows.boot_isinstance (pa_cons (pv 0) (pa_cons (pe_cls (by rfl) T.g_TooMany) pa_nil))) pa_nil)))))))
      (pss_cons (ps_set (i := 1) sc_law_kinds.nd rfl (Or.inr rfl) (pe_op (catL K) (pv 1) (pe_lst (pa_cons (pe_callB (isiC K) (by rfl) T.n_isinstance PyProof.Rows.boot_isinstance (pa_cons (pv 0) (pa_cons (pe_cls (by rfl) T.g_BadRow) pa_nil))) (pa_cons (pe_callB (isiC K) (by rfl) T.n_isinstance PyProof.Rows.boot_isinstance (pa_cons (pv 0) (pa_cons (pe_cls (by rfl) T.g_NoDeed) pa_nil))) (pa_cons (pe_callB (isiC K) (by rfl) T.n_isinstance PyProof.Rows.boot_isinstance (pa_cons (pv 0) (pa_cons (pe_cls (by rfl) T.g_NotEven) pa_nil))) (pa_cons (pe_callB (isiC K) (by rfl) T.n_isinstance PyProof.Rows.boot_isinstance (pa_cons (pv 0) (pa_cons (pe_cls (by rfl) T.g_NoText) pa_nil))) pa_nil)))))))
      (pss_cons (ps_if (pt_not (pt_val (pe_callB (isiC K) (by rfl) T.n_isinstance PyProof.Rows.boot_isinstance (pa_cons (pv 0) (pa_cons (pe_ty (T := "ValueError") (by rfl) T.n_ValueError (by decide +kernel)) pa_nil))))) (pss_one (ps_ret (pe_lst pa_nil))) pss_nil)
      (pss_one (ps_ret (pe_compX (own := ["k"]) (frees := ["found"]) (js := [1]) (compText_of (defScope s_law_kinds) ["e", "found"]) (pi_rangeC (C := .ref C) (c := c) hr.hd rfl (by rfl) T.n_range (pa_cons pe_int pa_nil)) (fun _ _ _ _ => (pg_name (i := 0) (show (["k", "found"] : List Str).Nodup by decide +kernel) rfl (Or.inl rfl))) (fun _ _ _ _ => (pts_one (pt_val (pe_ix (ixL K) (pv 1) (pv 0) (fun _ _ => rfl))))) (fun _ _ _ _ => (pv 0))))))))), ?_⟩
    refine hd_law_kinds ?_
    intro zz0 zz1 zz2 zz3 zz4
    refine (exq rfl ⟨ea, _, C, _, _, c, rfl, rfl, hx, kk.e, kk.q0, _, rfl, ea, _, C, _, _, c, rfl, rfl, hx, kk.e, kk.q1, _, rfl, ea, _, C, _, _, c, rfl, rfl, hx, kk.e, kk.q2, _, rfl, ea, _, C, _, _, c, rfl, rfl, hx, kk.e, kk.q3, dl rfl, fun l1 h1 => ?_⟩)
    have s1 : Same H (upd H l1 (.lst [.bl (decide (0 = j)), .bl (decide (1 = j)), .bl (decide (2 = j)), .bl (decide (3 = j))])) := Same.new h1
    have g1 : upd H l1 (.lst [.bl (decide (0 = j)), .bl (decide (1 = j)), .bl (decide (2 = j)), .bl (decide (3 = j))]) l1 = some (.lst [.bl (decide (0 = j)), .bl (decide (1 = j)), .bl (decide (2 = j)), .bl (decide (3 = j))]) := upd_same
    generalize upd H l1 (.lst [.bl (decide (0 = j)), .bl (decide (1 = j)), .bl (decide (2 = j)), .bl (decide (3 = j))]) = H1 at s1 g1
    refine (exq rfl (exq rfl ⟨ea, _, C, _, _, c, rfl, rfl, (s1 _ _ hx), kk.e, kk.q4, _, rfl, ea, _, C, _, _, c, rfl, rfl, (s1 _ _ hx), kk.e, kk.q5, _, rfl, ea, _, C, _, _, c, rfl, rfl, (s1 _ _ hx), kk.e, kk.q6, _, rfl, ea, _, C, _, _, c, rfl, rfl, (s1 _ _ hx), kk.e, kk.q7, dl rfl, fun m2 k2 => ⟨l1, m2, _, _, rfl, rfl, SqL.of (Same.new k2 _ _ g1), SqL.of upd_same, dl rfl, fun l2 h2 => ?_⟩⟩))
    have s2 : Same H (upd (upd H1 m2 (.lst [.bl (decide (4 = j)), .bl (decide (5 = j)), .bl (decide (6 = j)), .bl (decide (7 = j))])) l2 (.lst ([.bl (decide (0 = j)), .bl (decide (1 = j)), .bl (decide (2 = j)), .bl (decide (3 = j))] ++ [.bl (decide (4 = j)), .bl (decide (5 = j)), .bl (decide (6 = j)), .bl (decide (7 = j))]))) := (s1.trans (Same.new k2)).trans (Same.new h2)
    have g2 : (upd (upd H1 m2 (.lst [.bl (decide (4 = j)), .bl (decide (5 = j)), .bl (decide (6 = j)), .bl (decide (7 = j))])) l2 (.lst ([.bl (decide (0 = j)), .bl (decide (1 = j)), .bl (decide (2 = j)), .bl (decide (3 = j))] ++ [.bl (decide (4 = j)), .bl (decide (5 = j)), .bl (decide (6 = j)), .bl (decide (7 = j))]))) l2 = some (.lst [.bl (decide (0 = j)), .bl (decide (1 = j)), .bl (decide (2 = j)), .bl (decide (3 = j)), .bl (decide (4 = j)), .bl (decide (5 = j)), .bl (decide (6 = j)), .bl (decide (7 = j))]) := upd_same
    generalize upd (upd H1 m2 (.lst [.bl (decide (4 = j)), .bl (decide (5 = j)), .bl (decide (6 = j)), .bl (decide (7 = j))])) l2 (.lst ([.bl (decide (0 = j)), .bl (decide (1 = j)), .bl (decide (2 = j)), .bl (decide (3 = j))] ++ [.bl (decide (4 = j)), .bl (decide (5 = j)), .bl (decide (6 = j)), .bl (decide (7 = j))])) = H2 at s2 g2
    refine (exq rfl (exq rfl ⟨ea, _, C, _, _, c, rfl, rfl, (s2 _ _ hx), kk.e, kk.q8, _, rfl, ea, _, C, _, _, c, rfl, rfl, (s2 _ _ hx), kk.e, kk.q9, _, rfl, ea, _, C, _, _, c, rfl, rfl, (s2 _ _ hx), kk.e, kk.q10, _, rfl, ea, _, C, _, _, c, rfl, rfl, (s2 _ _ hx), kk.e, kk.q11, dl rfl, fun m3 k3 => ⟨l2, m3, _, _, rfl, rfl, SqL.of (Same.new k3 _ _ g2), SqL.of upd_same, dl rfl, fun l3 h3 => ?_⟩⟩))
    have s3 : Same H (upd (upd H2 m3 (.lst [.bl (decide (8 = j)), .bl (decide (9 = j)), .bl (decide (10 = j)), .bl (decide (11 = j))])) l3 (.lst ([.bl (decide (0 = j)), .bl (decide (1 = j)), .bl (decide (2 = j)), .bl (decide (3 = j)), .bl (decide (4 = j)), .bl (decide (5 = j)), .bl (decide (6 = j)), .bl (decide (7 = j))] ++ [.bl (decide (8 = j)), .bl (decide (9 = j)), .bl (decide (10 = j)), .bl (decide (11 = j))]))) := (s2.trans (Same.new k3)).trans (Same.new h3)
    have g3 : (upd (upd H2 m3 (.lst [.bl (decide (8 = j)), .bl (decide (9 = j)), .bl (decide (10 = j)), .bl (decide (11 = j))])) l3 (.lst ([.bl (decide (0 = j)), .bl (decide (1 = j)), .bl (decide (2 = j)), .bl (decide (3 = j)), .bl (decide (4 = j)), .bl (decide (5 = j)), .bl (decide (6 = j)), .bl (decide (7 = j))] ++ [.bl (decide (8 = j)), .bl (decide (9 = j)), .bl (decide (10 = j)), .bl (decide (11 = j))]))) l3 = some (.lst [.bl (decide (0 = j)), .bl (decide (1 = j)), .bl (decide (2 = j)), .bl (decide (3 = j)), .bl (decide (4 = j)), .bl (decide (5 = j)), .bl (decide (6 = j)), .bl (decide (7 = j)), .bl (decide (8 = j)), .bl (decide (9 = j)), .bl (decide (10 = j)), .bl (decide (11 = j))]) := upd_same
    generalize upd (upd H2 m3 (.lst [.bl (decide (8 = j)), .bl (decide (9 = j)), .bl (decide (10 = j)), .bl (decide (11 = j))])) l3 (.lst ([.bl (decide (0 = j)), .bl (decide (1 = j)), .bl (decide (2 = j)), .bl (decide (3 = j)), .bl (decide (4 = j)), .bl (decide (5 = j)), .bl (decide (6 = j)), .bl (decide (7 = j))] ++ [.bl (decide (8 = j)), .bl (decide (9 = j)), .bl (decide (10 = j)), .bl (decide (11 = j))])) = H3 at s3 g3
    refine (exq rfl ⟨ea, _, C, _, _, c, rfl, rfl, s3 _ _ hx, kk.e, kk.qV, _, rfl, iteF ?_⟩)
    refine (exq rfl ⟨by decide, by decide, fun D hD => comp_rangeC (lo := 0) (m := 12) (Pick (fun k => decide (k = j)) H3 D) (.start hD) (fun i acc H4 _ p => p.len) (dl rfl) ?_ ?_⟩)
    · intro i acc H4 hi p
      rw [Int.zero_add]
      refine ⟨rfl, exq rfl (exq rfl (ixl (SqL.of (p.1 _ _ g3)) (atI_nat (j := i) (kinds_get hi)) (exq rfl (?_))))⟩
      cases hb : decide (i = j) with
      | true => exact (exq rfl (p.yes hD (Same.refl _) hb))
      | false => exact p.no (Same.refl _) hb
    · intro acc H4 p
      refine ⟨p.1 _ _ (s3 _ _ hx), hcn.imp id (fun ⟨e', C', h1, h2⟩ => ⟨e', C', h1, p.1 _ _ (s3 _ _ h2)⟩), q D H4 (s3.free hD) (s3.trans p.1) ?_⟩
      rw [p.2.1, p.2.2, filter_one kk.lt]
      rfl
end
section
variable {K : PySem.W.Frag} {mg : Str → Option Value} {a : Adr}
theorem kinds_BadWeb (T : Txt K mg a) : KindsOf K a a.c_BadWeb 0 := ⟨by decide, T.e_BadWeb, T.q_BadWeb_BadWeb, T.q_BadWeb_BadSet, T.q_BadWeb_BadPoint, T.q_BadWeb_NotRing, T.q_BadWeb_NoChord, T.q_BadWeb_NoBase, T.q_BadWeb_NoSuch, T.q_BadWeb_TooMany, T.q_BadWeb_BadRow, T.q_BadWeb_NoDeed, T.q_BadWeb_NotEven, T.q_BadWeb_NoText, T.qV_BadWeb⟩
theorem kinds_NoDeed (T : Txt K mg a) : KindsOf K a a.c_NoDeed 9 := ⟨by decide, T.e_NoDeed, T.q_NoDeed_BadWeb, T.q_NoDeed_BadSet, T.q_NoDeed_BadPoint, T.q_NoDeed_NotRing, T.q_NoDeed_NoChord, T.q_NoDeed_NoBase, T.q_NoDeed_NoSuch, T.q_NoDeed_TooMany, T.q_NoDeed_BadRow, T.q_NoDeed_NoDeed, T.q_NoDeed_NotEven, T.q_NoDeed_NoText, T.qV_NoDeed⟩
end

theorem iteNd {x y : V} {A B : Prop} (h : x ≠ y) (ha : A) : if (!decide (x = y)) = true then A else B := by
  rw [decide_eq_false h]
  exact iteT ha
def sp_made_tie (C : Addr) : Sp := fun vs H Q E => ∃ (p : Int) (x : V) (ns : List Int), vs = [.int p, x] ∧ TieS H x ns ∧ (GoodT p ns → ∀ b H', Same H H' → H' b = some (.tup (intsV ns)) → Q (.ref b) H') ∧ (¬ GoodT p ns → ∀ H', Same H H' → E (.ref C) none H')
def sp_made_web (C : Addr) : Sp := fun vs H Q E => ∃ (p : Int) (l : Addr) (xs : List V) (nss : List (List Int)), vs = [.int p, .ref l] ∧ (H l = some (.lst xs) ∨ H l = some (.tup xs)) ∧ Paired (TieS H) xs nss ∧
  (GoodW p nss → ∀ w b ys H', Same H H' → H' w = some (.tup [.int p, .ref b]) → H' b = some (.tup ys) → Paired (TupI H') ys nss → Q (.ref w) H') ∧ (¬ GoodW p nss → ∀ H', Same H H' → E (.ref C) none H')
section
variable {P : Program} {w : World} {K : PySem.W.Frag} {mg : Str → Option Value} {base : Heap} {a : Adr}
theorem G_made_tie (T : Txt K mg a) : FnOk P w K mg base (CX1 P w) 1 a.f_made_tie a.d_made_tie ["points", "tie"] (sp_made_tie a.c_BadWeb) := by
  refine T.F_made_tie.ok1 sc_made_tie (fun vs H Q E h => ?_) (fun cdv A outer s H vs Q E hr h => ?_)
  · obtain ⟨p, x, ns, rfl, _⟩ := h
    rfl
  · obtain ⟨p, x0, ns, rfl, ⟨b, rfl, hb⟩, k1, k2⟩ := h
    refine ⟨_, (pss_cons (ps_if (pt_cmpR op_ne (pe_callB (lenK K) (by rfl) T.n_len PySem.boot_len (pa_cons (pv 1) pa_nil)) pe_int (nomark _)) (pss_one (ps_raise out_of.thr rfl (by rfl) T.x_BadWeb PySem.F.excBase_ValueError (pa_cons pe_str pa_nil))) pss_nil)
      (pss_cons (ps_for PassesOwn.leaving rfl (piT K (pe_tup (pa_cons (pe_ix (ixS K) (pv 1) pe_int (fun _ _ => rfl)) (pa_cons (pe_ix (ixS K) (pv 1) pe_int (fun _ _ => rfl)) pa_nil)))) (pg_name (i := 2) sc_made_tie.nd rfl (Or.inl rfl))
      (pss_one (ps_if (PW.pt (pw_or (pt_cmpR op_lt (pv 2) pe_int (nomark _)) (pw_or1 (pt_cmpR op_ge (pv 2) (pv 0) (nomark _))))) (pss_one (ps_raise out_of.thr rfl (by rfl) T.x_BadWeb PySem.F.excBase_ValueError (pa_cons pe_str pa_nil))) pss_nil)))
      (pss_cons (ps_if (pt_cmpR op_eq (pe_ix (ixS K) (pv 1) pe_int (fun _ _ => rfl)) (pe_ix (ixS K) (pv 1) pe_int (fun _ _ => rfl)) (nomark _)) (pss_one (ps_raise out_of.thr rfl (by rfl) T.x_BadWeb PySem.F.excBase_ValueError (pa_cons pe_str pa_nil))) pss_nil)
      (pss_cons (ps_if (PW.pt (pw_or (pt_cmpR op_lt (pe_ix (ixS K) (pv 1) pe_int (fun _ _ => rfl)) pe_int (nomark _)) (pw_or1 (pt_cmpR op_gt (pe_ix (ixS K) (pv 1) pe_int (fun _ _ => rfl)) (pe_gint (by rfl) T.g_LONGEST) (nomark _))))) (pss_one (ps_raise out_of.thr rfl (by rfl) T.x_BadWeb PySem.F.excBase_ValueError (pa_cons pe_str pa_nil))) pss_nil)
      (pss_one (ps_ret (pe_callTy (tuplK K) (by rfl) T.n_tuple PyProof.Rows.boot_tuple (pa_cons (pv 1) pa_nil)))))))), ?_⟩
    refine hd_made_tie ?_
    intro zz0 zz1 zz2 zz3 zz4 zz5 zz6 zz7 zz8
    have hs : SqL K H b (intsV ns) ∨ SqT K H b (intsV ns) := hb.imp SqL.of SqT.of
    by_cases hl : ns.length = 3
    · obtain ⟨x, y, z, rfl⟩ := len3 ns hl
      refine (exq rfl ⟨b, _, rfl, hs, rfl, exq rfl (iteNS rfl ?_)⟩)
      refine (exq rfl (rIx_of hs (v := .int x) (atI_nat (j := 0) rfl) (exq rfl (rIx_of hs (v := .int y) (atI_nat (j := 1) rfl) ⟨(dl rfl), fun q hq => ⟨q, rfl, ⟨_, SqT.of upd_same⟩, ?_⟩⟩))))
      have sq : Same H (upd H q (.tup [.int x, .int y])) := Same.new hq
      have hs' : SqL K (upd H q (.tup [.int x, .int y])) b (intsV [x, y, z]) ∨ SqT K (upd H q (.tup [.int x, .int y])) b (intsV [x, y, z]) := hs.imp sq.seq sq.sqT
      have hb' : upd H q (.tup [.int x, .int y]) b = some (.lst (intsV [x, y, z])) ∨ upd H q (.tup [.int x, .int y]) b = some (.tup (intsV [x, y, z])) := hb.imp (sq _ _) (sq _ _)
      have hq' : upd H q (.tup [.int x, .int y]) q = some (.tup [.int x, .int y]) := upd_same
      generalize upd H q (.tup [.int x, .int y]) = H1 at sq hs' hq' hb'
      have bad : ∀ {e : Prop}, e → (GoodT p [x, y, z] → ¬ e) → E (.ref a.c_BadWeb) none H1 := fun h1 h2 => k2 (fun g => h2 g h1) _ sq
      refine for_tup (K := K) (a := q) (xs := [.int x, .int y]) (fun i σ H2 => ∃ v, σ = [some (.int p), some (.ref b), v] ∧ H2 = H1 ∧ (1 ≤ i → 0 ≤ x ∧ x < p) ∧ (2 ≤ i → 0 ≤ y ∧ y < p)) ⟨none, rfl, rfl, fun z => by (first | lia | omega), fun z => by (first | lia | omega)⟩ (fun i σ H2 _ ⟨_, _, e, _⟩ => by rw [e]; exact SqT.of hq') ?_ ?_
      · rintro i v0 σ H2 hi ⟨v, rfl, rfl, g1, g2⟩
        have hi2 : i = 0 ∨ i = 1 := by
          have := (List.getElem?_eq_some_iff.mp hi).1
          simp at this
          (first | lia | omega)
        rcases hi2 with rfl | rfl
        · cases (Option.some.inj hi)
          refine (exq rfl (ijq (exq rfl (ite2 (fun hlt => ?_) (fun hge => (exq rfl (exq rfl (ijq (exq rfl (ite2 (fun hgt => ?_) (fun hle => ?_)))))))))))
          · exact ⟨dl rfl, bad (of_decide_eq_true hlt) fun g => by have h : 0 ≤ x := (good_of g).a0; (first | lia | omega)⟩
          · exact ⟨dl rfl, bad (of_decide_eq_true hgt) fun g => by have h : x < p := (good_of g).a1; (first | lia | omega)⟩
          · have h1 : ¬ x < 0 := fun z => hge (decide_eq_true z)
            have h2 : ¬ x ≥ p := fun z => hle (decide_eq_true z)
            exact (exq rfl ⟨rfl, fun _ => by (first | lia | omega), fun z => by (first | lia | omega)⟩)
        · cases (Option.some.inj hi)
          refine (exq rfl (ijq (exq rfl (ite2 (fun hlt => ?_) (fun hge => (exq rfl (exq rfl (ijq (exq rfl (ite2 (fun hgt => ?_) (fun hle => ?_)))))))))))
          · exact ⟨dl rfl, bad (of_decide_eq_true hlt) fun g => by have h : 0 ≤ y := (good_of g).b0; (first | lia | omega)⟩
          · exact ⟨dl rfl, bad (of_decide_eq_true hgt) fun g => by have h : y < p := (good_of g).b1; (first | lia | omega)⟩
          · have h1 : ¬ y < 0 := fun z => hge (decide_eq_true z)
            have h2 : ¬ y ≥ p := fun z => hle (decide_eq_true z)
            exact (exq rfl ⟨rfl, fun _ => g1 (Nat.le_refl _), fun _ => by (first | lia | omega)⟩)
      · rintro σ H2 ⟨v, rfl, rfl, g1, g2⟩
        obtain ⟨x0, x1⟩ := g1 (by simp)
        obtain ⟨y0, y1⟩ := g2 (by simp)
        refine (exq rfl (rIx_of hs' (v := .int x) (atI_nat (j := 0) rfl) (exq rfl (rIx_of hs' (v := .int y) (atI_nat (j := 1) rfl) ⟨rfl, exq rfl (ite2 (fun he => ?_) (fun hne => ?_))⟩))))
        · exact ⟨dl rfl, bad (V.int.inj (of_decide_eq_true he)) fun g z => (good_of g).ne z⟩
        have hxy : x ≠ y := fun z => hne (decide_eq_true (congrArg V.int z))
        refine (exq rfl (rIx_of hs' (v := .int z) (atI_nat (j := 2) rfl) (ijq (exq rfl (ite2 (fun hlt => ?_) (fun hge => (exq rfl (rIx_of hs' (v := .int z) (atI_nat (j := 2) rfl) (ijq (exq rfl (ite2 (fun hgt => ?_) (fun hle => ?_))))))))))))
        · exact ⟨dl rfl, bad (of_decide_eq_true hlt) fun g => by have h : 1 ≤ z := (good_of g).l0; (first | lia | omega)⟩
        · exact ⟨dl rfl, bad (of_decide_eq_true hgt) fun g => by have h : z ≤ 1000000000000000000000000000000 := (good_of g).l1; (first | lia | omega)⟩
        have h1 : ¬ z < 1 := fun w => hge (decide_eq_true w)
        have h2 : ¬ z > 1000000000000000000000000000000 := fun w => hle (decide_eq_true w)
        have good : GoodT p [x, y, z] := ⟨(x, y, z), rfl, x0, x1, y0, y1, hxy, by show 1 ≤ z; (first | lia | omega), by show z ≤ _; (first | lia | omega)⟩
        rcases hb' with hb' | hb'
        · exact (exq rfl ⟨b, _, rfl, .inl ⟨SqL.of hb', fun l hl => k1 good l _ (sq.trans (Same.new hl)) upd_same⟩⟩)
        · exact (exq rfl ⟨b, _, rfl, .inr ⟨SqT.of hb', k1 good b _ sq hb'⟩⟩)
    · refine (exq rfl ⟨b, _, rfl, hs, rfl, exq rfl (iteNd (fun z => hl ?_) ⟨dl rfl, k2 (fun g => hl (good_len g)) _ (Same.refl _)⟩)⟩)
      have := V.int.inj z
      rw [intsV_len] at this
      (first | lia | omega)
theorem G_made_web (T : Txt K mg a) : FnOk P w K mg base (CX1 P w) 2 a.f_made_web a.d_made_web ["points", "ties"] (sp_made_web a.c_BadWeb) := by
  have G_made_tie : FnOk P w K mg base (CX1 P w) 1 a.f_made_tie a.d_made_tie ["points", "tie"] (sp_made_tie a.c_BadWeb) := G_made_tie T
  refine T.F_made_web.ok1 sc_made_web (fun vs H Q E h => ?_) (fun cdv A outer s H vs Q E hr h => ?_)
  · obtain ⟨p, l, xs, nss, rfl, _⟩ := h
    rfl
  · obtain ⟨p, l, xs, nss, rfl, hl, hp, k1, k2⟩ := h
    refine ⟨_, (pss_cons (ps_if (PW.pt (pw_or (pt_cmpR op_lt (pv 0) pe_int (nomark _)) (pw_or1 (pt_cmpR op_gt (pv 0) (pe_gint (by rfl) T.g_MOST_POINTS) (nomark _))))) (pss_one (ps_raise out_of.thr rfl (by rfl) T.x_BadWeb PySem.F.excBase_ValueError (pa_cons pe_str pa_nil))) pss_nil)
      (pss_cons (ps_if (pt_cmpR op_gt (pe_callB (lenK K) (by rfl) T.n_len PySem.boot_len (pa_cons (pv 1) pa_nil)) (pe_gint (by rfl) T.g_MOST_TIES) (nomark _)) (pss_one (ps_raise out_of.thr rfl (by rfl) T.x_BadWeb PySem.F.excBase_ValueError (pa_cons pe_str pa_nil))) pss_nil)
      (pss_one (ps_ret (pe_tup (pa_cons (pv 0) (pa_cons (pe_callTy (tuplK K) (by rfl) T.n_tuple PyProof.Rows.boot_tuple (pa_cons (pe_compE out_of (own := ["tie"]) (frees := ["points"]) (js := [0]) (compText_of (defScope s_made_web) ["points", "ties"]) rfl (piS K (pv 1)) (fun _ _ _ _ => (pg_name (i := 0) (show (["tie", "points"] : List Str).Nodup by decide +kernel) rfl (Or.inl rfl))) (fun _ _ _ _ => pts_nil) (fun _ _ _ _ => (pe_call G_made_tie (hr.mono (by decide)) (by rfl) T.m_made_tie T.k_made_tie T.b_made_tie .nil passB (pa_cons (pv 1) (pa_cons (pv 0) pa_nil))))) pa_nil)) pa_nil))))))), ?_⟩
    refine hd_made_web ?_
    intro zz0 zz1 zz2 zz3
    have hs : SqL K H l xs ∨ SqT K H l xs := hl.imp SqL.of SqT.of
    have hlen := hp.length
    have bad : ∀ {e : Prop}, e → (GoodW p nss → ¬ e) → ∀ H', Same H H' → E (.ref a.c_BadWeb) none H' := fun h1 h2 H' s' => k2 (fun g => h2 g h1) H' s'
    refine (exq rfl (ijq (exq rfl (ite2 (fun hlt => ?_) (fun hge => (exq rfl (ijq (exq rfl (ite2 (fun hgt => ?_) (fun hle => ?_))))))))))
    · exact ⟨dl rfl, bad (of_decide_eq_true hlt) (fun g => by have := g.1; (first | lia | omega)) _ (Same.refl _)⟩
    · exact ⟨dl rfl, bad (of_decide_eq_true hgt) (fun g => by have := g.2.1; (first | lia | omega)) _ (Same.refl _)⟩
    have p1 : ¬ p < 1 := fun z => hge (decide_eq_true z)
    have p2 : ¬ p > 10 := fun z => hle (decide_eq_true z)
    refine (exq rfl ⟨l, xs, rfl, hs, _, _, rfl, rfl, exq rfl (ite2 (fun hgt => ?_) (fun hle => ?_))⟩)
    · exact ⟨dl rfl, bad (of_decide_eq_true hgt) (fun g => by have := g.2.2.1; (first | lia | omega)) _ (Same.refl _)⟩
    have p3 : ¬ ((xs.length : Nat) : Int) > 24 := fun z => hle (decide_eq_true z)
    refine (exq rfl (?_))
    have start : ∀ D, H D = none → ((fun (i : Nat) (acc : List V) (H2 : Hp) => Same H H2 ∧ H2 D = some (.lst acc) ∧ Paired (TupI H2) acc (nss.take i) ∧ acc.length = i ∧ ∀ ns ∈ nss.take i, GoodT p ns) 0 [] (upd H D (.lst []))) := fun D hD => ⟨Same.new hD, upd_same, by rw [List.take_zero]; exact .nil, rfl, fun ns hn => by rw [List.take_zero] at hn; cases hn⟩
    have turn : ∀ (D : Addr), H D = none → ∀ (i : Nat) (x : V) (acc : List V) (H2 : Hp), xs[i]? = some x → (Same H H2 ∧ H2 D = some (.lst acc) ∧ Paired (TupI H2) acc (nss.take i) ∧ acc.length = i ∧ ∀ ns ∈ nss.take i, GoodT p ns) →
        sp_made_tie a.c_BadWeb [.int p, x] H2 (fun v H4 => H4 D = some (.lst acc) ∧ (Same H (upd H4 D (.lst (acc ++ [v]))) ∧ upd H4 D (.lst (acc ++ [v])) D = some (.lst (acc ++ [v])) ∧ Paired (TupI (upd H4 D (.lst (acc ++ [v])))) (acc ++ [v]) (nss.take (i + 1)) ∧ (acc ++ [v]).length = i + 1 ∧ ∀ ns ∈ nss.take (i + 1), GoodT p ns)) E := by
      rintro D hD i x acc H2 hx ⟨s2, hd, pr, hac, gd⟩
      obtain ⟨ns, hns, hxt⟩ := Paired.getP hp hx
      refine ⟨p, x, ns, rfl, hxt.same s2, fun g b H4 s4 hb => ?_, fun ng H4 s4 => k2 (fun g => ng (g.2.2.2 ns (List.mem_of_getElem? hns))) _ (s2.trans s4)⟩
      have hd4 : H4 D = some (.lst acc) := s4 _ _ hd
      refine ⟨hd4, (s2.trans s4).put hD, upd_same, ?_, by rw [List.length_append, List.length_singleton, hac], fun m hm => ?_⟩
      · rw [List.take_add_one, hns]
        exact Paired.snoc (Paired.imp' (fun _ _ z => z.tups (s4.tups.trans (Tups.put hd4))) pr) ⟨b, rfl, Tups.put hd4 _ _ hb⟩
      · rw [List.take_add_one, hns] at hm
        rcases List.mem_append.mp hm with z | z
        · exact gd m z
        · have z : m = ns := by simpa using z
          rw [z]
          exact g
    have fin : ∀ (D : Addr) (acc : List V) (H2 : Hp), H D = none → (Same H H2 ∧ H2 D = some (.lst acc) ∧ Paired (TupI H2) acc (nss.take xs.length) ∧ acc.length = xs.length ∧ ∀ ns ∈ nss.take xs.length, GoodT p ns) →
        ∀ l', H2 l' = none → ([V.int p, .ref l'] : List V).length ≤ sizeLine ∧ ∀ w', upd H2 l' (.tup acc) w' = none → Q (.ref w') (upd (upd H2 l' (.tup acc)) w' (.tup [.int p, .ref l'])) := by
      rintro D acc H2 hD ⟨s2, hd, pr, hac, gd⟩ l' hl'
      refine ⟨dl rfl, fun w' hw => ?_⟩
      have n1 : Same H2 (upd H2 l' (.tup acc)) := Same.new hl'
      have n2 := n1.trans (Same.new (o := .tup [.int p, .ref l']) hw)
      rw [hlen, List.take_length] at pr gd
      refine k1 ⟨by (first | lia | omega), by (first | lia | omega), by (first | lia | omega), gd⟩ w' l' acc _ (s2.trans n2) upd_same ?_ (Paired.imp' (fun _ _ z => z.same n2) pr)
      rw [upd_ne (ne_of_none upd_same hw), upd_same]
    rcases hl with hl | hl
    · refine .inl (exq rfl ⟨l, rfl, ⟨xs, SqL.of hl⟩, fun D hD => comp_list (xs := xs) (fun i acc H2 => Same H H2 ∧ H2 D = some (.lst acc) ∧ Paired (TupI H2) acc (nss.take i) ∧ acc.length = i ∧ ∀ ns ∈ nss.take i, GoodT p ns) (start D hD) ?_ (small24 (by (first | lia | omega))) ?_ ?_⟩)
      · rintro i acc H2 _ ⟨s2, hd, pr, hac, _⟩
        exact ⟨SqL.of (s2 _ _ hl), hd, Nat.le_of_eq hac⟩
      · intro i x acc H2 hx hv
        exact ⟨rfl, exq rfl (exq rfl (turn D hD i x acc H2 hx hv))⟩
      · intro acc H2 hv
        exact ⟨D, acc, rfl, .inl ⟨SqL.of hv.2.1, fin D acc H2 hD hv⟩⟩
    · refine .inr (exq rfl ⟨l, rfl, ⟨xs, SqT.of hl⟩, fun D hD => comp_tup (xs := xs) (fun i acc H2 => Same H H2 ∧ H2 D = some (.lst acc) ∧ Paired (TupI H2) acc (nss.take i) ∧ acc.length = i ∧ ∀ ns ∈ nss.take i, GoodT p ns) (start D hD) ?_ (small24 (by (first | lia | omega))) ?_ ?_⟩)
      · rintro i acc H2 _ ⟨s2, hd, pr, hac, _⟩
        exact ⟨SqT.of (s2 _ _ hl), hd, Nat.le_of_eq hac⟩
      · intro i x acc H2 hx hv
        exact ⟨rfl, exq rfl (exq rfl (turn D hD i x acc H2 hx hv))⟩
      · intro acc H2 hv
        exact ⟨D, acc, rfl, .inl ⟨SqL.of hv.2.1, fin D acc H2 hD hv⟩⟩
end

theorem paired_unl {H : Hp} : ∀ {xs : List V} {ts : List Tie}, Paired (TupI H) xs (ts.map listT) → Paired (TupAt H) xs ts
  | _, [], .nil => .nil
  | _, _ :: _, .cons h r => .cons h (paired_unl r)
theorem goodW_of {p : Nat} {ts : List Tie} (g : GoodWeb p ts) : GoodW (p : Int) (ts.map listT) :=
  ⟨by have := g.p1; (first | lia | omega), by have := g.p2; (first | lia | omega), by rw [List.length_map]; exact g.len, fun ns hn => by obtain ⟨t, ht, rfl⟩ := List.mem_map.mp hn; exact ⟨t, rfl, g.ties t ht⟩⟩
theorem goodW_put {p : Nat} {m : Held} {t : Tie} (g : GoodW (p : Int) ((m.map (·.2) ++ [t]).map listT)) : GoodTie (p : Int) t ∧ m.length < 24 := by
  obtain ⟨_, _, h3, h4⟩ := g
  rw [List.length_map, List.length_append, List.length_map, List.length_singleton] at h3
  refine ⟨?_, by (first | lia | omega)⟩
  have z := h4 (listT t) (List.mem_map_of_mem (List.mem_append_right _ List.mem_cons_self))
  exact good_of z
theorem val_outI {x : Int} : ∀ {es : List Ent}, (∀ e ∈ es, ((e.1 : Nat) : Int) ≠ x) → valV (es.map entV) (Sum.inl x) = none
  | [], _ => rfl
  | e :: r, h => by
    rw [List.map_cons, valV_neg (show ¬ (entV e).1 = Sum.inl x from fun q => h e List.mem_cons_self (Sum.inl.inj q))]
    exact val_outI fun z hz => h z (List.mem_cons_of_mem _ hz)
theorem dict_noneI {H : Hp} {a : Addr} {m : Held} {x : Int} (h : DictIs H a m) (hn : ∀ e ∈ m, ((e.1 : Nat) : Int) ≠ x) : ∃ kvs, H a = some (.dK kvs) ∧ valV kvs (Sum.inl x) = none := by
  obtain ⟨es, h1, h2, h3⟩ := h
  exact ⟨_, h1, val_outI fun e he => hn (entP e) (h2.mem_iff.mp (List.mem_map_of_mem he))⟩
def spS_init (C X : Addr) : Sp := fun vs H Q E => ∃ (p dx : Addr) (z : Int), vs = [.ref p, .int z] ∧ H p = some (.ins C dx []) ∧
  (∀ n : Nat, z = (n : Int) → 1 ≤ n → n ≤ 10 → ∀ d q H', H d = none → H q = none → StAt C H' p d q n [(0, [])] [] → (∀ b o, H b = some o → b ≠ p → H' b = some o) → Q .non H') ∧
  (¬ (1 ≤ z ∧ z ≤ 10) → ∀ H', Same H H' → E (.ref X) none H')
def spS_names (C : Addr) : Sp := fun vs H Q _ => ∃ (p d q : Addr) (n f : Nat) (m : Held) (hs : List (Nat × Held)) (ds : List Deed), vs = [.ref p] ∧ StAt C H p d q n ((f, m) :: hs) ds ∧
  ∀ l, H l = none → Q (.ref l) (upd H l (.lst (natsV (m.map (·.1)))))
def spS_ties_now (C : Addr) : Sp := fun vs H Q _ => ∃ (p d q : Addr) (n f : Nat) (m : Held) (hs : List (Nat × Held)) (ds : List Deed), vs = [.ref p] ∧ StAt C H p d q n ((f, m) :: hs) ds ∧
  ∀ l xs H', H l = none → Same H H' → H' l = some (.lst xs) → Paired (TupAt H') xs (m.map (·.2)) → Q (.ref l) H'
def spS_web_now (C : Addr) : Sp := fun vs H Q _ => ∃ (p d q : Addr) (n f : Nat) (m : Held) (hs : List (Nat × Held)) (ds : List Deed), vs = [.ref p] ∧ StAt C H p d q n ((f, m) :: hs) ds ∧
  ∀ w H', Same H H' → WebAt H' w n (m.map (·.2)) → Q (.ref w) H'
def spS_deeds (C : Addr) : Sp := fun vs H Q _ => ∃ (p d q : Addr) (n : Nat) (hs : List (Nat × Held)) (ds : List Deed), vs = [.ref p] ∧ StAt C H p d q n hs ds ∧ Q (.int (ds.length : Int)) H
def spS_put (C X : Addr) : Sp := fun vs H Q E => ∃ (p d q : Addr) (n f : Nat) (m : Held) (hs : List (Nat × Held)) (ds : List Deed) (t : Tie), vs = [.ref p, .int t.1, .int t.2.1, .int t.2.2] ∧ StAt C H p d q n ((f, m) :: hs) ds ∧
  ds.length ≤ 900 ∧ (GoodTie (n : Int) t → m.length < 24 → ∀ H', Kept H H' p d q → StAt C H' p d q n ((f + 1, m ++ [(f, t)]) :: (f, m) :: hs) (.put f :: ds) → Q (.int (f : Int)) H') ∧
  (¬ (GoodTie (n : Int) t ∧ m.length < 24) → ∀ (e' : Addr) H', Same H H' → E (.int (X : Int) e') none H')
def spS_drop (C X : Addr) : Sp := fun vs H Q E => ∃ (p d q : Addr) (n f : Nat) (m : Held) (hs : List (Nat × Held)) (ds : List Deed) (z : Int), vs = [.ref p, .int z] ∧ StAt C H p d q n ((f, m) :: hs) ds ∧
  ds.length ≤ 900 ∧ ((∃ (x : Nat) (t : Tie), z = (x : Int) ∧ (x, t) ∈ m ∧ ∀ H', Kept H H' p d q → StAt C H' p d q n ((f, without x m) :: (f, m) :: hs) (.drop x t :: ds) → Q .non H') ∨
  ((∀ e ∈ m, ((e.1 : Nat) : Int) ≠ z) ∧ ∀ H', Same H H' → E (.ref X) none H'))
def spS_back (C X : Addr) : Sp := fun vs H Q E => ∃ (p d q : Addr) (n : Nat), vs = [.ref p] ∧ ((∃ (s1 s2 : Nat × Held) (hs : List (Nat × Held)) (e : Deed) (ds : List Deed), StAt C H p d q n (s1 :: s2 :: hs) (e :: ds) ∧
  ∀ H', Kept H H' p d q → StAt C H' p d q n (s2 :: hs) ds → Q .non H') ∨ (∃ hs, StAt C H p d q n hs [] ∧ ∀ H', Same H H' → E (.ref X) none H'))
theorem small24' {n : Nat} (h : n ≤ 24) : n < sizeLine := small1000 (by (first | lia | omega))
section
variable {P : Program} {w : World} {K : PySem.W.Frag} {mg : Str → Option Value} {base : Heap} {a : Adr}
theorem G_Standing_init (T : Txt K mg a) : FnOk P w K mg base (CX1 P w) 3 a.f_Standing_init a.d_Standing_init ["self", "points"] (spS_init a.c_Standing a.c_BadWeb) := by
  have G_made_web : FnOk P w K mg base (CX1 P w) 2 a.f_made_web a.d_made_web ["points", "ties"] (sp_made_web a.c_BadWeb) := G_made_web T
  refine T.F_Standing_init.ok1 sc_Standing_init (fun vs H Q E h => ?_) (fun cdv A outer s H vs Q E hr h => ?_)
  · obtain ⟨p, dx, z, rfl, _⟩ := h
    rfl
  · obtain ⟨p, dx, z, rfl, hp, k, kE⟩ := h
    refine ⟨_, (pss_cons (ps_expr (pe_call G_made_web (hr.mono (by decide)) (by rfl) T.m_made_web T.k_made_web T.b_made_web .nil out_of.passes (pa_cons (pv 1) (pa_cons (pe_lst pa_nil) pa_nil))))
      (pss_cons (ps_fld (pv 0) (pv 1) rfl)
      (pss_cons (ps_fld (pv 0) pe_dnewK rfl)
      (pss_cons (ps_fld (pv 0) pe_int rfl)
      (pss_one (ps_fld (pv 0) (pe_lst pa_nil) rfl)))))), ?_⟩
    refine hd_Standing_init ?_
    intro zz0 zz1 zz2 zz3
    refine (exq rfl ⟨dl rfl, fun l hl => ⟨z, l, [], [], rfl, .inl upd_same, .nil, fun g w0 b0 ys0 H2 s2 _ _ _ => ?_, fun ng H2 s2 => kE (fun g => ng ⟨g.1, g.2, Nat.zero_le _, (fun _ h => nomatch h)⟩) _ ((Same.new hl).trans s2)⟩⟩)
    obtain ⟨n, rfl⟩ := Int.eq_ofNat_of_zero_le (Int.le_trans (by decide) g.1)
    have p1 : 1 ≤ n := by have := g.1; (first | lia | omega)
    have p2 : n ≤ 10 := by have := g.2.1; (first | lia | omega)
    have k := k n rfl p1 p2
    have s12 : Same H H2 := (Same.new hl).trans s2
    have hp2 := s12 _ _ hp
    refine (exq rfl (exq rfl ⟨p, _, dx, _, rfl, hp2, T.cl_Standing, T.na_points, (by show 0 < 1000; decide), fun d hd => ?_⟩))
    have npd : p ≠ d := ne_of_none upd_same hd
    refine (exq rfl ⟨p, _, dx, _, rfl, (by rw [upd_ne npd]; exact upd_same), T.cl_Standing, T.na_standing_ties, (by show 1 < 1000; decide), exq rfl ⟨p, _, dx, _, rfl, upd_same, T.cl_Standing, T.na_next_name, (by show _ < 1000; exact Nat.lt_of_le_of_lt (length_putF _ _ _) (by show 2 < 1000; decide)), ?_⟩⟩)
    refine ⟨dl rfl, fun q hq => ?_⟩
    have npq : p ≠ q := ne_of_none upd_same hq
    have hd5 : ∀ o o', (upd (upd (upd (upd H2 p o) d (.dK [])) p o') p) = (upd (upd (upd (upd H2 p o) d (.dK [])) p o') p) := fun _ _ => rfl
    refine (exq rfl ⟨p, _, dx, _, rfl, (by rw [upd_ne npq]; exact upd_same), T.cl_Standing, T.na_done, (by show _ < 1000; exact Nat.lt_of_le_of_lt (length_putF _ _ _) (Nat.lt_of_le_of_lt (Nat.add_le_add_right (length_putF _ _ _) 1) (by show 3 < 1000; decide))), ?_⟩)
    have ndq : d ≠ q := fun z => by
      rw [← z, upd_ne (Ne.symm npd), upd_ne (Ne.symm npd), upd_same] at hq
      cases hq
    have kp : ∀ b o, H b = some o → b ≠ p → b ≠ d → b ≠ q → upd (upd (upd (upd (upd (upd H2 p (.ins a.c_Standing dx (putF "points" (.int (n : Int)) []))) d (.dK [])) p (.ins a.c_Standing dx (putF "standing_ties" (.ref d) (putF "points" (.int (n : Int)) [])))) p (.ins a.c_Standing dx (putF "next_name" (.int 0) (putF "standing_ties" (.ref d) (putF "points" (.int (n : Int)) []))))) q (.lst [])) p (.ins a.c_Standing dx (putF "done" (.ref q) (putF "next_name" (.int 0) (putF "standing_ties" (.ref d) (putF "points" (.int (n : Int)) []))))) b = some o := fun b o e h1 h2 h3 => by
      rw [upd_ne h1, upd_ne h3, upd_ne h1, upd_ne h1, upd_ne h2, upd_ne h1]
      exact s12 _ _ e
    have hd0 : H d = none := none_of (fun b o e h1 => by rw [upd_ne h1]; exact s12 _ _ e) hd (Ne.symm npd)
    have hq0 : H q = none := by
      rw [upd_ne (Ne.symm npq), upd_ne (Ne.symm npq), upd_ne (Ne.symm ndq), upd_ne (Ne.symm npq)] at hq
      exact s12.free hq
    refine k d q _ hd0 hq0 ⟨.nil, p1, p2, ⟨dx, 0, [], [], rfl, Eq.trans upd_same (congrArg (fun l => some (HO.ins a.c_Standing dx l)) (flds_init n d 0 q)), [], ?_, .refl _, (fun _ h => nomatch h)⟩, [], ?_, .nil⟩ fun b o e h1 => ?_
    · rw [upd_ne (Ne.symm npd), upd_ne ndq, upd_ne (Ne.symm npd), upd_ne (Ne.symm npd), upd_same]
      rfl
    · rw [upd_ne (Ne.symm npq), upd_same]
    · exact kp b o e h1 (ne_of_none e hd0) (ne_of_none e hq0)
theorem G_Standing_names (T : Txt K mg a) : FnOk P w K mg base CX0 1 a.f_Standing_names a.d_Standing_names ["self"] (spS_names a.c_Standing) := by
  refine T.F_Standing_names.ok sc_Standing_names (fun vs H Q E h => ?_) (fun cdv A outer s H vs Q E hr h => ?_)
  · obtain ⟨p, d, q, n, f, m, hs, ds, rfl, _⟩ := h
    rfl
  · obtain ⟨p, d, q, n, f, m, hs, ds, rfl, S, k⟩ := h
    refine ⟨_, (pss_one (ps_ret (pe_callB (sortedD rfl) (by rfl) T.n_sorted PyProof.Rows.boot_sorted (pa_cons (pe_fldK K (pv 0)) pa_nil)))), ?_⟩
    have ok := S.ch.ok
    obtain ⟨dx, _, _, _, e, hp, hd⟩ := S.ob
    cases e
    obtain ⟨kvs, ns, h1, h2, h3, h4⟩ := hd.sorted ok
    refine (exq rfl ⟨p, _, dx, _, _, rfl, hp, T.cl_Standing, T.na_standing_ties, fl_ties, d, kvs, ns, rfl, h1, h2, h3, fun l ns' hl hpm hso => ?_⟩)
    rw [h4 ns' hpm hso]
    exact k l hl
theorem G_Standing_ties_now (T : Txt K mg a) : FnOk P w K mg base CX0 2 a.f_Standing_ties_now a.d_Standing_ties_now ["self"] (spS_ties_now a.c_Standing) := by
  have G_Standing_names : FnOk P w K mg base CX0 1 a.f_Standing_names a.d_Standing_names ["self"] (spS_names a.c_Standing) := G_Standing_names T
  refine T.F_Standing_ties_now.ok sc_Standing_ties_now (fun vs H Q E h => ?_) (fun cdv A outer s H vs Q E hr h => ?_)
  · obtain ⟨p, d, q, n, f, m, hs, ds, rfl, _⟩ := h
    rfl
  · obtain ⟨p, d, q, n, f, m, hs, ds, rfl, S, k⟩ := h
    refine ⟨_, (pss_one (ps_ret (pe_comp (own := ["name"]) (frees := ["self"]) (js := [0]) (compText_of (defScope s_Standing_ties_now) ["self"]) rfl (piL K (pe_meth0 (pv 0) T.cl_Standing T.mt_Standing_names G_Standing_names (hr.mono (by decide)) T.b_Standing_names .nil pass0)) (fun _ _ _ _ => (pg_name (i := 0) (show (["name", "self"] : List Str).Nodup by decide +kernel) rfl (Or.inl rfl))) (fun _ _ _ _ => pts_nil) (fun _ _ _ _ => (pe_dget (by exact hu_of hr) (pe_fldK K (pv 1)) (pv 0) (fun _ _ => rfl)))))), ?_⟩
    have ok := S.ch.ok
    obtain ⟨dx, _, _, _, e, hp, hd⟩ := S.ob
    cases e
    have few := ok.few
    refine (exq rfl ⟨p, dx, _, rfl, hp, fl_no (by decide +kernel) (by decide +kernel) (by decide +kernel) (by decide +kernel), p, d, q, n, f, m, hs, ds, rfl, S, fun l hl => ⟨l, rfl, ⟨_, SqL.of upd_same⟩, fun D hD => ?_⟩⟩)
    have s1 : Same H (upd H l (.lst (natsV (m.map (·.1))))) := Same.new hl
    have hD0 : H D = none := s1.free hD
    have nlD : l ≠ D := ne_of_none upd_same hD
    refine comp_list (xs := natsV (m.map (·.1))) (fun i acc H2 => Same (upd H l (.lst (natsV (m.map (·.1))))) H2 ∧ H2 D = some (.lst acc) ∧ Paired (TupAt H2) acc ((m.map (·.2)).take i) ∧ acc.length = i) ⟨Same.new hD, upd_same, .nil, rfl⟩ ?_ (by rw [natsV_len, List.length_map]; exact small24 few) ?_ ?_
    · rintro i acc H2 _ ⟨s2, hd2, pr, hac⟩
      exact ⟨SqL.of (s2 _ _ upd_same), hd2, Nat.le_of_eq hac⟩
    · rintro i x acc H2 hx ⟨s2, hd2, pr, hac⟩
      obtain ⟨nm, hnm, rfl⟩ := natsV_get hx
      rw [List.getElem?_map] at hnm
      obtain ⟨⟨nm', t⟩, hmt, e⟩ := Option.map_eq_some_iff.mp hnm
      have e : nm' = nm := e
      subst e
      obtain ⟨kvs, b, g1, g2, g3⟩ := (hd.same (s1.trans s2)).get ok (List.mem_of_getElem? hmt)
      have hp2 := s2 _ _ (s1 _ _ hp)
      refine ⟨rfl, exq rfl ⟨p, _, dx, _, _, rfl, hp2, T.cl_Standing, T.na_standing_ties, fl_ties, _, rfl, d, .ref b, rfl, (by have z := DGet.k (k := kN nm') g1; rw [g2] at z; exact z), hd2, s2.put hD, upd_same, ?_, by rw [List.length_append, List.length_singleton, hac]⟩⟩
      rw [List.take_add_one, List.getElem?_map, hmt]
      exact Paired.snoc (Paired.imp' (fun _ _ z => z.tups (Tups.put hd2)) pr) ⟨b, rfl, Tups.put hd2 _ _ g3⟩
    · rintro acc H2 ⟨s2, hd2, pr, hac⟩
      rw [natsV_len, List.length_map, show m.length = (m.map (·.2)).length from (List.length_map _).symm, List.take_length] at pr
      exact k D acc H2 hD0 (s1.trans s2) hd2 pr
theorem G_Standing_web_now (T : Txt K mg a) : FnOk P w K mg base CX0 3 a.f_Standing_web_now a.d_Standing_web_now ["self"] (spS_web_now a.c_Standing) := by
  have G_made_web : FnOk P w K mg base (CX1 P w) 2 a.f_made_web a.d_made_web ["points", "ties"] (sp_made_web a.c_BadWeb) := G_made_web T
  have G_Standing_ties_now : FnOk P w K mg base CX0 2 a.f_Standing_ties_now a.d_Standing_ties_now ["self"] (spS_ties_now a.c_Standing) := G_Standing_ties_now T
  refine T.F_Standing_web_now.ok sc_Standing_web_now (fun vs H Q E h => ?_) (fun cdv A outer s H vs Q E hr h => ?_)
  · obtain ⟨p, d, q, n, f, m, hs, ds, rfl, _⟩ := h
    rfl
  · obtain ⟨p, d, q, n, f, m, hs, ds, rfl, S, k⟩ := h
    refine ⟨_, (pss_one (ps_ret (pe_call G_made_web (hr.mono (by decide)) (by rfl) T.m_made_web T.k_made_web T.b_made_web .nil passN (pa_cons (pe_fldK K (pv 0)) (pa_cons (pe_meth0 (pv 0) T.cl_Standing T.mt_Standing_ties_now G_Standing_ties_now (hr.mono (by decide)) T.b_Standing_ties_now .nil pass0) pa_nil))))), ?_⟩
    have ok := S.ch.ok
    obtain ⟨dx, _, _, _, e, hp, hd⟩ := S.ob
    cases e
    refine (exq rfl ⟨p, _, dx, _, _, rfl, hp, T.cl_Standing, T.na_points, fl_points, _, rfl, p, dx, _, rfl, hp, fl_no (by decide +kernel) (by decide +kernel) (by decide +kernel) (by decide +kernel), p, d, q, n, f, m, hs, ds, rfl, S, fun l xs H2 hl s2 hxs pr => ?_⟩)
    exact ⟨n, l, xs, _, rfl, .inl hxs, Paired.imp' (fun _ _ z => z.tie) (paired_list pr), fun _ w0 b0 ys H3 s3 hw hb pr3 => k w0 H3 (s2.trans s3) ⟨b0, ys, hw, hb, paired_unl pr3⟩, fun ng => absurd (goodW_of (ok.web S.p1 S.p2)) ng⟩
theorem G_Standing_deeds (T : Txt K mg a) : FnOk P w K mg base CX0 1 a.f_Standing_deeds a.d_Standing_deeds ["self"] (spS_deeds a.c_Standing) := by
  refine T.F_Standing_deeds.ok sc_Standing_deeds (fun vs H Q E h => ?_) (fun cdv A outer s H vs Q E hr h => ?_)
  · obtain ⟨p, d, q, n, hs, ds, rfl, _⟩ := h
    rfl
  · obtain ⟨p, d, q, n, hs, ds, rfl, S, k⟩ := h
    refine ⟨_, (pss_one (ps_ret (pe_callB (lenK K) (by rfl) T.n_len PySem.boot_len (pa_cons (pe_fldK K (pv 0)) pa_nil)))), ?_⟩
    obtain ⟨dx, f, m, hs', rfl, hp, hd⟩ := S.ob
    obtain ⟨ys, hq, pr⟩ := S.dn
    have hl := pr.length
    rw [List.length_reverse] at hl
    refine (exq rfl ⟨p, _, dx, _, _, rfl, hp, T.cl_Standing, T.na_done, fl_done, q, ys, rfl, .inl (SqL.of hq), ?_⟩)
    rw [hl]
    exact k
theorem G_Standing_put (T : Txt K mg a) : FnOk P w K mg base (CX1 P w) 3 a.f_Standing_put a.d_Standing_put ["self", "one", "other", "length"] (spS_put a.c_Standing a.c_NoDeed) := by
  have G_made_web : FnOk P w K mg base (CX1 P w) 2 a.f_made_web a.d_made_web ["points", "ties"] (sp_made_web a.c_BadWeb) := G_made_web T
  have G_Standing_ties_now : FnOk P w K mg base CX0 2 a.f_Standing_ties_now a.d_Standing_ties_now ["self"] (spS_ties_now a.c_Standing) := G_Standing_ties_now T
  refine T.F_Standing_put.ok1 sc_Standing_put (fun vs H Q E h => ?_) (fun cdv A outer s H vs Q E hr h => ?_)
  · obtain ⟨p, d, q, n, f, m, hs, ds, t, rfl, _⟩ := h
    rfl
  · obtain ⟨p, d, q, n, f, m, hs, ds, t, rfl, S, dl900, k, kE⟩ := h
    refine ⟨_, (pss_cons (ps_set (i := 4) sc_Standing_put.nd rfl (Or.inl rfl) (pe_tup (pa_cons (pv 1) (pa_cons (pv 2) (pa_cons (pv 3) pa_nil)))))
      (pss_cons (ps_tryF K out_of (by rfl) T.g_BadWeb (by rfl) T.x_NoDeed PySem.F.excBase_ValueError rfl (fun E pn xe hp => (pss_one (ps_expr (pe_call G_made_web (hr.mono (by decide)) (by rfl) T.m_made_web T.k_made_web T.b_made_web .nil hp (pa_cons (pe_fldK K (pv 0)) (pa_cons (pe_op (catL K) (pe_meth0 (pv 0) T.cl_Standing T.mt_Standing_ties_now G_Standing_ties_now (hr.mono (by decide)) T.b_Standing_ties_now .nil pass0) (pe_lst (pa_cons (pv 4) pa_nil))) pa_nil)))))) (fun ea pn xe => (pa_cons pe_str pa_nil)))
      (pss_cons (ps_set (i := 5) sc_Standing_put.nd rfl (Or.inl rfl) (pe_fldK K (pv 0)))
      (pss_cons (ps_dput (by exact hu_of hr) (pe_fldK K (pv 0)) (pv 5) (pv 4) rfl)
      (pss_cons (ps_fld (pv 0) (pe_op op_add (pv 5) pe_int) rfl)
      (pss_cons (ps_expr (bmK K (pe_bm PySem.F.plainAttrs_list PySem.F.slot_list_append PySem.F.type_list_append mt_append (pe_fldK K (pv 0)) (pa_cons (pe_tup (pa_cons (pv 5) (pa_cons pe_non pa_nil))) pa_nil))))
      (pss_one (ps_ret (pv 5))))))))), ?_⟩
    refine hd_Standing_put ?_
    intro zz0 zz1 zz2 zz3 zz4 zz5
    have ok := S.ch.ok
    refine (exq rfl (exq rfl (exq rfl ⟨dl rfl, fun b hb => ?_⟩)))
    have s1 : Same H (upd H b (.tup (tieV t))) := Same.new hb
    have hb1 : upd H b (.tup (tieV t)) b = some (.tup (tieV t)) := upd_same
    have S1 := S.same s1
    obtain ⟨dx, _, _, _, e, hp1, hd1⟩ := S1.ob
    cases e
    refine ⟨fun cls od H' => cls = .ref a.c_BadWeb ∧ Same H H' ∧ ¬ (GoodTie (n : Int) t ∧ m.length < 24), ?_, ?_⟩
    rotate_left
    · rintro cls od H' ⟨rfl, s9, ng⟩
      exact ⟨T.hs_BadWeb, fun ea hea => ⟨dl rfl, upd_same, kE ng ea _ (s9.trans (Same.new hea))⟩⟩
    refine (exq rfl ⟨p, _, dx, _, _, rfl, hp1, T.cl_Standing, T.na_points, fl_points, _, rfl, p, dx, _, rfl, hp1, fl_no (by decide +kernel) (by decide +kernel) (by decide +kernel) (by decide +kernel), p, d, q, n, f, m, hs, ds, rfl, S1, fun l xs H2 hl s2 hxs pr => ?_⟩)
    have hlen := pr.length
    rw [List.length_map] at hlen
    refine (exq rfl ⟨dl rfl, fun l2 hl2 => ?_⟩)
    have s3 : Same H2 (upd H2 l2 (.lst [.ref b])) := Same.new hl2
    refine ⟨l, l2, xs, [.ref b], rfl, rfl, SqL.of (s3 _ _ hxs), SqL.of upd_same, dl (Nat.ble_eq.mpr (by show xs.length + 1 ≤ 1000; have := ok.few; (first | lia | omega))), fun l3 hl3 => ?_⟩
    have s4 := s3.trans (Same.new (o := .lst (xs ++ [.ref b])) hl3)
    have pr4 := Paired.snoc (Paired.imp' (fun _ _ z => TupAt.tups s4.tups z) pr) (show TupAt _ (.ref b) t from ⟨b, rfl, s4 _ _ (s2 _ _ hb1)⟩)
    refine ⟨n, l3, xs ++ [.ref b], _, rfl, .inl upd_same, Paired.imp' (fun _ _ z => z.tie) (paired_list pr4), fun g w0 b0 ys0 H5 s5 _ _ _ => ?_, fun ng H5 s5 => ⟨rfl, ((s1.trans s2).trans s4).trans s5, fun ⟨gt, few⟩ => ng ?_⟩⟩
    rotate_left
    · have okw := (ok.put gt few).web S.p1 S.p2
      rw [List.map_append] at okw
      exact goodW_of okw
    obtain ⟨gt, few⟩ := goodW_put g
    have k := k gt few
    have s05 : Same H H5 := ((s1.trans s2).trans s4).trans s5
    have S5 := S.same s05
    have hb5 : H5 b = some (.tup (tieV t)) := s5 _ _ (s4 _ _ (s2 _ _ hb1))
    obtain ⟨dx, _, _, _, e, hp5, hd5⟩ := S5.ob
    cases e
    obtain ⟨ys, hq5, pd5⟩ := S5.dn
    obtain ⟨kvs, h1, h2, h3⟩ := hd5.put ok.fresh hb5
    have npd : p ≠ d := ne_of hp5 h1 (by intro z; cases z)
    have npq : p ≠ q := ne_of hp5 hq5 (by intro z; cases z)
    have ndq : d ≠ q := ne_of h1 hq5 (by intro z; cases z)
    refine (exq rfl ⟨p, _, dx, _, _, rfl, hp5, T.cl_Standing, T.na_next_name, fl_next, ?_⟩)
    refine (exq rfl (exq rfl ⟨p, _, dx, _, _, rfl, hp5, T.cl_Standing, T.na_standing_ties, fl_ties, _, rfl, d, _, rfl, DPut.k (k := kN f) h1 (small24' (by (first | lia | omega))), ?_⟩))
    have hp6 : upd H5 d (.dK (putK kvs (kN f) (.ref b))) p = some (.ins a.c_Standing dx (flds n d f q)) := by rw [upd_ne npd]; exact hp5
    refine (exq rfl (ijq (exq rfl ⟨p, _, dx, _, rfl, hp6, T.cl_Standing, T.na_next_name, (by show 4 < 1000; decide), ?_⟩)))
    have e7 : putF "next_name" (.int ((f : Int) + 1)) (flds n d f q) = flds n d (f + 1) q := flds_next n d f (f + 1) q
    have hp7 : upd (upd H5 d (.dK (putK kvs (kN f) (.ref b)))) p (.ins a.c_Standing dx (putF "next_name" (.int ((f : Int) + 1)) (flds n d f q))) p = some (.ins a.c_Standing dx (flds n d (f + 1) q)) := by rw [upd_same, e7]
    have hq7 : upd (upd H5 d (.dK (putK kvs (kN f) (.ref b)))) p (.ins a.c_Standing dx (putF "next_name" (.int ((f : Int) + 1)) (flds n d f q))) q = some (.lst ys) := by rw [upd_ne (Ne.symm npq), upd_ne (Ne.symm ndq)]; exact hq5
    have hd7 : upd (upd H5 d (.dK (putK kvs (kN f) (.ref b)))) p (.ins a.c_Standing dx (putF "next_name" (.int ((f : Int) + 1)) (flds n d f q))) d = some (.dK (putK kvs (kN f) (.ref b))) := by rw [upd_ne (Ne.symm npd), upd_same]
    have t57 : Tups H5 (upd (upd H5 d (.dK (putK kvs (kN f) (.ref b)))) p (.ins a.c_Standing dx (putF "next_name" (.int ((f : Int) + 1)) (flds n d f q)))) := fun c zs e => by
      rw [upd_ne (ne_of e hp5 (by intro z; cases z)), upd_ne (ne_of e h1 (by intro z; cases z))]
      exact e
    have k57 : ∀ c o, H5 c = some o → c ≠ p → c ≠ d → c ≠ q → upd (upd H5 d (.dK (putK kvs (kN f) (.ref b)))) p (.ins a.c_Standing dx (putF "next_name" (.int ((f : Int) + 1)) (flds n d f q))) c = some o := fun c o e h1 h2 _ => by
      rw [upd_ne h1, upd_ne h2]
      exact e
    generalize upd (upd H5 d (.dK (putK kvs (kN f) (.ref b)))) p (.ins a.c_Standing dx (putF "next_name" (.int ((f : Int) + 1)) (flds n d f q))) = H7 at hp7 hq7 hd7 t57 k57
    refine (exq rfl ⟨p, _, dx, _, _, rfl, hp7, T.cl_Standing, T.na_done, fl_done, .inl ⟨rfl, _, SqL.of hq7⟩, exq rfl ⟨dl rfl, fun b2 hb2 => ?_⟩⟩)
    have s8 : Same H7 (upd H7 b2 (.tup [.int (f : Int), .non])) := Same.new hb2
    have hly := pd5.length
    rw [List.length_reverse] at hly
    refine ⟨q, ys, _, rfl, rfl, s8 _ _ hq7, small1000 (by (first | lia | omega)), exq rfl (?_)⟩
    have t9 : Tups H7 (upd (upd H7 b2 (.tup [.int (f : Int), .non])) q (.lst (ys ++ [.ref b2]))) := s8.tups.trans (Tups.put (s8 _ _ hq7))
    refine k _ ⟨(s05.tups.trans t57).trans t9, fun c o e h1 h2 h3 => ?_⟩ ⟨.put S.ch gt few, S.p1, S.p2, ⟨dx, f + 1, m ++ [(f, t)], _, rfl, ?_, ?_⟩, ys ++ [.ref b2], upd_same, ?_⟩
    · rw [upd_ne h3]
      exact s8 _ _ (k57 c o (s05 _ _ e) h1 h2 h3)
    · rw [upd_ne npq]
      exact s8 _ _ hp7
    · refine h3 _ _ (t57.trans t9) ?_ (.refl _)
      rw [upd_ne ndq]
      exact s8 _ _ hd7
    · rw [List.reverse_cons]
      refine Paired.snoc (Paired.imp' (fun _ _ z => z.tups (t57.trans t9)) pd5) ⟨b2, rfl, Tups.put (s8 _ _ hq7) _ _ upd_same⟩
theorem G_Standing_drop (T : Txt K mg a) : FnOk P w K mg base (CX1 P w) 1 a.f_Standing_drop a.d_Standing_drop ["self", "name"] (spS_drop a.c_Standing a.c_NoDeed) := by
  refine T.F_Standing_drop.ok1 sc_Standing_drop (fun vs H Q E h => ?_) (fun cdv A outer s H vs Q E hr h => ?_)
  · obtain ⟨p, d, q, n, f, m, hs, ds, z, rfl, _⟩ := h
    rfl
  · obtain ⟨p, d, q, n, f, m, hs, ds, z, rfl, S, dl900, h⟩ := h
    refine ⟨_, (pss_cons (ps_if (pt_cmp (pc_dnotin (by exact hu_of hr) (pv 1) (pe_fldK K (pv 0)))) (pss_one (ps_raise out_of.thr rfl (by rfl) T.x_NoDeed PySem.F.excBase_ValueError (pa_cons pe_str pa_nil))) pss_nil)
      (pss_one (ps_expr (bmK K (pe_bm PySem.F.plainAttrs_list PySem.F.slot_list_append PySem.F.type_list_append mt_append (pe_fldK K (pv 0)) (pa_cons (pe_tup (pa_cons (pv 1) (pa_cons (pe_dpop1 (pe_fldK K (pv 0)) (pv 1) ⟨rfl, rfl, rfl, rfl⟩) pa_nil))) pa_nil)))))), ?_⟩
    refine hd_Standing_drop ?_
    intro zz0 zz1
    have ok := S.ch.ok
    obtain ⟨dx, _, _, _, e, hp, hd⟩ := S.ob
    cases e
    obtain ⟨ys, hq, pd⟩ := S.dn
    rcases h with ⟨x, t, rfl, hx, k⟩ | ⟨hno, kE⟩
    case inr =>
      obtain ⟨kvs, h1, h2⟩ := dict_noneI hd hno
      refine (exq rfl (exq rfl ⟨p, _, dx, _, _, rfl, hp, T.cl_Standing, T.na_standing_ties, fl_ties, d, _, rfl, (by have z9 := DGet.k (k := Sum.inl z) h1; rw [h2] at z9; exact z9), exq rfl (?_)⟩))
      exact iteT ⟨dl rfl, kE H (Same.refl _)⟩
    obtain ⟨kvs, b, h1, h2, h3, h4⟩ := hd.pop ok hx
    have npd : p ≠ d := ne_of hp h1 (by intro z; cases z)
    have npq : p ≠ q := ne_of hp hq (by intro z; cases z)
    have ndq : d ≠ q := ne_of h1 hq (by intro z; cases z)
    refine (exq rfl (exq rfl ⟨p, _, dx, _, _, rfl, hp, T.cl_Standing, T.na_standing_ties, fl_ties, d, _, rfl, (by have z := DGet.k (k := kN x) h1; rw [h2] at z; exact z), exq rfl (?_)⟩))
    refine iteF ?_
    have hp1 : upd H d (.dK (dropK kvs (kN x))) p = some (.ins a.c_Standing dx (flds n d f q)) := by rw [upd_ne npd]; exact hp
    have hq1 : upd H d (.dK (dropK kvs (kN x))) q = some (.lst ys) := by rw [upd_ne (Ne.symm ndq)]; exact hq
    have hb1 : upd H d (.dK (dropK kvs (kN x))) b = some (.tup (tieV t)) := by rw [upd_ne (ne_of h3 h1 (by intro z; cases z))]; exact h3
    have hd1 : upd H d (.dK (dropK kvs (kN x))) d = some (.dK (dropK kvs (kN x))) := upd_same
    have t1 : Tups H (upd H d (.dK (dropK kvs (kN x)))) := fun c zs e => by
      rw [upd_ne (ne_of e h1 (by intro z; cases z))]
      exact e
    have k1 : ∀ c o, H c = some o → c ≠ p → c ≠ d → c ≠ q → upd H d (.dK (dropK kvs (kN x))) c = some o := fun c o e _ h2 _ => by
      rw [upd_ne h2]
      exact e
    refine (exq rfl ⟨p, _, dx, _, _, rfl, hp, T.cl_Standing, T.na_done, fl_done, .inl ⟨rfl, _, SqL.of hq⟩, exq rfl (exq rfl ⟨p, _, dx, _, _, rfl, hp, T.cl_Standing, T.na_standing_ties, fl_ties, d, rfl, .inl ⟨_, .inl h1⟩, exq rfl ⟨kvs, kN x, .ref b, h1, rfl, h2, ?_⟩⟩)⟩)
    generalize upd H d (.dK (dropK kvs (kN x))) = H1 at hp1 hq1 hb1 hd1 t1 k1
    refine ⟨dl rfl, fun b2 hb2 => ?_⟩
    have s8 : Same H1 (upd H1 b2 (.tup [.int (x : Int), .ref b])) := Same.new hb2
    have hly := pd.length
    rw [List.length_reverse] at hly
    refine ⟨q, ys, _, rfl, rfl, s8 _ _ hq1, small1000 (by (first | lia | omega)), ?_⟩
    have t9 : Tups H1 (upd (upd H1 b2 (.tup [.int (x : Int), .ref b])) q (.lst (ys ++ [.ref b2]))) := s8.tups.trans (Tups.put (s8 _ _ hq1))
    refine k _ ⟨t1.trans t9, fun c o e h1 h2 h3 => ?_⟩ ⟨.drop S.ch hx, S.p1, S.p2, ⟨dx, f, without x m, _, rfl, ?_, ?_⟩, ys ++ [.ref b2], upd_same, ?_⟩
    · rw [upd_ne h3]
      exact s8 _ _ (k1 c o e h1 h2 h3)
    · rw [upd_ne npq]
      exact s8 _ _ hp1
    · refine h4 _ (t1.trans t9) ?_
      rw [upd_ne ndq]
      exact s8 _ _ hd1
    · rw [List.reverse_cons]
      refine Paired.snoc (Paired.imp' (fun _ _ z => z.tups (t1.trans t9)) pd) ⟨b2, b, rfl, Tups.put (s8 _ _ hq1) _ _ upd_same, t9 _ _ hb1⟩
theorem G_Standing_back (T : Txt K mg a) : FnOk P w K mg base (CX1 P w) 1 a.f_Standing_back a.d_Standing_back ["self"] (spS_back a.c_Standing a.c_NoDeed) := by
  refine T.F_Standing_back.ok1 sc_Standing_back (fun vs H Q E h => ?_) (fun cdv A outer s H vs Q E hr h => ?_)
  · obtain ⟨p, d, q, n, rfl, _⟩ := h
    rfl
  · obtain ⟨p, d, q, n, rfl, h⟩ := h
    refine ⟨_, (pss_cons (ps_if (pt_cmpR op_eq (pe_callB (lenK K) (by rfl) T.n_len PySem.boot_len (pa_cons (pe_fldK K (pv 0)) pa_nil)) pe_int (nomark _)) (pss_one (ps_raise out_of.thr rfl (by rfl) T.x_NoDeed PySem.F.excBase_ValueError (pa_cons pe_str pa_nil))) pss_nil)
      (pss_cons (ps_set (i := 1) sc_Standing_back.nd rfl (Or.inl rfl) (bm0K K (pe_bm0 PySem.F.plainAttrs_list PySem.F.slot_list_pop PySem.F.type_list_pop mt_pop (pe_fldK K (pv 0)))))
      (pss_one (ps_if (pt_cmpR op_isN (pe_ix (ixT K) (pv 1) pe_int (fun _ _ => rfl)) pe_non (nomark _)) (pss_cons (ps_expr (pe_dpop1 (pe_fldK K (pv 0)) (pe_ix (ixT K) (pv 1) pe_int (fun _ _ => rfl)) ⟨rfl, rfl, rfl, rfl⟩))
      (pss_one (ps_fld (pv 0) (pe_ix (ixT K) (pv 1) pe_int (fun _ _ => rfl)) rfl))) (pss_one (ps_dput (by exact hu_of hr) (pe_fldK K (pv 0)) (pe_ix (ixT K) (pv 1) pe_int (fun _ _ => rfl)) (pe_ix (ixT K) (pv 1) pe_int (fun _ _ => rfl)) rfl)))))), ?_⟩
    refine hd_Standing_back ?_
    intro zz0 zz1 zz2 zz3 zz4 zz5
    rcases h with ⟨s1, s2, hs, e, ds, S, k⟩ | ⟨hs, S, kE⟩
    case inr =>
      obtain ⟨dx, f, m, _, e0, hp, hd⟩ := S.ob
      obtain ⟨ys, hq, pd⟩ := S.dn
      cases pd
      exact (exq rfl ⟨p, _, dx, _, _, rfl, hp, T.cl_Standing, T.na_done, fl_done, lnq rfl (.inl (SqL.of hq)) ⟨rfl, exq rfl (iteT ⟨dl rfl, kE H (Same.refl _)⟩)⟩⟩)
    obtain ⟨dx, f, m, _, e0, hp, hd⟩ := S.ob
    cases e0
    obtain ⟨ys, hq, pd⟩ := S.dn
    rw [List.reverse_cons] at pd
    obtain ⟨ys', y, rfl, pd', hy⟩ := unsnoc pd
    obtain ⟨kvs0, hd0, hkl⟩ := hd.len
    have npd : p ≠ d := ne_of hp hd0 (by intro z; cases z)
    have npq : p ≠ q := ne_of hp hq (by intro z; cases z)
    have ndq : d ≠ q := ne_of hd0 hq (by intro z; cases z)
    refine (exq rfl ⟨p, _, dx, _, _, rfl, hp, T.cl_Standing, T.na_done, fl_done, lnq rfl (.inl (SqL.of hq)) ⟨rfl, exq rfl (iteD (fun z => by have z := V.int.inj z; rw [List.length_append] at z; simp at z; (first | lia | omega)) ?_)⟩⟩)
    refine (exq rfl ⟨p, _, dx, _, _, rfl, hp, T.cl_Standing, T.na_done, fl_done, .inl ⟨rfl, _, SqL.of hq⟩, q, _, y, rfl, rfl, hq, by simp, ?_⟩)
    rw [List.dropLast_concat]
    have hp1 : upd H q (.lst ys') p = some (.ins a.c_Standing dx (flds n d f q)) := by rw [upd_ne npq]; exact hp
    have hq1 : upd H q (.lst ys') q = some (.lst ys') := upd_same
    have t1 : Tups H (upd H q (.lst ys')) := Tups.put hq
    have k1 : ∀ c o, H c = some o → c ≠ p → c ≠ d → c ≠ q → upd H q (.lst ys') c = some o := fun c o e _ _ h3 => by
      rw [upd_ne h3]
      exact e
    have hd1 : DictIs (upd H q (.lst ys')) d m := hd.keep t1 (by rw [upd_ne ndq])
    generalize upd H q (.lst ys') = H1 at hp1 hq1 t1 k1 hd1
    have hy1 := hy.tups t1
    have pd1 : Paired (DeedAt H1) ys' ds.reverse := Paired.imp' (fun _ _ z => z.tups t1) pd'
    cases S.ch with
    | put c g hl =>
      obtain ⟨b, rfl, hb⟩ := hy1
      rename_i f0 m0 t0
      refine (exq rfl (ixq (SqT.of hb) (atI_nat (j := 1) rfl) ⟨rfl, exq rfl (iteT ?_)⟩))
      obtain ⟨kvs, bt, h1, h2, h3, h4⟩ := hd1.pop (c.ok.put g hl) (n := f0) (t := t0) (List.mem_append_right _ List.mem_cons_self)
      refine (exq rfl ⟨p, _, dx, _, _, rfl, hp1, T.cl_Standing, T.na_standing_ties, fl_ties, d, rfl, .inl ⟨_, .inl h1⟩, exq rfl (ixq (SqT.of hb) (atI_nat (j := 0) rfl) ⟨kvs, kN f0, .ref bt, h1, rfl, h2, ?_⟩)⟩)
      have hp2 : upd H1 d (.dK (dropK kvs (kN f0))) p = some (.ins a.c_Standing dx (flds n d (f0 + 1) q)) := by rw [upd_ne npd]; exact hp1
      have hb2 : upd H1 d (.dK (dropK kvs (kN f0))) b = some (.tup [.int (f0 : Int), .non]) := by rw [upd_ne (ne_of hb h1 (by intro z; cases z))]; exact hb
      refine (exq rfl (ixq (SqT.of hb2) (atI_nat (j := 0) rfl) (exq rfl ⟨p, _, dx, _, rfl, hp2, T.cl_Standing, T.na_next_name, (by show 4 < 1000; decide), ?_⟩)))
      have t3 : Tups H1 (upd (upd H1 d (.dK (dropK kvs (kN f0)))) p (.ins a.c_Standing dx (putF "next_name" (.int (f0 : Int)) (flds n d (f0 + 1) q)))) := fun c zs e => by
        rw [upd_ne (ne_of e hp1 (by intro z; cases z)), upd_ne (ne_of e h1 (by intro z; cases z))]
        exact e
      refine k _ ⟨t1.trans t3, fun c o e g1 g2 g3 => ?_⟩ ⟨c, S.p1, S.p2, ⟨dx, f0, m0, _, rfl, Eq.trans upd_same (congrArg (fun l => some (HO.ins a.c_Standing dx l)) (flds_next n d (f0 + 1) f0 q)), ?_⟩, ys', ?_, Paired.imp' (fun _ _ z => z.tups t3) pd1⟩
      · rw [upd_ne g1, upd_ne g2]
        exact k1 c o e g1 g2 g3
      · have z := h4 _ t3 (by rw [upd_ne (Ne.symm npd), upd_same])
        rw [without_new c.ok.fresh] at z
        exact z
      · rw [upd_ne (Ne.symm npq), upd_ne (Ne.symm ndq)]
        exact hq1
    | drop c hm =>
      obtain ⟨b, bt, rfl, hb, hbt⟩ := hy1
      rename_i m0 x0 t0
      refine (exq rfl (ixq (SqT.of hb) (atI_nat (j := 1) rfl) ⟨rfl, exq rfl (iteD (fun z => nomatch z) ?_)⟩))
      obtain ⟨kvs, h1, h2, h3⟩ := hd1.put (n := x0) (t := t0) (b := bt) (fun z => by
        obtain ⟨e, he, q⟩ := List.mem_map.mp z
        have := (List.mem_filter.mp he).2
        simp [q] at this) hbt
      refine (exq rfl (ixq (SqT.of hb) (atI_nat (j := 1) rfl) (exq rfl ⟨p, _, dx, _, _, rfl, hp1, T.cl_Standing, T.na_standing_ties, fl_ties, _, rfl, ixq (SqT.of hb) (atI_nat (j := 0) rfl) ⟨d, _, rfl, DPut.k (k := kN x0) h1 (small24' (by rw [h2]; exact (c.ok.drop x0).few)), ?_⟩⟩)))
      have t3 : Tups H1 (upd H1 d (.dK (putK kvs (kN x0) (.ref bt)))) := fun c zs e => by
        rw [upd_ne (ne_of e h1 (by intro z; cases z))]
        exact e
      refine k _ ⟨t1.trans t3, fun c o e g1 g2 g3 => ?_⟩ ⟨c, S.p1, S.p2, ⟨dx, f, m0, _, rfl, ?_, ?_⟩, ys', ?_, Paired.imp' (fun _ _ z => z.tups t3) pd1⟩
      · rw [upd_ne g2]
        exact k1 c o e g1 g2 g3
      · rw [upd_ne npd]
        exact hp1
      · exact h3 _ _ t3 upd_same (perm_back c.ok.nodup hm)
      · rw [upd_ne (Ne.symm ndq)]
        exact hq1
end

def sp_cell (K : PySem.W.Frag) : Sp := fun vs H Q _ => ∃ (a : Addr) (ns : List Int) (k : Nat), vs = [.ref a, .int (k : Int)] ∧ SqL K H a (ns.map V.int) ∧ ∀ z, Q (.int z) H
def sp_turn : Sp := fun vs H Q _ => ∃ c, vs = [.int c] ∧ ∀ z, 0 ≤ z → z < 1000000007 → Q (.int z) H
theorem pick8 (y : Int) : ∃ m : Nat, atI [V.int 1, .int 2, .int 3, .int 4, .int 5, .int 6, .int 4, .int 10] (y % 8) = some (.int (m : Int)) ∧ 1 ≤ m ∧ m ≤ 10 := by
  obtain ⟨h0, h1⟩ := emod2 y 8 (by decide)
  generalize y % 8 = i at h0 h1
  have hi : i = 0 ∨ i = 1 ∨ i = 2 ∨ i = 3 ∨ i = 4 ∨ i = 5 ∨ i = 6 ∨ i = 7 := by (first | lia | omega)
  rcases hi with rfl | rfl | rfl | rfl | rfl | rfl | rfl | rfl
  · exact ⟨1, atI_nat (j := 0) rfl, by decide, by decide⟩
  · exact ⟨2, atI_nat (j := 1) rfl, by decide, by decide⟩
  · exact ⟨3, atI_nat (j := 2) rfl, by decide, by decide⟩
  · exact ⟨4, atI_nat (j := 3) rfl, by decide, by decide⟩
  · exact ⟨5, atI_nat (j := 4) rfl, by decide, by decide⟩
  · exact ⟨6, atI_nat (j := 5) rfl, by decide, by decide⟩
  · exact ⟨4, atI_nat (j := 6) rfl, by decide, by decide⟩
  · exact ⟨10, atI_nat (j := 7) rfl, by decide, by decide⟩
section
variable {P : Program} {w : World} {K : PySem.W.Frag} {mg : Str → Option Value} {base : Heap} {a : Adr}
theorem G_law_cell (T : Txt K mg a) : FnOk P w K mg base CX0 1 a.f_law_cell a.d_law_cell ["script", "k"] (sp_cell K) := by
  refine T.F_law_cell.ok sc_law_cell (fun vs H Q E h => ?_) (fun cdv A outer s H vs Q E hr h => ?_)
  · obtain ⟨b, ns, k, rfl, _⟩ := h
    rfl
  · obtain ⟨b, ns, k, rfl, hS, q⟩ := h
    refine ⟨_, (pss_cons (ps_if (pt_cmpR op_lt (pv 1) (pe_callB (lenK K) (by rfl) T.n_len PySem.boot_len (pa_cons (pv 0) pa_nil)) (nomark _)) (pss_one (ps_ret (pe_ix (ixL K) (pv 0) (pv 1) (fun _ _ => rfl)))) pss_nil)
      (pss_one (ps_ret pe_int))), ?_⟩
    refine hd_law_cell ?_
    intro zz0 zz1
    refine (exq rfl (exq rfl ⟨b, _, rfl, .inl hS, _, _, rfl, rfl, exq rfl (ite2 (fun hlt => ?_) (fun _ => q 0))⟩))
    have hlt := of_decide_eq_true hlt
    rw [List.length_map] at hlt
    exact (exq rfl (exq rfl ⟨b, _, _, _, rfl, rfl, hS, atI_nat (j := k) (ints_at (by (first | lia | omega))), q _⟩))
theorem G_law_turn (T : Txt K mg a) : FnOk P w K mg base CX0 1 a.f_law_turn a.d_law_turn ["cell"] sp_turn := by
  refine T.F_law_turn.ok sc_law_turn (fun vs H Q E h => ?_) (fun cdv A outer s H vs Q E hr h => ?_)
  · obtain ⟨c, rfl, _⟩ := h
    rfl
  · obtain ⟨c, rfl, k⟩ := h
    refine ⟨_, (pss_cons (ps_set (i := 1) sc_law_turn.nd rfl (Or.inl rfl) (pe_op op_mod (pe_op op_mul (pe_op op_add (pe_op op_mod (pv 0) (pe_op op_pow pe_int pe_int)) pe_int) pe_int) pe_int))
      (pss_one (ps_ret (pe_op op_fdiv (pe_op op_mod (pe_op op_mul (pv 1) (pv 1)) pe_int) pe_int)))), ?_⟩
    refine hd_law_turn ?_
    intro zz0
    refine (exq rfl (ijq ⟨⟨by decide, by decide, by decide⟩, ijq ⟨(modC rfl), ijq (ijq ⟨.inr ⟨by decide, by decide⟩, ijq ⟨(modC rfl), ?_⟩⟩)⟩⟩))
    have h0 := emod2 ((c % 10 ^ (60 : Int).toNat + 1) * 69621) 2147483647 (by decide)
    refine (exq rfl (exq rfl (ijq ⟨.inl ⟨by have := h0.1; (first | lia | omega), by have := h0.2; (first | lia | omega)⟩, ijq ⟨(modC rfl), ijq ⟨⟨by decide, by decide⟩, ?_⟩⟩⟩)))
    have h1 := emod2 ((c % 10 ^ (60 : Int).toNat + 1) * 69621 % 2147483647 * ((c % 10 ^ (60 : Int).toNat + 1) * 69621 % 2147483647)) 1000000007 (by decide)
    exact k _ (Int.ediv_nonneg h1.1 (by decide)) (Int.lt_of_le_of_lt (Int.ediv_le_self _ h1.1) h1.2)
end

def sp_whole : Sp := fun vs H Q _ => ∃ c, vs = [.int c] ∧ Q (.bl true) H
section
variable {P : Program} {w : World} {K : PySem.W.Frag} {mg : Str → Option Value} {base : Heap} {a : Adr}
theorem G_law_whole (T : Txt K mg a) : FnOk P w K mg base CX0 1 a.f_law_whole a.d_law_whole ["found"] sp_whole := by
  refine T.F_law_whole.ok sc_law_whole (fun vs H Q E h => ?_) (fun cdv A outer s H vs Q E hr h => ?_)
  · obtain ⟨c, rfl, _⟩ := h
    rfl
  · obtain ⟨c, rfl, k⟩ := h
    refine ⟨_, (pss_one (ps_ret (pe_and (pe_callB (isiK K) (by rfl) T.n_isinstance PyProof.Rows.boot_isinstance (pa_cons (pv 0) (pa_cons (pe_ty (by rfl) T.n_int PyProof.Rows.boot_int) pa_nil))) (pe_one (pe_not (pe_callB (isiK K) (by rfl) T.n_isinstance PyProof.Rows.boot_isinstance (pa_cons (pv 0) (pa_cons (pe_ty (by rfl) T.n_bool PyProof.Rows.boot_bool) pa_nil)))))))), ?_⟩
    exact (exq rfl ⟨_, _, _, _, _, rfl, rfl, .int c, kit_ii K, _, rfl, iteT (exq rfl ⟨_, _, _, _, _, rfl, rfl, .int c, kit_ib K, _, rfl, k⟩)⟩)
end

structure NearTie (p : Int) (t : Tie) : Prop where
  a0 : 0 ≤ t.1
  a1 : t.1 < p
  b0 : 0 ≤ t.2.1
  b1 : t.2.1 < p
  l0 : 1 ≤ t.2.2
  l1 : t.2.2 ≤ 1000000000000000000000000000000
def mxp (p : Nat) : Int := if (p : Int) - 1 > 1 then (p : Int) - 1 else 1
theorem mxp_pos {p : Nat} : 0 < mxp p := by
  unfold mxp
  split <;> (first | lia | omega)
theorem mxp_le {p : Nat} (h : p ≤ 10) : mxp p ≤ 9 := by
  unfold mxp
  split <;> (first | lia | omega)
theorem pick7 (y : Int) : ∃ m, atI [V.int 9, .int 1, .int (10 ^ (30 : Int).toNat)] (y / 7 % 3) = some (.int m) ∧ 1 ≤ m ∧ m ≤ 1000000000000000000000000000000 := by
  obtain ⟨h0, h1⟩ := emod2 (y / 7) 3 (by decide)
  generalize y / 7 % 3 = i at h0 h1
  have hi : i = 0 ∨ i = 1 ∨ i = 2 := by (first | lia | omega)
  rcases hi with rfl | rfl | rfl
  · exact ⟨9, atI_nat (j := 0) rfl, by decide, by decide⟩
  · exact ⟨1, atI_nat (j := 1) rfl, by decide, by decide⟩
  · exact ⟨10 ^ (30 : Int).toNat, atI_nat (j := 2) rfl, by decide, by decide⟩
def sp_near : Sp := fun vs H Q _ => ∃ (c : Int) (p : Nat), vs = [.int c, .int (p : Int)] ∧ 1 ≤ p ∧ p ≤ 10 ∧ ∀ t b H', Same H H' → NearTie (p : Int) t → H' b = some (.tup (tieV t)) → Q (.ref b) H'
def sp_can : Sp := fun vs H Q _ => ∃ (p : Nat) (h b : Addr) (m : Held) (t : Tie), vs = [.int (p : Int), .ref h, .ref b] ∧ DictIs H h m ∧ H b = some (.tup (tieV t)) ∧ NearTie (p : Int) t ∧ ∀ B : Bool, (B = true → GoodTie (p : Int) t ∧ m.length < 24) → Q (.bl B) H
def sp_lmade : Sp := fun vs H Q _ => ∃ (h : Addr) (m : Held) (p f : Nat), vs = [.ref h] ∧ DictIs H h m ∧ HeldOk p f m ∧ ∀ b xs H', Same H H' → H' b = some (.tup xs) → Paired (TupAt H') xs (m.map (·.2)) → Q (.ref b) H'
def sp_shown (C : Addr) : Sp := fun vs H Q _ => ∃ (p d q h : Addr) (n f : Nat) (m : Held) (hs : List (Nat × Held)) (ds : List Deed) (k : Int), vs = [.ref p, .int (n : Int), .ref h, .int k] ∧ k = (ds.length : Int) ∧ StAt C H p d q n ((f, m) :: hs) ds ∧ DictIs H h m ∧
  ∀ H', Same H H' → Q (.bl true) H'
section
variable {P : Program} {w : World} {K : PySem.W.Frag} {mg : Str → Option Value} {base : Heap} {a : Adr}
theorem G_law_near (T : Txt K mg a) : FnOk P w K mg base CX0 2 a.f_law_near a.d_law_near ["cell", "points"] sp_near := by
  have G_law_turn : FnOk P w K mg base CX0 1 a.f_law_turn a.d_law_turn ["cell"] sp_turn := G_law_turn T
  refine T.F_law_near.ok sc_law_near (fun vs H Q E h => ?_) (fun cdv A outer s H vs Q E hr h => ?_)
  · obtain ⟨c, p, rfl, _⟩ := h
    rfl
  · obtain ⟨c, p, rfl, hp1, hp2, k⟩ := h
    refine ⟨_, (pss_cons (ps_set (i := 2) sc_law_near.nd rfl (Or.inl rfl) (pe_op op_fdiv (pv 0) pe_int))
      (pss_cons (ps_if (pt_cmpR op_eq (pe_op op_mod (pv 0) pe_int) pe_int (nomark _)) (pss_one (ps_set (i := 2) sc_law_near.nd rfl (Or.inl rfl) (pe_op op_add (pe_op op_mul (pe_call G_law_turn (hr.mono (by decide)) (by rfl) T.m_law_turn T.k_law_turn T.b_law_turn .nil pass0 (pa_cons (pv 0) pa_nil)) pe_int) (pe_call G_law_turn (hr.mono (by decide)) (by rfl) T.m_law_turn T.k_law_turn T.b_law_turn .nil pass0 (pa_cons (pe_op op_add (pv 0) pe_int) pa_nil))))) pss_nil)
      (pss_cons (ps_set (i := 3) sc_law_near.nd rfl (Or.inl rfl) (pe_op op_mod (pv 2) (pv 1)))
      (pss_cons (ps_set (i := 4) sc_law_near.nd rfl (Or.inl rfl) (pe_op op_mod (pe_op op_add (pe_op op_add (pv 3) pe_int) (pe_op op_mod (pe_op op_fdiv (pv 2) (pv 1)) (pe_callB (call_max2 rfl) (by rfl) T.n_max PyProof.Rows.boot_max (pa_cons pe_int (pa_cons (pe_op op_sub (pv 1) pe_int) pa_nil))))) (pv 1)))
      (pss_cons (ps_set (i := 2) sc_law_near.nd rfl (Or.inl rfl) (pe_op op_fdiv (pe_op op_fdiv (pv 2) (pv 1)) (pe_callB (call_max2 rfl) (by rfl) T.n_max PyProof.Rows.boot_max (pa_cons pe_int (pa_cons (pe_op op_sub (pv 1) pe_int) pa_nil)))))
      (pss_one (ps_ret (pe_tup (pa_cons (pv 3) (pa_cons (pv 4) (pa_cons (pe_op op_add pe_int (pe_op op_mod (pv 2) (pe_ix (ixL K) (pe_lst (pa_cons pe_int (pa_cons pe_int (pa_cons (pe_op op_pow pe_int pe_int) pa_nil)))) (pe_op op_mod (pe_op op_fdiv (pv 2) pe_int) pe_int) (fun _ _ => rfl)))) pa_nil))))))))))), ?_⟩
    refine hd_law_near ?_
    intro zz0 zz1 zz2 zz3 zz4 zz5
    have p0 : (0 : Int) < (p : Int) := by (first | lia | omega)
    have p9 : 0 < mxp p := mxp_pos
    have hd : ∀ i, CDiv i (p : Int) := fun i => ⟨by (first | lia | omega), by (first | lia | omega)⟩
    have hd1 : ∀ i, CDiv i (mxp p) := fun i => ⟨by have := @mxp_pos p; (first | lia | omega), by have := mxp_le hp2; (first | lia | omega)⟩
    have tie_ok : ∀ n m : Int, 1 ≤ m → m ≤ 1000000000000000000000000000000 → NearTie (p : Int) (n % p, (n % p + 1 + n / p % mxp p) % p, 1 + n / p / mxp p % m) := fun n m m0 m1 => by
      obtain ⟨h1, h2⟩ := emod2 (n / p / mxp p) m (by (first | lia | omega))
      exact ⟨(emod2 _ _ p0).1, (emod2 _ _ p0).2, (emod2 _ _ p0).1, (emod2 _ _ p0).2, by show 1 ≤ 1 + n / p / mxp p % m; (first | lia | omega), by show 1 + n / p / mxp p % m ≤ _; (first | lia | omega)⟩
    refine (exq rfl (ijq ⟨⟨by decide, by decide⟩, exq rfl (ijq ⟨(modC rfl), rfl, exq rfl (ite2 (fun _ => ?_) (fun _ => ?_))⟩)⟩))
    · refine (exq rfl ⟨c, rfl, fun n1 _ _ => (ijq ⟨.inr ⟨by decide, by decide⟩, exq rfl (ijq (exq rfl (fun n2 _ _ => (ijq (?_)))))⟩)⟩)
      refine (exq rfl (exq rfl (ijq ⟨p0, ?_⟩)))
      refine (exq rfl (ijq (exq rfl (exq rfl (ijq ⟨hd _, _, rfl, ijq ⟨_, _, rfl, _, _, rfl, rfl, p9, _, _, rfl, rfl, exq rfl (ijq ⟨p0, ?_⟩)⟩⟩)))))
      refine (exq rfl (exq rfl (ijq ⟨hd _, _, rfl, ijq ⟨_, _, rfl, _, _, rfl, rfl, hd1 _, ?_⟩⟩)))
      obtain ⟨m, hat, m0, m1⟩ := pick7 ((n1 * 1000003 + n2) / p / mxp p)
      refine (exq rfl (exq rfl (exq rfl (ijq ⟨⟨by decide, by decide, by decide⟩, (dl rfl), fun l hl => (exq rfl (ijq ⟨⟨by decide, by decide⟩, ijq ⟨(modC rfl), ixl (SqL.of upd_same) (hat) (ijq ⟨(by show 0 < m; (first | lia | omega)), ijq ⟨(dl rfl), fun b hb => ?_⟩⟩)⟩⟩))⟩))))
      exact k _ b _ ((Same.new hl).trans (Same.new hb)) (tie_ok _ m m0 m1) upd_same
    · refine (exq rfl (exq rfl (ijq ⟨p0, ?_⟩)))
      refine (exq rfl (ijq (exq rfl (exq rfl (ijq ⟨hd _, _, rfl, ijq ⟨_, _, rfl, _, _, rfl, rfl, p9, _, _, rfl, rfl, exq rfl (ijq ⟨p0, ?_⟩)⟩⟩)))))
      refine (exq rfl (exq rfl (ijq ⟨hd _, _, rfl, ijq ⟨_, _, rfl, _, _, rfl, rfl, hd1 _, ?_⟩⟩)))
      obtain ⟨m, hat, m0, m1⟩ := pick7 (c / 4 / p / mxp p)
      refine (exq rfl (exq rfl (exq rfl (ijq ⟨⟨by decide, by decide, by decide⟩, (dl rfl), fun l hl => (exq rfl (ijq ⟨⟨by decide, by decide⟩, ijq ⟨(modC rfl), ixl (SqL.of upd_same) (hat) (ijq ⟨(by show 0 < m; (first | lia | omega)), ijq ⟨(dl rfl), fun b hb => ?_⟩⟩)⟩⟩))⟩))))
      exact k _ b _ ((Same.new hl).trans (Same.new hb)) (tie_ok _ m m0 m1) upd_same
theorem G_law_can (T : Txt K mg a) : FnOk P w K mg base CX0 1 a.f_law_can a.d_law_can ["points", "held", "tie"] sp_can := by
  refine T.F_law_can.ok sc_law_can (fun vs H Q E h => ?_) (fun cdv A outer s H vs Q E hr h => ?_)
  · obtain ⟨p, h, b, m, t, rfl, _⟩ := h
    rfl
  · obtain ⟨p, h, b, m, t, rfl, hd, hb, g, k⟩ := h
    refine ⟨_, (pss_cons (ps_if (PW.pt (pw_or (pt_cmpR op_lt (pe_ix (ixT K) (pv 2) pe_int (fun _ _ => rfl)) pe_int (nomark _)) (pw_or (pt_cmpR op_ge (pe_ix (ixT K) (pv 2) pe_int (fun _ _ => rfl)) (pv 0) (nomark _)) (pw_or (pt_cmpR op_lt (pe_ix (ixT K) (pv 2) pe_int (fun _ _ => rfl)) pe_int (nomark _)) (pw_or (pt_cmpR op_ge (pe_ix (ixT K) (pv 2) pe_int (fun _ _ => rfl)) (pv 0) (nomark _)) (pw_or1 (pt_cmpR op_eq (pe_ix (ixT K) (pv 2) pe_int (fun _ _ => rfl)) (pe_ix (ixT K) (pv 2) pe_int (fun _ _ => rfl)) (nomark _)))))))) (pss_one (ps_ret pe_bl)) pss_nil)
      (pss_one (ps_ret (pe_and (pe_chain op_le op_le pe_int (pe_ix (ixT K) (pv 2) pe_int (fun _ _ => rfl)) (pe_op op_pow pe_int pe_int)) (pe_one (pe_cmpR op_lt (pe_callB call_lenD (by rfl) T.n_len PySem.boot_len (pa_cons (pv 1) pa_nil)) pe_int (nomark _))))))), ?_⟩
    refine hd_law_can ?_
    intro zz0 zz1
    obtain ⟨kvs, h1, h2⟩ := hd.len
    have hs := SqT.of (K := K) hb
    refine (exq rfl ⟨b, _, 0, _, rfl, rfl, hs, atI_nat (j := 0) rfl, _, _, rfl, rfl, exq rfl (iteD (by have := g.a0; (first | lia | omega)) ?_)⟩)
    refine (exq rfl ⟨b, _, 0, _, rfl, rfl, hs, atI_nat (j := 0) rfl, _, rfl, ijq (exq rfl (iteD (by have := g.a1; (first | lia | omega)) ?_))⟩)
    refine (exq rfl ⟨b, _, 1, _, rfl, rfl, hs, atI_nat (j := 1) rfl, _, _, rfl, rfl, exq rfl (iteD (by have := g.b0; (first | lia | omega)) ?_)⟩)
    refine (exq rfl ⟨b, _, 1, _, rfl, rfl, hs, atI_nat (j := 1) rfl, _, rfl, ijq (exq rfl (iteD (by have := g.b1; (first | lia | omega)) ?_))⟩)
    refine (exq rfl ⟨b, _, 0, _, rfl, rfl, hs, atI_nat (j := 0) rfl, _, rfl, b, _, 1, _, rfl, rfl, hs, atI_nat (j := 1) rfl, rfl, exq rfl (ite2 (fun _ => k false fun z => nomatch z) fun ne => ?_)⟩)
    have ne : t.1 ≠ t.2.1 := fun z => ne (decide_eq_true (by rw [z]))
    refine (exq rfl ⟨b, _, 2, _, rfl, rfl, hs, atI_nat (j := 2) rfl, _, _, rfl, rfl, exq rfl (iteP g.l0 (ijq ⟨⟨by decide, by decide, by decide⟩, ijq (exq rfl (iteP g.l1 (exq rfl ⟨h, kvs, rfl, h1, _, _, rfl, rfl, ?_⟩)))⟩))⟩)
    exact k _ fun z => ⟨⟨g.a0, g.a1, g.b0, g.b1, ne, g.l0, g.l1⟩, by have := of_decide_eq_true z; (first | lia | omega)⟩
theorem G_law_made (T : Txt K mg a) : FnOk P w K mg base CX0 1 a.f_law_made a.d_law_made ["held"] sp_lmade := by
  refine T.F_law_made.ok sc_law_made (fun vs H Q E h => ?_) (fun cdv A outer s H vs Q E hr h => ?_)
  · obtain ⟨h, m, p, f, rfl, _⟩ := h
    rfl
  · obtain ⟨h, m, p, f, rfl, hd, ok, k⟩ := h
    refine ⟨_, (pss_one (ps_ret (pe_callTy (tuplK K) (by rfl) T.n_tuple PyProof.Rows.boot_tuple (pa_cons (pe_comp (own := ["name"]) (frees := ["held"]) (js := [0]) (compText_of (defScope s_law_made) ["held"]) rfl (piL K (pe_callB (sortedD rfl) (by rfl) T.n_sorted PyProof.Rows.boot_sorted (pa_cons (pv 0) pa_nil))) (fun _ _ _ _ => (pg_name (i := 0) (show (["name", "held"] : List Str).Nodup by decide +kernel) rfl (Or.inl rfl))) (fun _ _ _ _ => pts_nil) (fun _ _ _ _ => (pe_dget (by exact hu_of hr) (pv 1) (pv 0) (fun _ _ => rfl)))) pa_nil)))), ?_⟩
    obtain ⟨kvs, ns, h1, h2, h3, h4⟩ := hd.sorted ok
    have few := ok.few
    refine (exq rfl ⟨h, kvs, ns, rfl, h1, h2, h3, fun l ns' hl hpm hso => ?_⟩)
    rw [h4 ns' hpm hso]
    refine ⟨l, rfl, ⟨_, SqL.of upd_same⟩, fun D hD => ?_⟩
    have s1 : Same H (upd H l (.lst (natsV (m.map (·.1))))) := Same.new hl
    refine comp_list (xs := natsV (m.map (·.1))) (fun i acc H2 => Same (upd H l (.lst (natsV (m.map (·.1))))) H2 ∧ H2 D = some (.lst acc) ∧ Paired (TupAt H2) acc ((m.map (·.2)).take i) ∧ acc.length = i) ⟨Same.new hD, upd_same, .nil, rfl⟩ ?_ (by rw [natsV_len, List.length_map]; exact small24 few) ?_ ?_
    · rintro i acc H2 _ ⟨s2, hd2, pr, hac⟩
      exact ⟨SqL.of (s2 _ _ upd_same), hd2, Nat.le_of_eq hac⟩
    · rintro i x acc H2 hx ⟨s2, hd2, pr, hac⟩
      obtain ⟨nm, hnm, rfl⟩ := natsV_get hx
      rw [List.getElem?_map] at hnm
      obtain ⟨⟨nm', t⟩, hmt, e⟩ := Option.map_eq_some_iff.mp hnm
      have e : nm' = nm := e
      subst e
      obtain ⟨kvs, b, g1, g2, g3⟩ := (hd.same (s1.trans s2)).get ok (List.mem_of_getElem? hmt)
      refine ⟨rfl, exq rfl (exq rfl ⟨h, .ref b, rfl, (by have z := DGet.k (k := kN nm') g1; rw [g2] at z; exact z), hd2, s2.put hD, upd_same, ?_, by rw [List.length_append, List.length_singleton, hac]⟩)⟩
      rw [List.take_add_one, List.getElem?_map, hmt]
      exact Paired.snoc (Paired.imp' (fun _ _ z => z.tups (Tups.put hd2)) pr) ⟨b, rfl, Tups.put hd2 _ _ g3⟩
    · rintro acc H2 ⟨s2, hd2, pr, hac⟩
      rw [natsV_len, List.length_map, show m.length = (m.map (·.2)).length from (List.length_map _).symm, List.take_length] at pr
      refine ⟨D, acc, rfl, .inl ⟨SqL.of hd2, fun l' hl' => ?_⟩⟩
      have s3 : Same H2 (upd H2 l' (.tup acc)) := Same.new hl'
      exact k l' acc _ ((s1.trans s2).trans s3) upd_same (Paired.imp' (fun _ _ z => z.tups s3.tups) pr)
theorem G_law_shown (T : Txt K mg a) : FnOk P w K mg base CX0 4 a.f_law_shown a.d_law_shown ["standing", "points", "held", "many"] (sp_shown a.c_Standing) := by
  have G_law_whole : FnOk P w K mg base CX0 1 a.f_law_whole a.d_law_whole ["found"] sp_whole := G_law_whole T
  have G_law_made : FnOk P w K mg base CX0 1 a.f_law_made a.d_law_made ["held"] sp_lmade := G_law_made T
  have G_Standing_names : FnOk P w K mg base CX0 1 a.f_Standing_names a.d_Standing_names ["self"] (spS_names a.c_Standing) := G_Standing_names T
  have G_Standing_web_now : FnOk P w K mg base CX0 3 a.f_Standing_web_now a.d_Standing_web_now ["self"] (spS_web_now a.c_Standing) := G_Standing_web_now T
  have G_Standing_deeds : FnOk P w K mg base CX0 1 a.f_Standing_deeds a.d_Standing_deeds ["self"] (spS_deeds a.c_Standing) := G_Standing_deeds T
  refine T.F_law_shown.ok sc_law_shown (fun vs H Q E h => ?_) (fun cdv A outer s H vs Q E hr h => ?_)
  · obtain ⟨p, d, q, h, n, f, m, hs, ds, k, rfl, _⟩ := h
    rfl
  · obtain ⟨p, d, q, h, n, f, m, hs, ds, k0, rfl, rfl, S, hd, k⟩ := h
    refine ⟨_, (pss_cons (ps_if (PW.pt (pw_or (pt_cmpR (op_neK K hr.units) (pe_meth0 (pv 0) T.cl_Standing T.mt_Standing_web_now G_Standing_web_now (hr.mono (by decide)) T.b_Standing_web_now .nil pass0) (pe_tup (pa_cons (pv 1) (pa_cons (pe_call G_law_made (hr.mono (by decide)) (by rfl) T.m_law_made T.k_law_made T.b_law_made .nil pass0 (pa_cons (pv 2) pa_nil)) pa_nil))) (nomark _)) (pw_or1 (pt_cmpR op_ne (pe_meth0 (pv 0) T.cl_Standing T.mt_Standing_deeds G_Standing_deeds (hr.mono (by decide)) T.b_Standing_deeds .nil pass0) (pv 3) (nomark _))))) (pss_one (ps_ret pe_bl)) pss_nil)
      (pss_cons (ps_set (i := 4) sc_law_shown.nd rfl (Or.inl rfl) (pe_meth0 (pv 0) T.cl_Standing T.mt_Standing_names G_Standing_names (hr.mono (by decide)) T.b_Standing_names .nil pass0))
      (pss_cons (ps_if (PW.pt (pw_or (pt_not (pt_val (pe_callB (isiK K) (by rfl) T.n_isinstance PyProof.Rows.boot_isinstance (pa_cons (pv 4) (pa_cons (pe_ty (by rfl) T.n_list PyProof.Rows.boot_list) pa_nil))))) (pw_or1 (pt_cmpR (op_neK K hr.units) (pv 4) (pe_callB (sortedD rfl) (by rfl) T.n_sorted PyProof.Rows.boot_sorted (pa_cons (pv 2) pa_nil)) (nomark _))))) (pss_one (ps_ret pe_bl)) pss_nil)
      (pss_one (ps_ret (pe_cmpR op_eq (pe_callB (lenK K) (by rfl) T.n_len PySem.boot_len (pa_cons (pe_comp (own := ["name"]) (frees := []) (js := []) (compText_of (defScope s_law_shown) ["standing", "points", "held", "many", "found"]) rfl (piL K (pv 4)) (fun _ _ _ _ => (pg_name (i := 0) (show (["name"] : List Str).Nodup by decide +kernel) rfl (Or.inl rfl))) (fun _ _ _ _ => (pts_one (pt_not (pt_val (pe_call G_law_whole (hr.mono (by decide)) (by rfl) T.m_law_whole T.k_law_whole T.b_law_whole .nil pass0 (pa_cons (pv 0) pa_nil)))))) (fun _ _ _ _ => (pv 0))) pa_nil)) pe_int (nomark _))))))), ?_⟩
    refine hd_law_shown ?_
    intro zz0 zz1 zz2 zz3 zz4
    have ok := S.ch.ok
    have few := ok.few
    obtain ⟨dx, _, _, _, e, hp, hsd⟩ := S.ob
    cases e
    refine (exq rfl ⟨p, dx, _, rfl, hp, fl_no (by decide +kernel) (by decide +kernel) (by decide +kernel) (by decide +kernel), p, d, q, n, f, m, hs, ds, rfl, S, fun w0 H1 s1 hw => ?_⟩)
    refine (exq rfl (exq rfl ⟨h, m, n, f, rfl, hd.same s1, ok, fun b xs H2 s2 hb pr => ⟨dl rfl, fun w1 hw1 => ?_⟩⟩))
    have s3 : Same H2 (upd H2 w1 (.tup [.int (n : Int), .ref b])) := Same.new hw1
    have W1 : WebAt (upd H2 w1 (.tup [.int (n : Int), .ref b])) w1 n (m.map (·.2)) := ⟨b, xs, upd_same, s3 _ _ hb, Paired.imp' (fun _ _ z => z.tups s3.tups) pr⟩
    have W0 := hw.same (s2.trans s3)
    have s03 : Same H (upd H2 w1 (.tup [.int (n : Int), .ref b])) := (s1.trans s2).trans s3
    generalize upd H2 w1 (.tup [.int (n : Int), .ref b]) = H3 at W1 W0 s03
    refine ⟨_, _, web_dat W0, web_dat W1, shaped_web _ _, shaped_web _ _, _, rfl, ?_⟩
    rw [SeqAt.eqv_refl _ (lay_web n (m.map (·.2)))]
    refine iteF ?_
    refine (exq rfl ⟨p, dx, _, rfl, s03 _ _ hp, fl_no (by decide +kernel) (by decide +kernel) (by decide +kernel) (by decide +kernel), p, d, q, n, _, ds, rfl, S.same s03, _, rfl, rfl, exq rfl (iteNS rfl ?_)⟩)
    refine (exq rfl ⟨p, dx, _, rfl, s03 _ _ hp, fl_no (by decide +kernel) (by decide +kernel) (by decide +kernel) (by decide +kernel), p, d, q, n, f, m, hs, ds, rfl, S.same s03, fun l hl => ?_⟩)
    have s4 : Same H3 (upd H3 l (.lst (natsV (m.map (·.1))))) := Same.new hl
    have hl4 : upd H3 l (.lst (natsV (m.map (·.1)))) l = some (.lst (natsV (m.map (·.1)))) := upd_same
    have s04 := s03.trans s4
    generalize upd H3 l (.lst (natsV (m.map (·.1)))) = H4 at hl4 s04
    obtain ⟨kvs, ns, h1, h2, h3, h4⟩ := (hd.same s04).sorted ok
    refine (exq rfl ⟨_, _, _, _, _, rfl, rfl, .lst hl4, kit_ll K, _, rfl, iteF (exq rfl (exq rfl ⟨h, kvs, ns, rfl, h1, h2, h3, fun l2 ns' hl2 hpm hso => ?_⟩))⟩)
    rw [h4 ns' hpm hso]
    have s5 : Same H4 (upd H4 l2 (.lst (natsV (m.map (·.1))))) := Same.new hl2
    refine ⟨_, _, .lst (SqL.of (s5 _ _ hl4)) (nats_dat _), .lst (SqL.of upd_same) (nats_dat _), shaped_nats _, shaped_nats _, _, rfl, ?_⟩
    rw [SeqAt.eqv_refl _ (lay_list _)]
    have s05 := s04.trans s5
    have hl5 := s5 _ _ hl4
    generalize upd H4 l2 (.lst (natsV (m.map (·.1)))) = H5 at s05 hl5
    refine iteF (exq rfl ⟨l, rfl, ⟨_, SqL.of hl5⟩, fun D hD => comp_list (xs := natsV (m.map (·.1))) (fun i acc H6 => Same H5 H6 ∧ H6 D = some (.lst []) ∧ acc = []) ⟨Same.new hD, upd_same, rfl⟩ ?_ (by rw [natsV_len, List.length_map]; exact small24 few) ?_ ?_⟩)
    · rintro i acc H6 _ ⟨s6, hD6, rfl⟩
      exact ⟨SqL.of (s6 _ _ hl5), hD6, Nat.zero_le _⟩
    · rintro i x acc H6 hx ⟨s6, hD6, rfl⟩
      obtain ⟨k, _, rfl⟩ := natsV_get hx
      exact ⟨rfl, exq rfl (exq rfl (exq rfl (iteF ⟨s6, hD6, rfl⟩)))⟩
    · rintro acc H6 ⟨s6, hD6, rfl⟩
      exact ⟨D, [], rfl, .inl (SqL.of hD6), rfl, k H6 (s05.trans s6)⟩
end

theorem ctx_of {X D9 : Addr} {H H' : Hp} {od : Option Addr} {c : Value} (q : CtxE (fun cls _ H' => (cls = .ref X ∨ ∃ e' : Addr, cls = .int (X : Int) e') ∧ Same H H') (.ref D9) od c H') : D9 = X ∧ Chn c H' ∧ Same H H' := by
  refine ⟨?_, Chn.of q, ?_⟩ <;> rcases q with ⟨_, _, h, s⟩ | ⟨C, e', C', h0, _, _, _, h, s⟩
  · rcases h with h | ⟨_, h⟩
    · cases h
      rfl
    · cases h
  · cases h0
    rcases h with h | ⟨e2, h⟩
    · cases h
    · have z : (D9 : Int) = (X : Int) := by injection h
      exact Int.ofNat.inj z
  · exact s
  · exact s
def BadAt (H : Hp) (n : Nat) (m : Held) (x : V) : Prop := ∃ b, x = .ref b ∧ ((∃ t : Tie, H b = some (.tup [.str "put", .int t.1, .int t.2.1, .int t.2.2]) ∧ ¬ (GoodTie (n : Int) t ∧ m.length < 24)) ∨
  ∃ z : Int, H b = some (.tup [.str "drop", .int z]) ∧ ∀ e ∈ m, ((e.1 : Nat) : Int) ≠ z)
def sp_no_web : Sp := fun vs H Q _ => ∃ z : Int, vs = [.int z] ∧ ¬ (1 ≤ z ∧ z ≤ 10) ∧ ∀ H', Same H H' → Q (.bl true) H'
def sp_refused (C : Addr) : Sp := fun vs H Q _ => ∃ (p d q b : Addr) (n f : Nat) (m : Held) (hs : List (Nat × Held)) (ds : List Deed), vs = [.ref p, .ref b] ∧ StAt C H p d q n ((f, m) :: hs) ds ∧ ds.length ≤ 900 ∧
  (BadAt H n m (.ref b) ∨ (ds = [] ∧ H b = some (.tup [.str "back"]))) ∧ ∀ H', Same H H' → Q (.bl true) H'
section
variable {P : Program} {w : World} {K : PySem.W.Frag} {mg : Str → Option Value} {base : Heap} {a : Adr}
theorem G_law_no_web (T : Txt K mg a) : FnOk P w K mg base CX0 5 a.f_law_no_web a.d_law_no_web ["points"] sp_no_web := by
  have G_law_kinds := fun ea => G_law_kinds (P := P) (w := w) (base := base) T ea
  have G_Standing_init : FnOk P w K mg base (CX1 P w) 3 a.f_Standing_init a.d_Standing_init ["self", "points"] (spS_init a.c_Standing a.c_BadWeb) := G_Standing_init T
  refine T.F_law_no_web.ok sc_law_no_web (fun vs H Q E h => ?_) (fun cdv A outer s H vs Q E hr h => ?_)
  · obtain ⟨z, rfl, _⟩ := h
    rfl
  · obtain ⟨z, rfl, nz, q⟩ := h
    refine ⟨_, (pss_cons (ps_set (i := 1) sc_law_no_web.nd rfl (Or.inl rfl) pe_non)
      (pss_cons (ps_tryC (i := 2) K rfl rfl rfl sc_law_no_web.nd rfl rfl (by rfl) T.g_RingError (fun E pn xe hp => (pss_one (ps_expr (pe_make T.mk_Standing G_Standing_init (hr.mono (by decide)) (by rfl) T.g_Standing T.b_Standing_init .nil hp (pa_cons (pv 0) pa_nil))))) (fun ea pn => (pss_one (ps_set (i := 1) sc_law_no_web.nd rfl (Or.inl rfl) (pe_callH (G_law_kinds ea) ((hr.mono (by decide)).mark ea) (by rfl) T.m_law_kinds T.k_law_kinds T.b_law_kinds .nil (pa_cons (pv 2) pa_nil))))))
      (pss_one (ps_ret (pe_cmpR (op_eqK K hr.units) (pv 1) (pe_lst (pa_cons pe_int pa_nil)) (nomark _)))))), ?_⟩
    refine hd_law_no_web ?_
    intro zz0 zz1
    refine ⟨fun cls od H' => (cls = .ref a.c_BadWeb ∨ ∃ e' : Addr, cls = .int (a.c_BadWeb : Int) e') ∧ Same H H', ?_, ?_⟩
    · exact (exq rfl (fun x dx h1 h2 h3 => ⟨x, dx, z, rfl, upd_same, fun n e p1 p2 => absurd ⟨by (first | lia | omega), by (first | lia | omega)⟩ nz, fun _ H' s' => ⟨.inl rfl, ((Same.new h2).trans (Same.new (by rw [upd_ne (Ne.symm h3)]; exact h1))).trans s'⟩⟩))
    · rintro D9 od c H' cx
      obtain ⟨rfl, cn, s1⟩ := ctx_of cx
      refine ⟨T.h_BadWeb, fun ea hea => ?_⟩
      have s2 := s1.trans (Same.new (o := ExcC ea (.ref a.c_BadWeb) c) hea)
      refine (exq rfl ⟨rfl, a.c_BadWeb, 0, c, upd_same, cn.put hea, kinds_BadWeb T, fun D H3 hD s3 hD3 => ?_⟩)
      refine (exq rfl ⟨dl rfl, fun l hl => ⟨_, _, .lst (SqL.of (Same.new hl _ _ hD3)) (nats_dat [0]), .lst (SqL.of upd_same) (nats_dat [0]), shaped_nats _, shaped_nats _, ?_⟩⟩)
      rw [eqv_nats]
      exact q _ ((s2.trans s3).trans (Same.new hl))
theorem G_law_refused (T : Txt K mg a) : FnOk P w K mg base CX0 4 a.f_law_refused a.d_law_refused ["standing", "deed"] (sp_refused a.c_Standing) := by
  have G_law_kinds := fun ea => G_law_kinds (P := P) (w := w) (base := base) T ea
  have G_Standing_put : FnOk P w K mg base (CX1 P w) 3 a.f_Standing_put a.d_Standing_put ["self", "one", "other", "length"] (spS_put a.c_Standing a.c_NoDeed) := G_Standing_put T
  have G_Standing_drop : FnOk P w K mg base (CX1 P w) 1 a.f_Standing_drop a.d_Standing_drop ["self", "name"] (spS_drop a.c_Standing a.c_NoDeed) := G_Standing_drop T
  have G_Standing_back : FnOk P w K mg base (CX1 P w) 1 a.f_Standing_back a.d_Standing_back ["self"] (spS_back a.c_Standing a.c_NoDeed) := G_Standing_back T
  refine T.F_law_refused.ok sc_law_refused (fun vs H Q E h => ?_) (fun cdv A outer s H vs Q E hr h => ?_)
  · obtain ⟨p, d, q, b, n, f, m, hs, ds, rfl, _⟩ := h
    rfl
  · obtain ⟨p, d, q, b, n, f, m, hs, ds, rfl, S, dl9, hb, k⟩ := h
    refine ⟨_, (pss_cons (ps_set (i := 2) sc_law_refused.nd rfl (Or.inl rfl) pe_non)
      (pss_cons (ps_tryC (i := 3) K rfl rfl rfl sc_law_refused.nd rfl rfl (by rfl) T.g_RingError (fun E pn xe hp => (pss_one (ps_if (pt_cmpR op_eq (pe_ix (ixT K) (pv 1) pe_int (fun _ _ => rfl)) pe_str (nomark _)) (pss_one (ps_expr (pe_meth (pv 0) T.cl_Standing T.mt_Standing_put G_Standing_put (hr.mono (by decide)) T.b_Standing_put .nil hp (pa_cons (pe_ix (ixT K) (pv 1) pe_int (fun _ _ => rfl)) (pa_cons (pe_ix (ixT K) (pv 1) pe_int (fun _ _ => rfl)) (pa_cons (pe_ix (ixT K) (pv 1) pe_int (fun _ _ => rfl)) pa_nil)))))) (pss_one (ps_if (pt_cmpR op_eq (pe_ix (ixT K) (pv 1) pe_int (fun _ _ => rfl)) pe_str (nomark _)) (pss_one (ps_expr (pe_meth (pv 0) T.cl_Standing T.mt_Standing_drop G_Standing_drop (hr.mono (by decide)) T.b_Standing_drop .nil hp (pa_cons (pe_ix (ixT K) (pv 1) pe_int (fun _ _ => rfl)) pa_nil)))) (pss_one (ps_expr (pe_meth0 (pv 0) T.cl_Standing T.mt_Standing_back G_Standing_back (hr.mono (by decide)) T.b_Standing_back .nil hp)))))))) (fun ea pn => (pss_one (ps_set (i := 2) sc_law_refused.nd rfl (Or.inl rfl) (pe_callH (G_law_kinds ea) ((hr.mono (by decide)).mark ea) (by rfl) T.m_law_kinds T.k_law_kinds T.b_law_kinds .nil (pa_cons (pv 3) pa_nil))))))
      (pss_one (ps_ret (pe_cmpR (op_eqK K hr.units) (pv 2) (pe_lst (pa_cons pe_int pa_nil)) (nomark _)))))), ?_⟩
    refine hd_law_refused ?_
    intro zz0 zz1
    obtain ⟨dx, _, _, _, e, hp, hd⟩ := S.ob
    cases e
    refine ⟨fun cls od H' => (cls = .ref a.c_NoDeed ∨ ∃ e' : Addr, cls = .int (a.c_NoDeed : Int) e') ∧ Same H H', ?_, ?_⟩
    · rcases hb with ⟨_, e, ⟨t, ht, ng⟩ | ⟨z, hz, nz⟩⟩ | ⟨rfl, hz⟩
      · cases e
        have hT := SqT.of (K := K) ht
        refine (exq rfl ⟨b, _, 0, _, rfl, rfl, hT, atI_nat (j := 0) rfl, rfl, exq rfl (iteP rfl ?_)⟩)
        refine (exq rfl ⟨p, dx, _, rfl, hp, fl_no (by decide +kernel) (by decide +kernel) (by decide +kernel) (by decide +kernel), exq rfl ⟨b, _, 1, _, rfl, rfl, hT, atI_nat (j := 1) rfl, _, rfl, b, _, 2, _, rfl, rfl, hT, atI_nat (j := 2) rfl, _, rfl, b, _, 3, _, rfl, rfl, hT, atI_nat (j := 3) rfl, ?_⟩⟩)
        exact ⟨p, d, q, n, f, m, hs, ds, t, rfl, S, dl9, fun g few => absurd ⟨g, few⟩ ng, fun _ e' H' s' => ⟨.inr ⟨e', rfl⟩, s'⟩⟩
      · cases e
        have hT := SqT.of (K := K) hz
        refine (exq rfl ⟨b, _, 0, _, rfl, rfl, hT, atI_nat (j := 0) rfl, rfl, exq rfl (iteD (by decide +kernel) ?_)⟩)
        refine (exq rfl ⟨b, _, 0, _, rfl, rfl, hT, atI_nat (j := 0) rfl, rfl, exq rfl (iteP rfl ?_)⟩)
        refine (exq rfl ⟨p, dx, _, rfl, hp, fl_no (by decide +kernel) (by decide +kernel) (by decide +kernel) (by decide +kernel), exq rfl ⟨b, _, 1, _, rfl, rfl, hT, atI_nat (j := 1) rfl, ?_⟩⟩)
        exact ⟨p, d, q, n, f, m, hs, ds, z, rfl, S, dl9, .inr ⟨nz, fun H' s' => ⟨.inl rfl, s'⟩⟩⟩
      · have hT := SqT.of (K := K) hz
        refine (exq rfl ⟨b, _, 0, _, rfl, rfl, hT, atI_nat (j := 0) rfl, rfl, exq rfl (iteD (by decide +kernel) ?_)⟩)
        refine (exq rfl ⟨b, _, 0, _, rfl, rfl, hT, atI_nat (j := 0) rfl, rfl, exq rfl (iteD (by decide +kernel) ?_)⟩)
        refine (exq rfl ⟨p, dx, _, rfl, hp, fl_no (by decide +kernel) (by decide +kernel) (by decide +kernel) (by decide +kernel), ?_⟩)
        exact ⟨p, d, q, n, rfl, .inr ⟨_, S, fun H' s' => ⟨.inl rfl, s'⟩⟩⟩
    · rintro D9 od c H' cx
      obtain ⟨rfl, cn, s1⟩ := ctx_of cx
      refine ⟨T.h_NoDeed, fun ea hea => ?_⟩
      have s2 := s1.trans (Same.new (o := ExcC ea (.ref a.c_NoDeed) c) hea)
      refine (exq rfl ⟨rfl, a.c_NoDeed, 9, c, upd_same, cn.put hea, kinds_NoDeed T, fun D H3 hD s3 hD3 => ?_⟩)
      refine (exq rfl ⟨dl rfl, fun l hl => ⟨_, _, .lst (SqL.of (Same.new hl _ _ hD3)) (nats_dat [9]), .lst (SqL.of upd_same) (nats_dat [9]), shaped_nats _, shaped_nats _, ?_⟩⟩)
      rw [eqv_nats]
      exact k _ ((s2.trans s3).trans (Same.new hl))
end

theorem some4 (p r1 r2 y : Int) (hp : 1 ≤ p) (h1 : 0 ≤ r1) (h2 : 0 ≤ r2) : ∃ v, atI [V.int (-1), .int p, .int (p + 1 + r1), .int (-2 - r2)] (y % 4) = some (.int v) ∧ (v < 0 ∨ p ≤ v) := by
  obtain ⟨h0, h5⟩ := emod2 y 4 (by decide)
  generalize y % 4 = i at h0 h5
  have hi : i = 0 ∨ i = 1 ∨ i = 2 ∨ i = 3 := by (first | lia | omega)
  rcases hi with rfl | rfl | rfl | rfl
  · exact ⟨_, atI_nat (j := 0) rfl, .inl (by decide)⟩
  · exact ⟨_, atI_nat (j := 1) rfl, .inr (Int.le_refl _)⟩
  · exact ⟨_, atI_nat (j := 2) rfl, .inr (by (first | lia | omega))⟩
  · exact ⟨_, atI_nat (j := 3) rfl, .inl (by (first | lia | omega))⟩
theorem len5b (l y : Int) (hl : 1 ≤ l) : ∃ v, atI [V.int 0, .int (-1), .int (10 ^ (30 : Int).toNat + 1), .int (-l), .int (10 ^ (45 : Int).toNat)] (y % 5) = some (.int v) ∧ (v < 1 ∨ 1000000000000000000000000000000 < v) := by
  obtain ⟨h0, h5⟩ := emod2 y 5 (by decide)
  generalize y % 5 = i at h0 h5
  have hi : i = 0 ∨ i = 1 ∨ i = 2 ∨ i = 3 ∨ i = 4 := by (first | lia | omega)
  rcases hi with rfl | rfl | rfl | rfl | rfl
  · exact ⟨_, atI_nat (j := 0) rfl, .inl (by decide)⟩
  · exact ⟨_, atI_nat (j := 1) rfl, .inl (by decide)⟩
  · exact ⟨_, atI_nat (j := 2) rfl, .inr (by decide)⟩
  · exact ⟨_, atI_nat (j := 3) rfl, .inl (by (first | lia | omega))⟩
  · exact ⟨_, atI_nat (j := 4) rfl, .inr (by decide)⟩
theorem BadAt.tups {H H' : Hp} {n : Nat} {m : Held} {x : V} (h : BadAt H n m x) (s : Tups H H') : BadAt H' n m x := by
  obtain ⟨b, rfl, ⟨t, ht, ng⟩ | ⟨z, hz, ng⟩⟩ := h
  · exact ⟨b, rfl, .inl ⟨t, s _ _ ht, ng⟩⟩
  · exact ⟨b, rfl, .inr ⟨z, s _ _ hz, ng⟩⟩
theorem BadAt.same {H H' : Hp} {n : Nat} {m : Held} {x : V} (h : BadAt H n m x) (s : Same H H') : BadAt H' n m x := h.tups s.tups
theorem bad_put {H : Hp} {n : Nat} {m : Held} {b : Addr} (t : Tie) (h : H b = none) (ng : ¬ (GoodTie (n : Int) t ∧ m.length < 24)) : BadAt (upd H b (.tup [.str "put", .int t.1, .int t.2.1, .int t.2.2])) n m (.ref b) := ⟨b, rfl, .inl ⟨t, upd_same, ng⟩⟩
theorem bad_drop {H : Hp} {n : Nat} {m : Held} {b : Addr} (z : Int) (h : H b = none) (ng : ∀ e ∈ m, ((e.1 : Nat) : Int) ≠ z) : BadAt (upd H b (.tup [.str "drop", .int z])) n m (.ref b) := ⟨b, rfl, .inr ⟨z, upd_same, ng⟩⟩
def sp_bad : Sp := fun vs H Q _ => ∃ (h : Addr) (n f : Nat) (m : Held) (z : Int), vs = [.int (n : Int), .ref h, .int (f : Int), .int z] ∧ 1 ≤ n ∧ n ≤ 10 ∧ f ≤ 900 ∧ 0 ≤ z ∧ DictIs H h m ∧ HeldOk n f m ∧
  ∀ l xs H', Same H H' → H' l = some (.lst xs) → xs.length ≤ 20 → (∀ x ∈ xs, BadAt H' n m x) → Q (.ref l) H'
section
variable {P : Program} {w : World} {K : PySem.W.Frag} {mg : Str → Option Value} {base : Heap} {a : Adr}
theorem G_law_bad_deeds (T : Txt K mg a) : FnOk P w K mg base CX0 3 a.f_law_bad_deeds a.d_law_bad_deeds ["points", "held", "fresh", "turn"] sp_bad := by
  have G_law_near : FnOk P w K mg base CX0 2 a.f_law_near a.d_law_near ["cell", "points"] sp_near := G_law_near T
  refine T.F_law_bad_deeds.ok sc_law_bad_deeds (fun vs H Q E h => ?_) (fun cdv A outer s H vs Q E hr h => ?_)
  · obtain ⟨h, n, f, m, z, rfl, _⟩ := h
    rfl
  · obtain ⟨h, n, f, m, z, rfl, n1, n2, f9, z0, hd, ok, k⟩ := h
    refine ⟨_, (pss_cons (ps_set (i := 4) sc_law_bad_deeds.nd rfl (Or.inl rfl) (pe_call G_law_near (hr.mono (by decide)) (by rfl) T.m_law_near T.k_law_near T.b_law_near .nil pass0 (pa_cons (pv 3) (pa_cons (pv 0) pa_nil))))
      (pss_cons (ps_set (i := 5) sc_law_bad_deeds.nd rfl (Or.inl rfl) (pe_ix (ixL K) (pe_lst (pa_cons (pe_un un_neg pe_int) (pa_cons (pv 0) (pa_cons (pe_op op_add (pe_op op_add (pv 0) pe_int) (pe_op op_mod (pe_op op_fdiv (pv 3) pe_int) (pe_op op_pow pe_int pe_int))) (pa_cons (pe_op op_sub (pe_un un_neg pe_int) (pe_op op_mod (pe_op op_fdiv (pv 3) pe_int) (pe_op op_pow pe_int pe_int))) pa_nil))))) (pe_op op_mod (pe_op op_fdiv (pv 3) pe_int) pe_int) (fun _ _ => rfl)))
      (pss_cons (ps_set (i := 6) sc_law_bad_deeds.nd rfl (Or.inl rfl) (pe_ix (ixL K) (pe_lst (pa_cons pe_int (pa_cons (pe_un un_neg pe_int) (pa_cons (pe_op op_add (pe_op op_pow pe_int pe_int) pe_int) (pa_cons (pe_un un_neg (pe_ix (ixT K) (pv 4) pe_int (fun _ _ => rfl))) (pa_cons (pe_op op_pow pe_int pe_int) pa_nil)))))) (pe_op op_mod (pe_op op_fdiv (pv 3) pe_int) pe_int) (fun _ _ => rfl)))
      (pss_cons (ps_set (i := 7) sc_law_bad_deeds.nd rfl (Or.inl rfl) (pe_lst (pa_cons (pe_tup (pa_cons pe_str (pa_cons (pv 5) (pa_cons (pe_ix (ixT K) (pv 4) pe_int (fun _ _ => rfl)) (pa_cons (pe_ix (ixT K) (pv 4) pe_int (fun _ _ => rfl)) pa_nil))))) (pa_cons (pe_tup (pa_cons pe_str (pa_cons (pe_ix (ixT K) (pv 4) pe_int (fun _ _ => rfl)) (pa_cons (pv 5) (pa_cons (pe_ix (ixT K) (pv 4) pe_int (fun _ _ => rfl)) pa_nil))))) (pa_cons (pe_tup (pa_cons pe_str (pa_cons (pe_ix (ixT K) (pv 4) pe_int (fun _ _ => rfl)) (pa_cons (pe_ix (ixT K) (pv 4) pe_int (fun _ _ => rfl)) (pa_cons (pe_ix (ixT K) (pv 4) pe_int (fun _ _ => rfl)) pa_nil))))) pa_nil)))))
      (pss_cons (ps_set (i := 7) sc_law_bad_deeds.nd rfl (Or.inl rfl) (pe_op (catL K) (pv 7) (pe_lst (pa_cons (pe_tup (pa_cons pe_str (pa_cons (pe_ix (ixT K) (pv 4) pe_int (fun _ _ => rfl)) (pa_cons (pe_ix (ixT K) (pv 4) pe_int (fun _ _ => rfl)) (pa_cons (pv 6) pa_nil))))) (pa_cons (pe_tup (pa_cons pe_str (pa_cons (pv 2) pa_nil))) (pa_cons (pe_tup (pa_cons pe_str (pa_cons (pe_un un_neg pe_int) pa_nil))) (pa_cons (pe_tup (pa_cons pe_str (pa_cons (pe_op op_add (pv 2) (pv 3)) pa_nil))) pa_nil)))))))
      (pss_cons (ps_comp (i := 8) sc_law_bad_deeds.nd rfl rfl (own := ["name"]) (frees := ["held"]) (js := [1]) (compText_of (defScope s_law_bad_deeds) ["points", "held", "fresh", "turn", "tie", "some", "length", "deeds", "gone"]) rfl (pi_range1 (by rfl) T.n_range (pa_cons (pv 2) pa_nil)) (fun _ _ _ _ => (pg_name (i := 0) (show (["name", "held"] : List Str).Nodup by decide +kernel) rfl (Or.inl rfl))) (fun _ _ _ _ => (pts_one (pt_cmp (pc_dnotin (by exact hu_of hr) (pv 0) (pv 1))))) (fun _ _ _ _ => (pv 0)))
      (pss_cons (ps_if (pt_cmpR op_gt (pe_callB (lenK K) (by rfl) T.n_len PySem.boot_len (pa_cons (pv 8) pa_nil)) pe_int (nomark _)) (pss_one (ps_expr (bmK K (pe_bm PySem.F.plainAttrs_list PySem.F.slot_list_append PySem.F.type_list_append mt_append (pv 7) (pa_cons (pe_tup (pa_cons pe_str (pa_cons (pe_ix (ixL K) (pv 8) (pe_op op_mod (pv 3) (pe_callB (lenK K) (by rfl) T.n_len PySem.boot_len (pa_cons (pv 8) pa_nil))) (fun _ _ => rfl)) pa_nil))) pa_nil))))) pss_nil)
      (pss_cons (ps_if (pt_cmpR op_eq (pe_callB call_lenD (by rfl) T.n_len PySem.boot_len (pa_cons (pv 1) pa_nil)) pe_int (nomark _)) (pss_one (ps_expr (bmK K (pe_bm PySem.F.plainAttrs_list PySem.F.slot_list_append PySem.F.type_list_append mt_append (pv 7) (pa_cons (pe_tup (pa_cons pe_str (pa_cons (pe_ix (ixT K) (pv 4) pe_int (fun _ _ => rfl)) (pa_cons (pe_ix (ixT K) (pv 4) pe_int (fun _ _ => rfl)) (pa_cons (pe_ix (ixT K) (pv 4) pe_int (fun _ _ => rfl)) pa_nil))))) pa_nil))))) pss_nil)
      (pss_one (ps_ret (pv 7))))))))))), ?_⟩
    refine hd_law_bad_deeds ?_
    intro zz0 zz1 zz2 zz3 zz4 zz5 zz6 zz7 zz8 zz9
    refine (exq rfl (exq rfl ⟨z, n, rfl, n1, n2, fun t bt H1 s1 nt hbt => ?_⟩))
    have hT := hbt
    obtain ⟨sv, hsv, sbad⟩ := some4 n (z / 8 % 10 ^ (6 : Int).toNat) (z / 8 % 10 ^ (6 : Int).toNat) (z / 8) (by (first | lia | omega)) (emod2 _ _ (by decide)).1 (emod2 _ _ (by decide)).1
    obtain ⟨lv, hlv, lbad⟩ := len5b t.2.2 (z / 8) nt.l0
    have m6 : (0 : Int) < 10 ^ (6 : Int).toNat := by decide
    refine (exq rfl (exq rfl (exq rfl (ijq (exq rfl (ijq ⟨⟨by decide, by decide⟩, ijq ⟨⟨by decide, by decide, by decide⟩, ijq ⟨m6, _, _, rfl, rfl, exq rfl (exq rfl (ijq ⟨⟨by decide, by decide⟩, ijq ⟨⟨by decide, by decide, by decide⟩, ijq ⟨m6, _, _, rfl, rfl, dl rfl, fun l hl => ?_⟩⟩⟩))⟩⟩⟩))))))
    have s2 : Same H1 (upd H1 l (.lst [V.int (-1), V.int ↑n, V.int (↑n + 1 + z / 8 % 10 ^ Int.toNat 6), V.int (-2 - z / 8 % 10 ^ Int.toNat 6)])) := Same.new hl
    have hl2 : upd H1 l (.lst [V.int (-1), V.int ↑n, V.int (↑n + 1 + z / 8 % 10 ^ Int.toNat 6), V.int (-2 - z / 8 % 10 ^ Int.toNat 6)]) l = some (.lst [V.int (-1), V.int ↑n, V.int (↑n + 1 + z / 8 % 10 ^ Int.toNat 6), V.int (-2 - z / 8 % 10 ^ Int.toNat 6)]) := upd_same
    refine (exq rfl (ijq ⟨⟨by decide, by decide⟩, ijq ⟨(modC rfl), ixl (SqL.of hl2) (hsv) (?_)⟩⟩))
    have hT2 := s2 _ _ hT
    have s12 := s1.trans s2
    generalize upd H1 l (.lst [V.int (-1), V.int ↑n, V.int (↑n + 1 + z / 8 % 10 ^ Int.toNat 6), V.int (-2 - z / 8 % 10 ^ Int.toNat 6)]) = H2 at hT2 s12
    refine (exq rfl (ijq ⟨⟨by decide, by decide, by decide⟩, ijq (exq rfl (ixq (SqT.of hT2) (atI_nat (j := 2) rfl) (exq rfl (ijq ⟨⟨by decide, by decide, by decide⟩, dl rfl, fun l2 hl2 => ?_⟩))))⟩))
    have s3 := Same.new (o := .lst [V.int 0, V.int (-1), V.int (10 ^ Int.toNat 30 + 1), V.int (-t.2.2), V.int (10 ^ Int.toNat 45)]) hl2
    have hl3 : upd H2 l2 (.lst [V.int 0, V.int (-1), V.int (10 ^ Int.toNat 30 + 1), V.int (-t.2.2), V.int (10 ^ Int.toNat 45)]) l2 = some (.lst [V.int 0, V.int (-1), V.int (10 ^ Int.toNat 30 + 1), V.int (-t.2.2), V.int (10 ^ Int.toNat 45)]) := upd_same
    refine (exq rfl (ijq ⟨⟨by decide, by decide⟩, ijq ⟨(modC rfl), ixl (SqL.of hl3) (hlv) (?_)⟩⟩))
    have hT3 := s3 _ _ hT2
    have s13 := s12.trans s3
    generalize upd H2 l2 (.lst [V.int 0, V.int (-1), V.int (10 ^ Int.toNat 30 + 1), V.int (-t.2.2), V.int (10 ^ Int.toNat 45)]) = H3 at hT3 s13
    -- the deeds, one by one
    refine (exq rfl (exq rfl (ixq (SqT.of hT3) (atI_nat (j := 1) rfl) (exq rfl (ixq (SqT.of hT3) (atI_nat (j := 2) rfl) ⟨dl rfl, fun b1 hb1 => ?_⟩)))))
    have c1 := Same.new (o := .tup [.str "put", .int sv, .int t.2.1, .int t.2.2]) hb1
    have B1 : BadAt (upd H3 b1 (.tup [.str "put", .int sv, .int t.2.1, .int t.2.2])) n m (.ref b1) := bad_put (sv, t.2.1, t.2.2) hb1 fun g => by have h1 : 0 ≤ sv := g.1.a0; have h2 : sv < n := g.1.a1; (first | lia | omega)
    have hT4 := c1 _ _ hT3
    have s14 := s13.trans c1
    generalize upd H3 b1 (.tup [.str "put", .int sv, .int t.2.1, .int t.2.2]) = H4 at B1 hT4 s14
    refine (exq rfl (ixq (SqT.of hT4) (atI_nat (j := 0) rfl) (exq rfl (exq rfl (ixq (SqT.of hT4) (atI_nat (j := 2) rfl) ⟨dl rfl, fun b2 hb2 => ?_⟩)))))
    have c2 := Same.new (o := .tup [.str "put", .int t.1, .int sv, .int t.2.2]) hb2
    have B2 : BadAt (upd H4 b2 (.tup [.str "put", .int t.1, .int sv, .int t.2.2])) n m (.ref b2) := bad_put (t.1, sv, t.2.2) hb2 fun g => by have h1 : 0 ≤ sv := g.1.b0; have h2 : sv < n := g.1.b1; (first | lia | omega)
    have hT5 := c2 _ _ hT4
    have B1 := B1.same c2
    have s15 := s14.trans c2
    generalize upd H4 b2 (.tup [.str "put", .int t.1, .int sv, .int t.2.2]) = H5 at B1 B2 hT5 s15
    refine (exq rfl (ixq (SqT.of hT5) (atI_nat (j := 0) rfl) (exq rfl (ixq (SqT.of hT5) (atI_nat (j := 0) rfl) (exq rfl (ixq (SqT.of hT5) (atI_nat (j := 2) rfl) ⟨dl rfl, fun b3 hb3 => ?_⟩))))))
    have c3 := Same.new (o := .tup [.str "put", .int t.1, .int t.1, .int t.2.2]) hb3
    have B3 : BadAt (upd H5 b3 (.tup [.str "put", .int t.1, .int t.1, .int t.2.2])) n m (.ref b3) := bad_put (t.1, t.1, t.2.2) hb3 fun g => g.1.ne rfl
    have hT6 := c3 _ _ hT5
    have B1 := B1.same c3
    have B2 := B2.same c3
    have s16 := s15.trans c3
    generalize upd H5 b3 (.tup [.str "put", .int t.1, .int t.1, .int t.2.2]) = H6 at B1 B2 B3 hT6 s16
    refine ⟨dl rfl, fun l4 hl4 => ?_⟩
    have d4 := Same.new (o := .lst [.ref b1, .ref b2, .ref b3]) hl4
    have hL : upd H6 l4 (.lst [.ref b1, .ref b2, .ref b3]) l4 = some (.lst [.ref b1, .ref b2, .ref b3]) := upd_same
    have B1 := B1.same d4
    have B2 := B2.same d4
    have B3 := B3.same d4
    have hT6 := d4 _ _ hT6
    have s16 := s16.trans d4
    generalize upd H6 l4 (.lst [.ref b1, .ref b2, .ref b3]) = H6' at hL B1 B2 B3 hT6 s16
    refine (exq rfl (exq rfl (ixq (SqT.of hT6) (atI_nat (j := 0) rfl) (exq rfl (ixq (SqT.of hT6) (atI_nat (j := 1) rfl) (exq rfl ⟨dl rfl, fun b4 hb4 => ?_⟩))))))
    have c4 := Same.new (o := .tup [.str "put", .int t.1, .int t.2.1, .int lv]) hb4
    have B4 : BadAt (upd H6' b4 (.tup [.str "put", .int t.1, .int t.2.1, .int lv])) n m (.ref b4) := bad_put (t.1, t.2.1, lv) hb4 fun g => by have h1 : 1 ≤ lv := g.1.l0; have h2 : lv ≤ 1000000000000000000000000000000 := g.1.l1; (first | lia | omega)
    have hT7 := c4 _ _ hT6
    have hL := c4 _ _ hL
    have B1 := B1.same c4
    have B2 := B2.same c4
    have B3 := B3.same c4
    have s17 := s16.trans c4
    generalize upd H6' b4 (.tup [.str "put", .int t.1, .int t.2.1, .int lv]) = H7 at B1 B2 B3 B4 hT7 s17 hL
    refine (exq rfl ⟨dl rfl, fun b5 hb5 => ?_⟩)
    have c5 := Same.new (o := .tup [.str "drop", .int (f : Int)]) hb5
    have B5 : BadAt (upd H7 b5 (.tup [.str "drop", .int (f : Int)])) n m (.ref b5) := bad_drop _ hb5 fun e he => by have := ok.below e he; (first | lia | omega)
    have hT8 := c5 _ _ hT7
    have hL := c5 _ _ hL
    have B1 := B1.same c5
    have B2 := B2.same c5
    have B3 := B3.same c5
    have B4 := B4.same c5
    have s18 := s17.trans c5
    generalize upd H7 b5 (.tup [.str "drop", .int (f : Int)]) = H8 at B1 B2 B3 B4 B5 hT8 s18 hL
    refine (exq rfl ⟨dl rfl, fun b6 hb6 => ?_⟩)
    have c6 := Same.new (o := .tup [.str "drop", .int (-1)]) hb6
    have B6 : BadAt (upd H8 b6 (.tup [.str "drop", .int (-1)])) n m (.ref b6) := bad_drop _ hb6 fun e he => by (first | lia | omega)
    have hT9 := c6 _ _ hT8
    have hL := c6 _ _ hL
    have B1 := B1.same c6
    have B2 := B2.same c6
    have B3 := B3.same c6
    have B4 := B4.same c6
    have B5 := B5.same c6
    have s19 := s18.trans c6
    generalize upd H8 b6 (.tup [.str "drop", .int (-1)]) = H9 at B1 B2 B3 B4 B5 B6 hT9 s19 hL
    refine (exq rfl (exq rfl (ijq ⟨dl rfl, fun b7 hb7 => ?_⟩)))
    have c7 := Same.new (o := .tup [.str "drop", .int ((f : Int) + z)]) hb7
    have B7 : BadAt (upd H9 b7 (.tup [.str "drop", .int ((f : Int) + z)])) n m (.ref b7) := bad_drop _ hb7 fun e he => by have := ok.below e he; (first | lia | omega)
    have hT10 := c7 _ _ hT9
    have hL := c7 _ _ hL
    have B1 := B1.same c7
    have B2 := B2.same c7
    have B3 := B3.same c7
    have B4 := B4.same c7
    have B5 := B5.same c7
    have B6 := B6.same c7
    have s110 := s19.trans c7
    generalize upd H9 b7 (.tup [.str "drop", .int ((f : Int) + z)]) = H10 at B1 B2 B3 B4 B5 B6 B7 hT10 s110 hL
    refine ⟨dl rfl, fun l5 hl5 => ⟨l4, l5, _, _, rfl, rfl, SqL.of (Same.new hl5 _ _ hL), SqL.of upd_same, dl rfl, fun l6 hl6 => ?_⟩⟩
    have s7 := (Same.new (o := .lst [.ref b4, .ref b5, .ref b6, .ref b7]) hl5).trans (Same.new (o := .lst ([.ref b1, .ref b2, .ref b3] ++ [.ref b4, .ref b5, .ref b6, .ref b7])) hl6)
    have hl60 : H l6 = none := s110.free ((Same.new hl5).free hl6)
    have hL6 : (upd (upd H10 l5 (.lst [.ref b4, .ref b5, .ref b6, .ref b7])) l6 (.lst ([.ref b1, .ref b2, .ref b3] ++ [.ref b4, .ref b5, .ref b6, .ref b7]))) l6 = some (.lst [.ref b1, .ref b2, .ref b3, .ref b4, .ref b5, .ref b6, .ref b7]) := upd_same
    have hall : ∀ x ∈ [V.ref b1, .ref b2, .ref b3, .ref b4, .ref b5, .ref b6, .ref b7], BadAt (upd (upd H10 l5 (.lst [.ref b4, .ref b5, .ref b6, .ref b7])) l6 (.lst ([.ref b1, .ref b2, .ref b3] ++ [.ref b4, .ref b5, .ref b6, .ref b7]))) n m x := fun x hx => by
      simp only [List.mem_cons, List.not_mem_nil, or_false] at hx
      rcases hx with rfl | rfl | rfl | rfl | rfl | rfl | rfl
      · exact B1.same s7
      · exact B2.same s7
      · exact B3.same s7
      · exact B4.same s7
      · exact B5.same s7
      · exact B6.same s7
      · exact B7.same s7
    have s17 := s110.trans s7
    have hT7 := s7 _ _ hT10
    generalize upd (upd H10 l5 (.lst [.ref b4, .ref b5, .ref b6, .ref b7])) l6 (.lst ([.ref b1, .ref b2, .ref b3] ++ [.ref b4, .ref b5, .ref b6, .ref b7])) = H11 at hL6 hall s17 hT7
    have hlen7 : [V.ref b1, .ref b2, .ref b3, .ref b4, .ref b5, .ref b6, .ref b7].length = 7 := rfl
    generalize [V.ref b1, .ref b2, .ref b3, .ref b4, .ref b5, .ref b6, .ref b7] = xs at hL6 hall hlen7
    clear B1 B2 B3 B4 B5 B6 B7 hT3 hT4 hT5 hT6 hT8 hT9 hT10
    -- names that are gone
    refine (exq rfl (exq rfl ⟨by (first | lia | omega), by (first | lia | omega), fun D hD => comp_range (lo := 0) (m := f) (Pick (fun i => decide (i ∉ m.map (·.1))) H11 D) (.start hD) (fun i acc H4 _ p => p.len) (dl (Nat.ble_eq.mpr (by (first | lia | omega)))) ?_ ?_⟩))
    · rintro i acc H4 hi p
      rw [Int.zero_add]
      have hd4 := hd.same (s17.trans p.1)
      by_cases hm : i ∈ m.map (·.1)
      · obtain ⟨⟨nm, t'⟩, he, e⟩ := List.mem_map.mp hm
        have e : nm = i := e
        subst e
        obtain ⟨kvs, b, g1, g2, g3⟩ := hd4.get ok he
        refine ⟨rfl, exq rfl (exq rfl ⟨h, _, rfl, (by have z := DGet.k (k := kN nm) g1; rw [g2] at z; exact z), exq rfl (?_)⟩)⟩
        exact p.no (Same.refl _) (decide_eq_false (fun z => z hm))
      · obtain ⟨kvs, g1, g2⟩ := hd4.none hm
        refine ⟨rfl, exq rfl (exq rfl ⟨h, _, rfl, (by have z := DGet.k (k := kN i) g1; rw [g2] at z; exact z), exq rfl (?_)⟩)⟩
        exact (exq rfl (p.yes hD (Same.refl _) (decide_eq_true hm)))
    · rintro acc H12 ⟨p1, p2, p3⟩
      have hs9 : Same H H12 := s17.trans p1
      have cont : ∀ (H' : Hp) (xs' : List V), Same H H' → H' l6 = some (.lst xs') → xs'.length ≤ 8 → (∀ x ∈ xs', BadAt H' n m x) → H' bt = some (.tup (tieV t)) →
          zz2 { nx := fun _ H' => Q .non H', rt := Q } [some (.int (n : Int)), some (.ref h), some (.int (f : Int)), some (.int z), some (.ref bt), some (.int sv), some (.int lv), some (.ref l6), some (.ref D)] H' := by
        intro H' xs' s' hL' hl' ha' hT'
        obtain ⟨kvs, g1, g2⟩ := (hd.same s').len
        refine (exq rfl ⟨h, kvs, rfl, g1, rfl, exq rfl (ite2 (fun e24 => ?_) (fun _ => (exq rfl (k l6 xs' H' s' hL' (by (first | lia | omega)) ha'))))⟩)
        have e24 := V.int.inj (of_decide_eq_true e24)
        refine (exq rfl ⟨.inl ⟨rfl, _, SqL.of hL'⟩, exq rfl (ixq (SqT.of hT') (atI_nat (j := 0) rfl) (exq rfl (ixq (SqT.of hT') (atI_nat (j := 1) rfl) (exq rfl (ixq (SqT.of hT') (atI_nat (j := 2) rfl) ⟨dl rfl, fun b9 hb9 => ?_⟩)))))⟩)
        have c9 := Same.new (o := .tup [.str "put", .int t.1, .int t.2.1, .int t.2.2]) hb9
        have B9 : BadAt (upd H' b9 (.tup [.str "put", .int t.1, .int t.2.1, .int t.2.2])) n m (.ref b9) := bad_put t hb9 fun g => by have := g.2; (first | lia | omega)
        have hL9 := c9 _ _ hL'
        have a9 : ∀ x ∈ xs', BadAt (upd H' b9 (.tup [.str "put", .int t.1, .int t.2.1, .int t.2.2])) n m x := fun x hx => (ha' x hx).same c9
        have s9 := s'.trans c9
        generalize upd H' b9 (.tup [.str "put", .int t.1, .int t.2.1, .int t.2.2]) = H9 at B9 hL9 a9 s9
        refine ⟨l6, xs', _, rfl, rfl, hL9, small1000 (by (first | lia | omega)), ?_⟩
        refine (exq rfl (k l6 _ _ (s9.put hl60) upd_same (by rw [List.length_append, List.length_singleton]; (first | lia | omega)) fun x hx => ?_))
        rcases List.mem_append.mp hx with hx | hx
        · exact (a9 x hx).tups (Tups.put hL9)
        · rw [List.mem_singleton.mp hx]
          exact B9.tups (Tups.put hL9)
      have hg : ∀ g ∈ (List.range f).filter (fun i => decide (i ∉ m.map (·.1))), ∀ e ∈ m, ((e.1 : Nat) : Int) ≠ (g : Int) := fun g hg e he q => by
        have h1 := of_decide_eq_true (List.mem_filter.mp hg).2
        exact h1 (by rw [← Int.ofNat.inj q]; exact List.mem_map_of_mem he)
      generalize (List.range f).filter (fun i => decide (i ∉ m.map (·.1))) = gs at p3 hg
      subst p3
      have hL12 := p1 _ _ hL6
      have ha12 : ∀ x ∈ xs, BadAt H12 n m x := fun x hx => (hall x hx).same p1
      have hT12 := p1 _ _ hT7
      refine (exq rfl (lnq rfl (.inl (SqL.of p2)) (ijq (exq rfl (ite2 (fun hpos => ?_) (fun _ => cont H12 xs hs9 hL12 (by (first | lia | omega)) ha12 hT12))))))
      have hpos := of_decide_eq_true hpos
      rw [natsV_len] at hpos
      obtain ⟨i0, i1⟩ := emod2 z ((gs.length : Nat) : Int) hpos
      obtain ⟨j, hj⟩ := Int.eq_ofNat_of_zero_le i0
      have hjm : j < gs.length := by (first | lia | omega)
      have hat : atI (natsV gs) (z % ((natsV gs).length : Int)) = some (.int ((gs[j] : Nat) : Int)) := by
        rw [natsV_len, hj]
        refine atI_nat (j := j) ?_
        unfold natsV
        rw [List.getElem?_map, List.getElem?_eq_getElem hjm]
        rfl
      refine (exq rfl ⟨.inl ⟨rfl, _, SqL.of hL12⟩, exq rfl (exq rfl (exq rfl (lnq rfl (.inl (SqL.of p2)) (ijq ⟨(by rw [natsV_len]; exact hpos), ixl (SqL.of p2) (hat) ⟨dl rfl, fun b8 hb8 => ?_⟩⟩))))⟩)
      have c8 := Same.new (o := .tup [.str "drop", .int ((gs[j] : Nat) : Int)]) hb8
      have B8 : BadAt (upd H12 b8 (.tup [.str "drop", .int ((gs[j] : Nat) : Int)])) n m (.ref b8) := bad_drop _ hb8 (hg _ (List.getElem_mem hjm))
      have hL8 := c8 _ _ hL12
      have a8 : ∀ x ∈ xs, BadAt (upd H12 b8 (.tup [.str "drop", .int ((gs[j] : Nat) : Int)])) n m x := fun x hx => (ha12 x hx).same c8
      have s8 := hs9.trans c8
      have hT8 := c8 _ _ hT12
      generalize upd H12 b8 (.tup [.str "drop", .int ((gs[j] : Nat) : Int)]) = H8 at B8 hL8 a8 s8 hT8
      refine ⟨l6, xs, _, rfl, rfl, hL8, small1000 (by (first | lia | omega)), ?_⟩
      refine cont _ _ (s8.put hl60) upd_same (by rw [List.length_append, List.length_singleton]; (first | lia | omega)) (fun x hx => ?_) ?_
      · rcases List.mem_append.mp hx with hx | hx
        · exact (a8 x hx).tups (Tups.put hL8)
        · rw [List.mem_singleton.mp hx]
          exact B8.tups (Tups.put hL8)
      · exact Tups.put hL8 _ _ hT8
end

theorem andElse {c X A B : Prop} [Decidable c] (hB : B) (hX : B → c → X) : if c then X else (if false = true then A else B) := by
  by_cases h : c
  · rw [if_pos h]; exact hX hB h
  · rw [if_neg h, if_neg Bool.false_ne_true]; exact hB
def sp_law (K : PySem.W.Frag) : Sp := fun vs H Q _ => ∃ (a : Addr) (ns : List Int), vs = [.ref a] ∧ SqL K H a (ns.map V.int) ∧ ns.length ≤ 63 ∧ ∀ H', Q (.bl true) H'
theorem pickNo (z : Int) (h : 0 ≤ z) : ∃ v, atI [V.int 0, .int 11, .int (-1 - z), .int (12 + z)] (z % 4) = some (.int v) ∧ ¬ (1 ≤ v ∧ v ≤ 10) := by
  obtain ⟨h0, h5⟩ := emod2 z 4 (by decide)
  generalize z % 4 = i at h0 h5
  have hi : i = 0 ∨ i = 1 ∨ i = 2 ∨ i = 3 := by (first | lia | omega)
  rcases hi with rfl | rfl | rfl | rfl
  · exact ⟨_, atI_nat (j := 0) rfl, by decide⟩
  · exact ⟨_, atI_nat (j := 1) rfl, by decide⟩
  · exact ⟨_, atI_nat (j := 2) rfl, by (first | lia | omega)⟩
  · exact ⟨_, atI_nat (j := 3) rfl, by (first | lia | omega)⟩
theorem st_dict {C p d q h : Addr} {H : Hp} {n : Nat} {hs : List (Nat × Held)} {ds : List Deed} {kvs kvs' : List (Key × V)} (S : StAt C H p d q n hs ds) (hh : H h = some (.dK kvs)) (ne : h ≠ d) : StAt C (upd H h (.dK kvs')) p d q n hs ds := by
  obtain ⟨dx, f, m, hs', e, h1, h2⟩ := S.ob
  obtain ⟨zs, h3, h4⟩ := S.dn
  have t : Tups H (upd H h (.dK kvs')) := fun c xs e => by
    rw [upd_ne (ne_of e hh (by intro z; cases z))]
    exact e
  refine ⟨S.ch, S.p1, S.p2, ⟨dx, f, m, hs', e, ?_, h2.keep t ?_⟩, zs, ?_, Paired.imp' (fun _ _ z => z.tups t) h4⟩
  · rw [upd_ne (ne_of h1 hh (by intro z; cases z))]
    exact h1
  · rw [upd_ne (Ne.symm ne)]
  · rw [upd_ne (ne_of h3 hh (by intro z; cases z))]
    exact h3
theorem dict_kept {C p d q h : Addr} {H H' : Hp} {n : Nat} {hs : List (Nat × Held)} {ds : List Deed} {m : Held} (S : StAt C H p d q n hs ds) (hd : DictIs H h m) (ne : h ≠ d) (k : Kept H H' p d q) : DictIs H' h m := by
  obtain ⟨dx, f, m', hs', _, g1, _⟩ := S.ob
  obtain ⟨ys, g2, _⟩ := S.dn
  obtain ⟨es, q1, q2, q3⟩ := hd
  exact ⟨es, k.rest h _ q1 (ne_of q1 g1 (by intro z; cases z)) ne (ne_of q1 g2 (by intro z; cases z)), q2, fun e he => k.tups _ _ (q3 e he)⟩
theorem list_kept {C p d q l : Addr} {H H' : Hp} {n : Nat} {hs : List (Nat × Held)} {ds : List Deed} {xs : List V} (S : StAt C H p d q n hs ds) (hl : H l = some (.lst xs)) (ne : l ≠ q) (k : Kept H H' p d q) : H' l = some (.lst xs) := by
  obtain ⟨dx, f, m', hs', _, g1, g3⟩ := S.ob
  obtain ⟨kv, g3, _⟩ := g3.len
  exact k.rest l _ hl (ne_of hl g1 (by intro z; cases z)) (ne_of hl g3 (by intro z; cases z)) ne
section
variable {P : Program} {w : World} {K : PySem.W.Frag} {mg : Str → Option Value} {base : Heap} {a : Adr}
theorem G_law (T : Txt K mg a) : FnOk P w K mg base CX0 6 a.f_law a.d_law ["script"] (sp_law K) := by
  have G_law_cell : FnOk P w K mg base CX0 1 a.f_law_cell a.d_law_cell ["script", "k"] (sp_cell K) := G_law_cell T
  have G_law_turn : FnOk P w K mg base CX0 1 a.f_law_turn a.d_law_turn ["cell"] sp_turn := G_law_turn T
  have G_law_near : FnOk P w K mg base CX0 2 a.f_law_near a.d_law_near ["cell", "points"] sp_near := G_law_near T
  have G_law_can : FnOk P w K mg base CX0 1 a.f_law_can a.d_law_can ["points", "held", "tie"] sp_can := G_law_can T
  have G_law_shown : FnOk P w K mg base CX0 4 a.f_law_shown a.d_law_shown ["standing", "points", "held", "many"] (sp_shown a.c_Standing) := G_law_shown T
  have G_law_no_web : FnOk P w K mg base CX0 5 a.f_law_no_web a.d_law_no_web ["points"] sp_no_web := G_law_no_web T
  have G_law_refused : FnOk P w K mg base CX0 4 a.f_law_refused a.d_law_refused ["standing", "deed"] (sp_refused a.c_Standing) := G_law_refused T
  have G_law_bad_deeds : FnOk P w K mg base CX0 3 a.f_law_bad_deeds a.d_law_bad_deeds ["points", "held", "fresh", "turn"] sp_bad := G_law_bad_deeds T
  have G_Standing_init : FnOk P w K mg base (CX1 P w) 3 a.f_Standing_init a.d_Standing_init ["self", "points"] (spS_init a.c_Standing a.c_BadWeb) := G_Standing_init T
  have G_Standing_put : FnOk P w K mg base (CX1 P w) 3 a.f_Standing_put a.d_Standing_put ["self", "one", "other", "length"] (spS_put a.c_Standing a.c_NoDeed) := G_Standing_put T
  have G_Standing_drop : FnOk P w K mg base (CX1 P w) 1 a.f_Standing_drop a.d_Standing_drop ["self", "name"] (spS_drop a.c_Standing a.c_NoDeed) := G_Standing_drop T
  have G_Standing_back : FnOk P w K mg base (CX1 P w) 1 a.f_Standing_back a.d_Standing_back ["self"] (spS_back a.c_Standing a.c_NoDeed) := G_Standing_back T
  refine T.F_law.ok sc_law (fun vs H Q E h => ?_) (fun cdv A outer s H vs Q E hr h => ?_)
  · obtain ⟨b, ns, rfl, _⟩ := h
    rfl
  · obtain ⟨b0, ns, rfl, hS, hn, k⟩ := h
    refine ⟨_, (pss_cons (ps_set (i := 1) sc_law.nd rfl (Or.inl rfl) (pe_ix (ixL K) (pe_lst (pa_cons pe_int (pa_cons pe_int (pa_cons pe_int (pa_cons pe_int (pa_cons pe_int (pa_cons pe_int (pa_cons pe_int (pa_cons pe_int pa_nil))))))))) (pe_op op_mod (pe_call G_law_cell (hr.mono (by decide)) (by rfl) T.m_law_cell T.k_law_cell T.b_law_cell .nil pass0 (pa_cons (pv 0) (pa_cons pe_int pa_nil))) pe_int) (fun _ _ => rfl)))
      (pss_cons (ps_set (i := 2) sc_law.nd rfl (Or.inl rfl) (pe_call G_law_turn (hr.mono (by decide)) (by rfl) T.m_law_turn T.k_law_turn T.b_law_turn .nil pass0 (pa_cons (pe_call G_law_cell (hr.mono (by decide)) (by rfl) T.m_law_cell T.k_law_cell T.b_law_cell .nil pass0 (pa_cons (pv 0) (pa_cons pe_int pa_nil))) pa_nil)))
      (pss_cons (ps_if (pt_not (pt_val (pe_call G_law_no_web (hr.mono (by decide)) (by rfl) T.m_law_no_web T.k_law_no_web T.b_law_no_web .nil pass0 (pa_cons (pe_ix (ixL K) (pe_lst (pa_cons pe_int (pa_cons pe_int (pa_cons (pe_op op_sub (pe_un un_neg pe_int) (pv 2)) (pa_cons (pe_op op_add pe_int (pv 2)) pa_nil))))) (pe_op op_mod (pv 2) pe_int) (fun _ _ => rfl)) pa_nil)))) (pss_one (ps_ret pe_bl)) pss_nil)
      (pss_cons (ps_set (i := 3) sc_law.nd rfl (Or.inl rfl) (pe_make T.mk_Standing G_Standing_init (hr.mono (by decide)) (by rfl) T.g_Standing T.b_Standing_init .nil passN (pa_cons (pv 1) pa_nil)))
      (pss_cons (ps_if (pt_not (pt_val (pe_call G_law_refused (hr.mono (by decide)) (by rfl) T.m_law_refused T.k_law_refused T.b_law_refused .nil pass0 (pa_cons (pv 3) (pa_cons (pe_tup (pa_cons pe_str pa_nil)) pa_nil))))) (pss_one (ps_ret pe_bl)) pss_nil)
      (pss_cons (ps_set (i := 4) sc_law.nd rfl (Or.inl rfl) pe_dnewK)
      (pss_cons (ps_set (i := 5) sc_law.nd rfl (Or.inl rfl) pe_int)
      (pss_cons (ps_set (i := 6) sc_law.nd rfl (Or.inl rfl) pe_int)
      (pss_cons (ps_for PassesOwn.never rfl (piL K (pe_op (catL K) (pe_slice (slL K) (pv 0) (po_some pe_int) (po_some pe_int)) (pe_lst (pa_cons pe_int pa_nil)))) (pg_name (i := 7) sc_law.nd rfl (Or.inl rfl))
      (pss_cons (ps_for PassesOwn.never rfl (piL K (pe_call G_law_bad_deeds (hr.mono (by decide)) (by rfl) T.m_law_bad_deeds T.k_law_bad_deeds T.b_law_bad_deeds .nil pass0 (pa_cons (pv 1) (pa_cons (pv 4) (pa_cons (pv 5) (pa_cons (pe_call G_law_turn (hr.mono (by decide)) (by rfl) T.m_law_turn T.k_law_turn T.b_law_turn .nil pass0 (pa_cons (pv 7) pa_nil)) pa_nil)))))) (pg_name (i := 8) sc_law.nd rfl (Or.inl rfl))
      (pss_one (ps_if (PW.pt (pw_or (pt_not (pt_val (pe_call G_law_refused (hr.mono (by decide)) (by rfl) T.m_law_refused T.k_law_refused T.b_law_refused .nil pass0 (pa_cons (pv 3) (pa_cons (pv 8) pa_nil))))) (pw_or1 (pt_not (pt_val (pe_call G_law_shown (hr.mono (by decide)) (by rfl) T.m_law_shown T.k_law_shown T.b_law_shown .nil pass0 (pa_cons (pv 3) (pa_cons (pv 1) (pa_cons (pv 4) (pa_cons (pv 6) pa_nil)))))))))) (pss_one (ps_ret pe_bl)) pss_nil)))
      (pss_cons (ps_set (i := 9) sc_law.nd rfl (Or.inl rfl) (pe_call G_law_near (hr.mono (by decide)) (by rfl) T.m_law_near T.k_law_near T.b_law_near .nil pass0 (pa_cons (pv 7) (pa_cons (pv 1) pa_nil))))
      (pss_one (ps_if (PW.pt (pw_and (pt_cmpR op_eq (pe_op op_mod (pe_call G_law_turn (hr.mono (by decide)) (by rfl) T.m_law_turn T.k_law_turn T.b_law_turn .nil pass0 (pa_cons (pv 7) pa_nil)) pe_int) pe_int (nomark _)) (pw_and1 (pt_cmpR op_gt (pe_callB call_lenD (by rfl) T.n_len PySem.boot_len (pa_cons (pv 4) pa_nil)) pe_int (nomark _))))) (pss_cons (ps_set (i := 10) sc_law.nd rfl (Or.inl rfl) (pe_ix (ixL K) (pe_callB (sortedD rfl) (by rfl) T.n_sorted PyProof.Rows.boot_sorted (pa_cons (pv 4) pa_nil)) (pe_op op_mod (pv 7) (pe_callB call_lenD (by rfl) T.n_len PySem.boot_len (pa_cons (pv 4) pa_nil))) (fun _ _ => rfl)))
      (pss_cons (ps_expr (pe_dpop1 (pv 4) (pv 10) ⟨rfl, rfl, rfl, rfl⟩))
      (pss_cons (ps_expr (pe_meth (pv 3) T.cl_Standing T.mt_Standing_drop G_Standing_drop (hr.mono (by decide)) T.b_Standing_drop .nil passN (pa_cons (pv 10) pa_nil)))
      (pss_one (ps_set (i := 6) sc_law.nd rfl (Or.inl rfl) (pe_op op_add (pv 6) pe_int)))))) (pss_one (ps_if (pt_val (pe_call G_law_can (hr.mono (by decide)) (by rfl) T.m_law_can T.k_law_can T.b_law_can .nil pass0 (pa_cons (pv 1) (pa_cons (pv 4) (pa_cons (pv 9) pa_nil))))) (pss_cons (ps_dput (by exact hu_of hr) (pv 4) (pv 5) (pv 9) rfl)
      (pss_cons (ps_set (i := 5) sc_law.nd rfl (Or.inl rfl) (pe_op op_add (pv 5) pe_int))
      (pss_cons (ps_set (i := 6) sc_law.nd rfl (Or.inl rfl) (pe_op op_add (pv 6) pe_int))
      (pss_one (ps_expr (pe_meth (pv 3) T.cl_Standing T.mt_Standing_put G_Standing_put (hr.mono (by decide)) T.b_Standing_put .nil passN (pa_cons (pe_ix (ixT K) (pv 9) pe_int (fun _ _ => rfl)) (pa_cons (pe_ix (ixT K) (pv 9) pe_int (fun _ _ => rfl)) (pa_cons (pe_ix (ixT K) (pv 9) pe_int (fun _ _ => rfl)) pa_nil))))))))) pss_nil)))))))
      (pss_cons (ps_for PassesOwn.never rfl (pi_range1 (by rfl) T.n_range (pa_cons (pv 6) pa_nil)) (pg_name (i := 11) sc_law.nd rfl (Or.inl rfl))
      (pss_one (ps_expr (pe_meth0 (pv 3) T.cl_Standing T.mt_Standing_back G_Standing_back (hr.mono (by decide)) T.b_Standing_back .nil passN))))
      (pss_one (ps_ret (pe_and (pe_call G_law_refused (hr.mono (by decide)) (by rfl) T.m_law_refused T.k_law_refused T.b_law_refused .nil pass0 (pa_cons (pv 3) (pa_cons (pe_tup (pa_cons pe_str pa_nil)) pa_nil))) (pe_one (pe_call G_law_shown (hr.mono (by decide)) (by rfl) T.m_law_shown T.k_law_shown T.b_law_shown .nil pass0 (pa_cons (pv 3) (pa_cons (pv 1) (pa_cons pe_dnewK (pa_cons pe_int pa_nil))))))))))))))))))), ?_⟩
    refine hd_law ?_
    intro zz0 zz1 zz2 zz3 zz4 zz5 zz6 zz7 zz8 zz9 zz10 zz11 zz12 zz13 zz14 zz15 zz16 zz17 zz18 zz19 zz20 zz21 zz22 zz23 zz24 zz25 zz26
    refine ⟨dl rfl, fun l1 hl1 => ?_⟩
    have s1 : Same H (upd H l1 (.lst [.int 1, .int 2, .int 3, .int 4, .int 5, .int 6, .int 4, .int 10])) := Same.new hl1
    refine (exq rfl ⟨b0, ns, 0, rfl, s1.seq hS, fun z => ?_⟩)
    obtain ⟨n, hat, n1, n2⟩ := pick8 z
    refine (ijq ⟨(modC rfl), ixl (SqL.of upd_same) (hat) (?_)⟩)
    generalize upd H l1 (.lst [.int 1, .int 2, .int 3, .int 4, .int 5, .int 6, .int 4, .int 10]) = H1 at s1
    refine (exq rfl ⟨b0, ns, 0, rfl, s1.seq hS, fun z2 => ⟨z2, rfl, fun tz tz0 tz1 => ?_⟩⟩)
    obtain ⟨v, hv, nv⟩ := pickNo tz tz0
    refine (exq rfl (exq rfl (ijq (exq rfl (ijq ⟨dl rfl, fun l2 hl2 => ?_⟩)))))
    have s2 : Same H1 (upd H1 l2 (.lst [.int 0, .int 11, .int (-1 - tz), .int (12 + tz)])) := Same.new hl2
    refine (exq rfl (ijq ⟨(modC rfl), ixl (SqL.of upd_same) (hv) ⟨v, rfl, nv, fun H3 s3 => (exq rfl (iteF ?_))⟩⟩))
    have s03 := (s1.trans s2).trans s3
    clear s1 s2 s3 hl1 hl2
    refine (exq rfl (fun p dx hp hdx ne => ⟨p, dx, n, rfl, upd_same, fun n' en p1 p2 d q H4 hd0 hq0 S4 kp => ⟨rfl, ?_⟩, fun ng => absurd ⟨by (first | lia | omega), by (first | lia | omega)⟩ ng⟩))
    obtain rfl : n = n' := Int.ofNat.inj en
    have s4 : Same H3 H4 := fun b o e => kp b o (by rw [upd_ne (ne_of_none e hp), upd_ne (ne_of_none e hdx)]; exact e) (ne_of_none e hp)
    have s04 := s03.trans s4
    clear s03 s4 kp hp hdx hd0 hq0
    refine (exq rfl ⟨dl rfl, fun tb htb => ?_⟩)
    have s5 := Same.new (o := .tup [.str "back"]) htb
    refine ⟨p, d, q, tb, n, 0, [], [], [], rfl, S4.same s5, Nat.zero_le _, .inr ⟨rfl, upd_same⟩, fun H6 s6 => (exq rfl (iteF ?_))⟩
    have S6 := (S4.same s5).same s6
    have s06 := (s04.trans s5).trans s6
    clear S4 s04 s5 s6 htb
    refine fun h hh => ?_
    have nhd : h ≠ d := fun e => by
      obtain ⟨_, _, _, _, _, _, z⟩ := S6.ob
      obtain ⟨kv, q1, _⟩ := z.len
      rw [← e, hh] at q1
      cases q1
    have s7 := Same.new (o := .dK []) hh
    have hD7 : DictIs (upd H6 h (.dK [])) h [] := ⟨[], upd_same, .refl _, (fun _ h => nomatch h)⟩
    have S7 := S6.same s7
    have s07 := s06.trans s7
    clear S6 s06 s7 hh
    generalize upd H6 h (.dK []) = H7 at hD7 S7 s07
    refine (exq rfl (exq rfl (exq rfl ⟨b0, _, rfl, s07.seq hS, fun c1 hc1 => ⟨dl rfl, fun l3 hl3 => ?_⟩⟩)))
    have hcut := ints_cut ns (some 1) (some 41)
    have hml : ((ns.drop (HT.sIx ns.length 0 (some 1))).take (HT.sIx ns.length ns.length (some 41) - HT.sIx ns.length 0 (some 1))).length ≤ 63 := by
      rw [List.length_take, List.length_drop]
      (first | lia | omega)
    generalize (ns.drop (HT.sIx ns.length 0 (some 1))).take (HT.sIx ns.length ns.length (some 41) - HT.sIx ns.length 0 (some 1)) = ms at hcut hml
    rw [hcut] at hl3 ⊢
    refine ⟨c1, l3, _, _, rfl, rfl, SqL.of (Same.new hl3 _ _ upd_same), SqL.of upd_same, dl (Nat.ble_eq.mpr (by rw [List.length_map]; show ms.length + 1 ≤ 1000; (first | lia | omega))), fun cc hcc => ?_⟩
    have s8 := ((Same.new (o := .lst (ms.map V.int)) hc1).trans (Same.new (o := .lst [.int 0]) hl3)).trans (Same.new (o := .lst (ms.map V.int ++ [.int 0])) hcc)
    have hc8 : upd (upd (upd H7 c1 (.lst (ms.map V.int))) l3 (.lst [.int 0])) cc (.lst (ms.map V.int ++ [.int 0])) cc = some (.lst ((ms ++ [0]).map V.int)) := by rw [upd_same, List.map_append]; rfl
    have hq7 : ∃ ys, H7 q = some (.lst ys) := let ⟨ys, z, _⟩ := S7.dn; ⟨ys, z⟩
    obtain ⟨yq7, hq7⟩ := hq7
    have ncq : cc ≠ q := Ne.symm (ne_of_none (((Same.new hc1).trans (Same.new hl3)) _ _ hq7) hcc)
    have S8 := S7.same s8
    have hD8 := hD7.same s8
    generalize upd (upd (upd H7 c1 (.lst (ms.map V.int))) l3 (.lst [.int 0])) cc (.lst (ms.map V.int ++ [.int 0])) = H8 at hc8 S8 hD8
    have hlm : (ms ++ [0]).length ≤ 64 := by rw [List.length_append, List.length_singleton]; (first | lia | omega)
    generalize ms ++ [0] = us at hc8 hlm
    clear s07 hS s8 S7 hD7 hc1 hl3 hcc hq7
    refine ⟨cc, rfl, ⟨_, SqL.of hc8⟩, for_list' (K := K) (a := cc) (xs := us.map V.int) (fun i σ H9 => ∃ f m hs ds v7 v8 v9 v10, σ = [some (.ref b0), some (.int (n : Int)), some (.int tz), some (.ref p), some (.ref h), some (.int ((f : Nat) : Int)), some (.int ((ds.length : Nat) : Int)), v7, v8, v9, v10, none] ∧
        StAt a.c_Standing H9 p d q n ((f, m) :: hs) ds ∧ DictIs H9 h m ∧ ds.length ≤ i ∧ f ≤ i ∧ H9 cc = some (.lst (us.map V.int)))
      ⟨0, [], [], [], none, none, none, none, rfl, S8, hD8, Nat.le_refl _, Nat.le_refl _, hc8⟩ (fun i σ H9 _ ⟨_, _, _, _, _, _, _, _, _, _, _, _, _, z⟩ => SqL.of z) ?_ ?_⟩
    · rintro i x D' σ H9 hi ⟨f, m, hs, ds, v7, v8, v9, v10, rfl, S9, hD9, hds, hf, hc9⟩
      have hil : i < us.length := by have := (List.getElem?_eq_some_iff.mp hi).1; rw [List.length_map] at this; exact this
      rw [List.getElem?_map] at hi
      obtain ⟨y, _, rfl⟩ := Option.map_eq_some_iff.mp hi
      have ok := S9.ch.ok
      refine (exq rfl (exq rfl (exq rfl (exq rfl ⟨y, rfl, fun tz2 t0 t1 => ⟨h, n, f, m, tz2, rfl, n1, n2, by (first | lia | omega), t0, hD9, ok, fun l xs H10 s10 hl10 hx10 hb10 => ?_⟩⟩))))
      refine ⟨l, rfl, ⟨_, SqL.of hl10⟩, for_list' (K := K) (a := l) (xs := xs) (fun j σ H11 => ∃ v8, σ = [some (.ref b0), some (.int (n : Int)), some (.int tz), some (.ref p), some (.ref h), some (.int ((f : Nat) : Int)), some (.int ((ds.length : Nat) : Int)), some (.int y), v8, v9, v10, none] ∧ Same H10 H11)
        ⟨v8, rfl, Same.refl _⟩ (fun j σ H11 _ ⟨_, _, s⟩ => SqL.of (s _ _ hl10)) ?_ ?_⟩
      · rintro j x D'' σ H11 hj ⟨v8, rfl, s11⟩
        have hb11 := (hb10 x (List.mem_of_getElem? hj)).same s11
        obtain ⟨tb, rfl, _⟩ := id hb11
        have S11 := S9.same (s10.trans s11)
        refine (exq rfl (exq rfl ⟨p, d, q, tb, n, f, m, hs, ds, rfl, S11, by (first | lia | omega), .inl hb11, fun H12 s12 => (exq rfl (iteF ?_))⟩))
        refine (exq rfl (exq rfl (exq rfl (exq rfl ⟨p, d, q, h, n, f, m, hs, ds, _, rfl, rfl, S11.same s12, hD9.same ((s10.trans s11).trans s12), fun H13 s13 => (exq rfl (iteF (exq rfl ((s11.trans s12).trans s13))))⟩))))
      · rintro σ H11 ⟨v8, rfl, s11⟩
        have S11 := S9.same (s10.trans s11)
        have hD11 := hD9.same (s10.trans s11)
        have hc11 := (s10.trans s11) _ _ hc9
        clear s10 s11 hb10 hl10 S9 hD9 hc9
        refine (exq rfl (exq rfl ⟨y, n, rfl, n1, n2, fun t bt H s12 nt hbt => ?_⟩))
        have S := S11.same s12
        have hD := hD11.same s12
        have hcc := s12 _ _ hc11
        clear S11 hD11 hc11 s12
        obtain ⟨kvs, hk1, hk2⟩ := hD.len
        obtain ⟨dx, _, _, _, e, hp, _⟩ := S.ob
        cases e
        refine (exq rfl ⟨y, rfl, fun z3 _ _ => (ijq ⟨(modC rfl), rfl, exq rfl (?_)⟩)⟩)
        refine andElse ?rst fun rest h1 => ?main
        case main =>
          refine (exq rfl ⟨h, kvs, rfl, hk1, _, _, rfl, rfl, exq rfl (ite2 (fun h2 => ?_) (fun _ => rest))⟩)
          have h2 := of_decide_eq_true h2
          have hm0 : 0 < (kvs.length : Int) := by (first | lia | omega)
          obtain ⟨kvs', ns', g1, g2, g3, g4⟩ := hD.sorted ok
          refine (exq rfl ⟨h, kvs', ns', rfl, g1, g2, g3, fun l2 ns'' hl2 hpm hso => ?_⟩)
          rw [g4 ns'' hpm hso]
          have s1 : Same H (upd H l2 (.lst (natsV (m.map (·.1))))) := Same.new hl2
          have hl1 : upd H l2 (.lst (natsV (m.map (·.1)))) l2 = some (.lst (natsV (m.map (·.1)))) := upd_same
          generalize upd H l2 (.lst (natsV (m.map (·.1)))) = H1 at s1 hl1
          obtain ⟨i0, i1⟩ := emod2 y (kvs.length : Int) hm0
          obtain ⟨j, hj⟩ := Int.eq_ofNat_of_zero_le i0
          have hjm : j < m.length := by (first | lia | omega)
          obtain ⟨⟨nm, t3⟩, hmt⟩ : ∃ e, m[j]? = some e := ⟨m[j], by simp [hjm]⟩
          have hat : atI (natsV (m.map (·.1))) (y % (kvs.length : Int)) = some (.int (nm : Int)) := by
            rw [hj]
            refine atI_nat (j := j) ?_
            unfold natsV
            rw [List.getElem?_map, List.getElem?_map, hmt]
            rfl
          have hnt := List.mem_of_getElem? hmt
          refine (exq rfl (exq rfl ⟨h, kvs, rfl, s1 _ _ hk1, _, _, rfl, rfl, hm0, ixl (SqL.of hl1) (hat) (?_)⟩))
          obtain ⟨kv3, b3, e1, e2, e3, e4⟩ := (hD.same s1).pop ok hnt
          refine (exq rfl ⟨h, rfl, .inl ⟨_, .inl e1⟩, exq rfl ⟨kv3, kN nm, .ref b3, e1, rfl, e2, ?_⟩⟩)
          have t3' : Tups H1 (upd H1 h (.dK (dropK kv3 (kN nm)))) := fun c zs e => by
            rw [upd_ne (ne_of e e1 (by intro z; cases z))]
            exact e
          have D3 := e4 _ t3' upd_same
          have S3 : StAt a.c_Standing (upd H1 h (.dK (dropK kv3 (kN nm)))) p d q n ((f, m) :: hs) ds := st_dict (S.same s1) e1 nhd
          have hc3 : upd H1 h (.dK (dropK kv3 (kN nm))) cc = some (.lst (us.map V.int)) := by rw [upd_ne (ne_of (s1 _ _ hcc) e1 (by intro z; cases z))]; exact s1 _ _ hcc
          have hp3 : upd H1 h (.dK (dropK kv3 (kN nm))) p = some (.ins a.c_Standing dx (flds n d f q)) := by rw [upd_ne (ne_of (s1 _ _ hp) e1 (by intro z; cases z))]; exact s1 _ _ hp
          generalize upd H1 h (.dK (dropK kv3 (kN nm))) = H3 at D3 S3 hc3 hp3
          refine (exq rfl ⟨p, dx, _, rfl, hp3, fl_no (by decide +kernel) (by decide +kernel) (by decide +kernel) (by decide +kernel), exq rfl ⟨p, d, q, n, f, m, hs, ds, _, rfl, S3, by (first | lia | omega), .inl ⟨nm, t3, rfl, hnt, fun H4 k4 S4 => ?_⟩⟩⟩)
          refine (exq rfl (ijq (?_)))
          exact ⟨f, without nm m, _, _, _, _, _, _, rfl, S4, dict_kept S3 D3 nhd k4, by rw [List.length_cons]; (first | lia | omega), by (first | lia | omega), list_kept S3 hc3 ncq k4⟩
        case rst =>
          refine (exq rfl (exq rfl (exq rfl ⟨n, h, bt, m, t, rfl, hD, hbt, nt, fun B hB => ?_⟩)))
          cases B with
          | false => exact (exq rfl (iteF ⟨f, m, hs, ds, _, _, _, _, rfl, S, hD, by (first | lia | omega), by (first | lia | omega), hcc⟩))
          | true =>
            obtain ⟨gt, few'⟩ := hB rfl
            refine (exq rfl (iteT ?_))
            obtain ⟨kv3, e1, e2, e3⟩ := hD.put ok.fresh hbt
            refine (exq rfl (exq rfl (exq rfl ⟨h, _, rfl, DPut.k (k := kN f) e1 (small24' (by (first | lia | omega))), ?_⟩)))
            have t3 : Tups H (upd H h (.dK (putK kv3 (kN f) (.ref bt)))) := fun c zs e => by
              rw [upd_ne (ne_of e e1 (by intro z; cases z))]
              exact e
            have D3 := e3 _ _ t3 upd_same (.refl _)
            have S3 : StAt a.c_Standing (upd H h (.dK (putK kv3 (kN f) (.ref bt)))) p d q n ((f, m) :: hs) ds := st_dict S e1 nhd
            have hc3 : upd H h (.dK (putK kv3 (kN f) (.ref bt))) cc = some (.lst (us.map V.int)) := by rw [upd_ne (ne_of hcc e1 (by intro z; cases z))]; exact hcc
            have hp3 : upd H h (.dK (putK kv3 (kN f) (.ref bt))) p = some (.ins a.c_Standing dx (flds n d f q)) := by rw [upd_ne (ne_of hp e1 (by intro z; cases z))]; exact hp
            have hbt3 := SqT.of (K := K) (t3 _ _ hbt)
            generalize upd H h (.dK (putK kv3 (kN f) (.ref bt))) = H3 at D3 S3 hc3 hp3 hbt3
            refine (exq rfl (ijq (exq rfl (ijq (?_)))))
            refine (exq rfl ⟨p, dx, _, rfl, hp3, fl_no (by decide +kernel) (by decide +kernel) (by decide +kernel) (by decide +kernel), exq rfl ⟨bt, _, 0, _, rfl, rfl, hbt3, atI_nat (j := 0) rfl, _, rfl, bt, _, 1, _, rfl, rfl, hbt3, atI_nat (j := 1) rfl, _, rfl, bt, _, 2, _, rfl, rfl, hbt3, atI_nat (j := 2) rfl, p, d, q, n, f, m, hs, ds, t, rfl, S3, by (first | lia | omega), fun _ _ H4 k4 S4 => ?_, fun ng => absurd ⟨gt, few'⟩ ng⟩⟩)
            exact ⟨f + 1, m ++ [(f, t)], _, _, _, _, _, _, rfl, S4, dict_kept S3 D3 nhd k4, by rw [List.length_cons]; (first | lia | omega), by (first | lia | omega), list_kept S3 hc3 ncq k4⟩
    · rintro σ H9 ⟨f, m, hs, ds, v7, v8, v9, v10, rfl, S9, hD9, hds, hf, hc9⟩
      rw [List.length_map] at hds hf
      refine (exq rfl (exq rfl ⟨by (first | lia | omega), by (first | lia | omega), for_range' (lo := 0) (n := ds.length) (fun j σ H10 => ∃ hs' ds' v11, σ = [some (.ref b0), some (.int (n : Int)), some (.int tz), some (.ref p), some (.ref h), some (.int ((f : Nat) : Int)), some (.int ((ds.length : Nat) : Int)), v7, v8, v9, v10, v11] ∧
          StAt a.c_Standing H10 p d q n hs' ds' ∧ ds'.length + j = ds.length) ⟨_, ds, none, rfl, S9, rfl⟩ ?_ ?_⟩))
      · rintro j D' σ H10 hj ⟨hs', ds', v11, rfl, S10, hl⟩
        obtain ⟨dx, f', m', hs'', rfl, hp, _⟩ := S10.ob
        have hcl := S10.ch.len
        match ds', hs'', hcl, S10, hl with
        | [], _, _, _, hl => exact absurd hl (by show 0 + j ≠ _; (first | lia | omega))
        | _ :: _, [], hcl, _, _ => exact absurd hcl (by simp)
        | e :: ds3, s2 :: hs3, _, S10, hl =>
          refine (exq rfl ⟨p, dx, _, rfl, hp, fl_no (by decide +kernel) (by decide +kernel) (by decide +kernel) (by decide +kernel), p, d, q, n, rfl, .inl ⟨_, s2, hs3, e, ds3, S10, fun H11 k11 S11 => ?_⟩⟩)
          exact ⟨_, ds3, _, rfl, S11, by rw [List.length_cons] at hl; (first | lia | omega)⟩
      · rintro σ H10 ⟨hs', ds', v11, rfl, S10, hl⟩
        have hz : ds' = [] := List.length_eq_zero_iff.mp (by (first | lia | omega))
        subst hz
        obtain rfl : hs' = [(0, [])] := by cases S10.ch; rfl
        refine (exq rfl ⟨dl rfl, fun tb htb => ?_⟩)
        have s5 := Same.new (o := .tup [.str "back"]) htb
        refine ⟨p, d, q, tb, n, 0, [], [], [], rfl, S10.same s5, Nat.zero_le _, .inr ⟨rfl, upd_same⟩, fun H6 s6 => (exq rfl (?_))⟩
        have S6 := (S10.same s5).same s6
        exact iteT (exq rfl (exq rfl (fun c hc => ⟨p, d, q, c, n, 0, [], [], [], _, rfl, rfl, S6.same (Same.new hc), ⟨[], upd_same, .refl _, (fun _ h => nomatch h)⟩, fun H7 _ => k _⟩)))
end

theorem all_mk {l : PySem.W.OpenLaw} {w : World} {K : PySem.W.Frag} {h : Heap} {mg : Str → Option Value} {fa : Addr} (X : K.In h) (G : h.Ns mainGlobals mg) (hfa : mg "law" = some (.ref fa))
    {f0 f1 f2 f3 f4 f5 f6 f7 f8 f9 f10 f11 f12 f13 f14 f15 f16 f17 f18 f19 f20 f21 : Addr} {od0 an0 od1 an1 od2 an2 od3 an3 od4 an4 od5 an5 od6 an6 od7 an7 od8 an8 od9 an9 od10 an10 od11 an11 od12 an12 od13 an13 od14 an14 od15 an15 od16 an16 od17 an17 od18 an18 od19 an19 od20 an20 od21 an21 : Option Addr} {sl0 sl1 sl2 sl3 sl4 sl5 sl6 sl7 sl8 sl9 sl10 sl11 sl12 sl13 sl14 sl15 sl16 sl17 sl18 sl19 sl20 sl21 : Array (Option Value)}
    {oc0 kV0 dc0 pm0 cd0 ct0 oc1 kV1 dc1 pm1 cd1 ct1 oc2 kV2 dc2 pm2 cd2 ct2 oc3 kV3 dc3 pm3 cd3 ct3 oc4 kV4 dc4 pm4 cd4 ct4 oc5 kV5 dc5 pm5 cd5 ct5 oc6 kV6 dc6 pm6 cd6 ct6 oc7 kV7 dc7 pm7 cd7 ct7 oc8 kV8 dc8 pm8 cd8 ct8 oc9 kV9 dc9 pm9 cd9 ct9 oc10 kV10 dc10 pm10 cd10 ct10 oc11 kV11 dc11 pm11 cd11 ct11 oc12 kV12 dc12 pm12 cd12 ct12 oc13 kV13 dc13 pm13 cd13 ct13 oc14 kV14 dc14 pm14 cd14 ct14 oc15 kV15 dc15 pm15 cd15 ct15 oc16 kV16 dc16 pm16 cd16 ct16 oc17 kV17 dc17 pm17 cd17 ct17 oc18 kV18 dc18 pm18 cd18 ct18 oc19 kV19 dc19 pm19 cd19 ct19 oc20 kV20 dc20 pm20 cd20 ct20 oc21 kV21 dc21 pm21 cd21 ct21 : Value}
    {u_RingError u_BadWeb u_BadSet u_BadPoint u_NotRing u_NoChord u_NoBase u_NoSuch u_TooMany u_BadRow u_NoDeed u_NotEven u_NoText u_Standing : Addr}
    {t_MOST_POINTS t_MOST_TIES t_LONGEST : Tok}
    (a0 : PySem.W.nsIn K mainGlobals "made_web" = some (some (.ref f0)))
    (l0 : K.lookup f0 = some ⟨oc0, od0, .func (PySem.W.fnOf "made_web" "made_web" (defArgs s_made_web) (defBody s_made_web) (defScope s_made_web) .none kV0 dc0 pm0 an0 cd0 ct0), sl0⟩)
    (c0 : PySem.W.codeIn K cd0 "made_web" = true) (k0 : PySem.W.keepIn K (.ref f0) = true)
    (a1 : PySem.W.nsIn K mainGlobals "made_tie" = some (some (.ref f1)))
    (l1 : K.lookup f1 = some ⟨oc1, od1, .func (PySem.W.fnOf "made_tie" "made_tie" (defArgs s_made_tie) (defBody s_made_tie) (defScope s_made_tie) .none kV1 dc1 pm1 an1 cd1 ct1), sl1⟩)
    (c1 : PySem.W.codeIn K cd1 "made_tie" = true) (k1 : PySem.W.keepIn K (.ref f1) = true)
    (a2 : PySem.W.nsIn K mainGlobals "_law_cell" = some (some (.ref f2)))
    (l2 : K.lookup f2 = some ⟨oc2, od2, .func (PySem.W.fnOf "_law_cell" "_law_cell" (defArgs s_law_cell) (defBody s_law_cell) (defScope s_law_cell) .none kV2 dc2 pm2 an2 cd2 ct2), sl2⟩)
    (c2 : PySem.W.codeIn K cd2 "_law_cell" = true) (k2 : PySem.W.keepIn K (.ref f2) = true)
    (a3 : PySem.W.nsIn K mainGlobals "_law_turn" = some (some (.ref f3)))
    (l3 : K.lookup f3 = some ⟨oc3, od3, .func (PySem.W.fnOf "_law_turn" "_law_turn" (defArgs s_law_turn) (defBody s_law_turn) (defScope s_law_turn) .none kV3 dc3 pm3 an3 cd3 ct3), sl3⟩)
    (c3 : PySem.W.codeIn K cd3 "_law_turn" = true) (k3 : PySem.W.keepIn K (.ref f3) = true)
    (a4 : PySem.W.nsIn K mainGlobals "_law_whole" = some (some (.ref f4)))
    (l4 : K.lookup f4 = some ⟨oc4, od4, .func (PySem.W.fnOf "_law_whole" "_law_whole" (defArgs s_law_whole) (defBody s_law_whole) (defScope s_law_whole) .none kV4 dc4 pm4 an4 cd4 ct4), sl4⟩)
    (c4 : PySem.W.codeIn K cd4 "_law_whole" = true) (k4 : PySem.W.keepIn K (.ref f4) = true)
    (a5 : PySem.W.nsIn K mainGlobals "_law_kinds" = some (some (.ref f5)))
    (l5 : K.lookup f5 = some ⟨oc5, od5, .func (PySem.W.fnOf "_law_kinds" "_law_kinds" (defArgs s_law_kinds) (defBody s_law_kinds) (defScope s_law_kinds) .none kV5 dc5 pm5 an5 cd5 ct5), sl5⟩)
    (c5 : PySem.W.codeIn K cd5 "_law_kinds" = true) (k5 : PySem.W.keepIn K (.ref f5) = true)
    (a6 : PySem.W.nsIn K mainGlobals "_law_near" = some (some (.ref f6)))
    (l6 : K.lookup f6 = some ⟨oc6, od6, .func (PySem.W.fnOf "_law_near" "_law_near" (defArgs s_law_near) (defBody s_law_near) (defScope s_law_near) .none kV6 dc6 pm6 an6 cd6 ct6), sl6⟩)
    (c6 : PySem.W.codeIn K cd6 "_law_near" = true) (k6 : PySem.W.keepIn K (.ref f6) = true)
    (a7 : PySem.W.nsIn K mainGlobals "_law_made" = some (some (.ref f7)))
    (l7 : K.lookup f7 = some ⟨oc7, od7, .func (PySem.W.fnOf "_law_made" "_law_made" (defArgs s_law_made) (defBody s_law_made) (defScope s_law_made) .none kV7 dc7 pm7 an7 cd7 ct7), sl7⟩)
    (c7 : PySem.W.codeIn K cd7 "_law_made" = true) (k7 : PySem.W.keepIn K (.ref f7) = true)
    (a8 : PySem.W.nsIn K mainGlobals "_law_can" = some (some (.ref f8)))
    (l8 : K.lookup f8 = some ⟨oc8, od8, .func (PySem.W.fnOf "_law_can" "_law_can" (defArgs s_law_can) (defBody s_law_can) (defScope s_law_can) .none kV8 dc8 pm8 an8 cd8 ct8), sl8⟩)
    (c8 : PySem.W.codeIn K cd8 "_law_can" = true) (k8 : PySem.W.keepIn K (.ref f8) = true)
    (a9 : PySem.W.nsIn K mainGlobals "_law_shown" = some (some (.ref f9)))
    (l9 : K.lookup f9 = some ⟨oc9, od9, .func (PySem.W.fnOf "_law_shown" "_law_shown" (defArgs s_law_shown) (defBody s_law_shown) (defScope s_law_shown) .none kV9 dc9 pm9 an9 cd9 ct9), sl9⟩)
    (c9 : PySem.W.codeIn K cd9 "_law_shown" = true) (k9 : PySem.W.keepIn K (.ref f9) = true)
    (a10 : PySem.W.nsIn K mainGlobals "_law_no_web" = some (some (.ref f10)))
    (l10 : K.lookup f10 = some ⟨oc10, od10, .func (PySem.W.fnOf "_law_no_web" "_law_no_web" (defArgs s_law_no_web) (defBody s_law_no_web) (defScope s_law_no_web) .none kV10 dc10 pm10 an10 cd10 ct10), sl10⟩)
    (c10 : PySem.W.codeIn K cd10 "_law_no_web" = true) (k10 : PySem.W.keepIn K (.ref f10) = true)
    (a11 : PySem.W.nsIn K mainGlobals "_law_refused" = some (some (.ref f11)))
    (l11 : K.lookup f11 = some ⟨oc11, od11, .func (PySem.W.fnOf "_law_refused" "_law_refused" (defArgs s_law_refused) (defBody s_law_refused) (defScope s_law_refused) .none kV11 dc11 pm11 an11 cd11 ct11), sl11⟩)
    (c11 : PySem.W.codeIn K cd11 "_law_refused" = true) (k11 : PySem.W.keepIn K (.ref f11) = true)
    (a12 : PySem.W.nsIn K mainGlobals "_law_bad_deeds" = some (some (.ref f12)))
    (l12 : K.lookup f12 = some ⟨oc12, od12, .func (PySem.W.fnOf "_law_bad_deeds" "_law_bad_deeds" (defArgs s_law_bad_deeds) (defBody s_law_bad_deeds) (defScope s_law_bad_deeds) .none kV12 dc12 pm12 an12 cd12 ct12), sl12⟩)
    (c12 : PySem.W.codeIn K cd12 "_law_bad_deeds" = true) (k12 : PySem.W.keepIn K (.ref f12) = true)
    (a13 : PySem.W.nsIn K mainGlobals "law" = some (some (.ref f13)))
    (l13 : K.lookup f13 = some ⟨oc13, od13, .func (PySem.W.fnOf "law" "law" (defArgs s_law) (defBody s_law) (defScope s_law) .none kV13 dc13 pm13 an13 cd13 ct13), sl13⟩)
    (c13 : PySem.W.codeIn K cd13 "law" = true) (k13 : PySem.W.keepIn K (.ref f13) = true)
    (a14 : PySem.W.findIn K (.ref u_Standing) "__init__" = some (some (.ref f14))) (j14 : PySem.W.isFn K (.ref f14) = true)
    (l14 : K.lookup f14 = some ⟨oc14, od14, .func (PySem.W.fnOf "__init__" "Standing.__init__" (defArgs s_Standing_init) (defBody s_Standing_init) (defScope s_Standing_init) .none kV14 dc14 pm14 an14 cd14 ct14), sl14⟩)
    (c14 : PySem.W.codeIn K cd14 "Standing.__init__" = true) (k14 : PySem.W.keepIn K (.ref f14) = true)
    (a15 : PySem.W.findIn K (.ref u_Standing) "put" = some (some (.ref f15))) (j15 : PySem.W.isFn K (.ref f15) = true)
    (l15 : K.lookup f15 = some ⟨oc15, od15, .func (PySem.W.fnOf "put" "Standing.put" (defArgs s_Standing_put) (defBody s_Standing_put) (defScope s_Standing_put) .none kV15 dc15 pm15 an15 cd15 ct15), sl15⟩)
    (c15 : PySem.W.codeIn K cd15 "Standing.put" = true) (k15 : PySem.W.keepIn K (.ref f15) = true)
    (a16 : PySem.W.findIn K (.ref u_Standing) "drop" = some (some (.ref f16))) (j16 : PySem.W.isFn K (.ref f16) = true)
    (l16 : K.lookup f16 = some ⟨oc16, od16, .func (PySem.W.fnOf "drop" "Standing.drop" (defArgs s_Standing_drop) (defBody s_Standing_drop) (defScope s_Standing_drop) .none kV16 dc16 pm16 an16 cd16 ct16), sl16⟩)
    (c16 : PySem.W.codeIn K cd16 "Standing.drop" = true) (k16 : PySem.W.keepIn K (.ref f16) = true)
    (a17 : PySem.W.findIn K (.ref u_Standing) "back" = some (some (.ref f17))) (j17 : PySem.W.isFn K (.ref f17) = true)
    (l17 : K.lookup f17 = some ⟨oc17, od17, .func (PySem.W.fnOf "back" "Standing.back" (defArgs s_Standing_back) (defBody s_Standing_back) (defScope s_Standing_back) .none kV17 dc17 pm17 an17 cd17 ct17), sl17⟩)
    (c17 : PySem.W.codeIn K cd17 "Standing.back" = true) (k17 : PySem.W.keepIn K (.ref f17) = true)
    (a18 : PySem.W.findIn K (.ref u_Standing) "names" = some (some (.ref f18))) (j18 : PySem.W.isFn K (.ref f18) = true)
    (l18 : K.lookup f18 = some ⟨oc18, od18, .func (PySem.W.fnOf "names" "Standing.names" (defArgs s_Standing_names) (defBody s_Standing_names) (defScope s_Standing_names) .none kV18 dc18 pm18 an18 cd18 ct18), sl18⟩)
    (c18 : PySem.W.codeIn K cd18 "Standing.names" = true) (k18 : PySem.W.keepIn K (.ref f18) = true)
    (a19 : PySem.W.findIn K (.ref u_Standing) "ties_now" = some (some (.ref f19))) (j19 : PySem.W.isFn K (.ref f19) = true)
    (l19 : K.lookup f19 = some ⟨oc19, od19, .func (PySem.W.fnOf "ties_now" "Standing.ties_now" (defArgs s_Standing_ties_now) (defBody s_Standing_ties_now) (defScope s_Standing_ties_now) .none kV19 dc19 pm19 an19 cd19 ct19), sl19⟩)
    (c19 : PySem.W.codeIn K cd19 "Standing.ties_now" = true) (k19 : PySem.W.keepIn K (.ref f19) = true)
    (a20 : PySem.W.findIn K (.ref u_Standing) "web_now" = some (some (.ref f20))) (j20 : PySem.W.isFn K (.ref f20) = true)
    (l20 : K.lookup f20 = some ⟨oc20, od20, .func (PySem.W.fnOf "web_now" "Standing.web_now" (defArgs s_Standing_web_now) (defBody s_Standing_web_now) (defScope s_Standing_web_now) .none kV20 dc20 pm20 an20 cd20 ct20), sl20⟩)
    (c20 : PySem.W.codeIn K cd20 "Standing.web_now" = true) (k20 : PySem.W.keepIn K (.ref f20) = true)
    (a21 : PySem.W.findIn K (.ref u_Standing) "deeds" = some (some (.ref f21))) (j21 : PySem.W.isFn K (.ref f21) = true)
    (l21 : K.lookup f21 = some ⟨oc21, od21, .func (PySem.W.fnOf "deeds" "Standing.deeds" (defArgs s_Standing_deeds) (defBody s_Standing_deeds) (defScope s_Standing_deeds) .none kV21 dc21 pm21 an21 cd21 ct21), sl21⟩)
    (c21 : PySem.W.codeIn K cd21 "Standing.deeds" = true) (k21 : PySem.W.keepIn K (.ref f21) = true)
    (z_ValueError : PySem.W.nsIn K mainGlobals "ValueError" = some none)
    (z_bool : PySem.W.nsIn K mainGlobals "bool" = some none)
    (z_int : PySem.W.nsIn K mainGlobals "int" = some none)
    (z_isinstance : PySem.W.nsIn K mainGlobals "isinstance" = some none)
    (z_len : PySem.W.nsIn K mainGlobals "len" = some none)
    (z_list : PySem.W.nsIn K mainGlobals "list" = some none)
    (z_max : PySem.W.nsIn K mainGlobals "max" = some none)
    (z_range : PySem.W.nsIn K mainGlobals "range" = some none)
    (z_sorted : PySem.W.nsIn K mainGlobals "sorted" = some none)
    (z_tuple : PySem.W.nsIn K mainGlobals "tuple" = some none)
    (i_MOST_POINTS : PySem.W.nsIn K mainGlobals "MOST_POINTS" = some (some (.int 10 t_MOST_POINTS)))
    (i_MOST_TIES : PySem.W.nsIn K mainGlobals "MOST_TIES" = some (some (.int 24 t_MOST_TIES)))
    (i_LONGEST : PySem.W.nsIn K mainGlobals "LONGEST" = some (some (.int 1000000000000000000000000000000 t_LONGEST)))
    (d_RingError : PySem.W.nsIn K mainGlobals "RingError" = some (some (.ref u_RingError)))
    (d_BadWeb : PySem.W.nsIn K mainGlobals "BadWeb" = some (some (.ref u_BadWeb)))
    (d_BadSet : PySem.W.nsIn K mainGlobals "BadSet" = some (some (.ref u_BadSet)))
    (d_BadPoint : PySem.W.nsIn K mainGlobals "BadPoint" = some (some (.ref u_BadPoint)))
    (d_NotRing : PySem.W.nsIn K mainGlobals "NotRing" = some (some (.ref u_NotRing)))
    (d_NoChord : PySem.W.nsIn K mainGlobals "NoChord" = some (some (.ref u_NoChord)))
    (d_NoBase : PySem.W.nsIn K mainGlobals "NoBase" = some (some (.ref u_NoBase)))
    (d_NoSuch : PySem.W.nsIn K mainGlobals "NoSuch" = some (some (.ref u_NoSuch)))
    (d_TooMany : PySem.W.nsIn K mainGlobals "TooMany" = some (some (.ref u_TooMany)))
    (d_BadRow : PySem.W.nsIn K mainGlobals "BadRow" = some (some (.ref u_BadRow)))
    (d_NoDeed : PySem.W.nsIn K mainGlobals "NoDeed" = some (some (.ref u_NoDeed)))
    (d_NotEven : PySem.W.nsIn K mainGlobals "NotEven" = some (some (.ref u_NotEven)))
    (d_NoText : PySem.W.nsIn K mainGlobals "NoText" = some (some (.ref u_NoText)))
    (d_Standing : PySem.W.nsIn K mainGlobals "Standing" = some (some (.ref u_Standing)))
    (pg_Standing : PySem.W.plainGet K u_Standing Str.empty = true) (hd_Standing : PySem.W.hasDictIn K u_Standing = true) (po_Standing : PySem.W.plainOver K u_Standing = true) (sa_Standing : PySem.W.findIn K (.ref u_Standing) "__setattr__" = some (some (.builtin "object.__setattr__"))) (mk_Standing : PySem.W.makesIn K u_Standing = true) (kc_Standing : PySem.W.keepIn K (.ref u_Standing) = true)
    (na_points : PySem.W.findIn K (.ref u_Standing) "points" = some none)
    (na_standing_ties : PySem.W.findIn K (.ref u_Standing) "standing_ties" = some none)
    (na_next_name : PySem.W.findIn K (.ref u_Standing) "next_name" = some none)
    (na_done : PySem.W.findIn K (.ref u_Standing) "done" = some none)
    (xc_BadWeb : PySem.W.excIn K u_BadWeb [.type "ValueError", .type "Exception", .type "BaseException", .type "object"] "ValueError.__new__" = true)
    (ea_BadWeb : PySem.W.findIn K (.ref u_BadWeb) "__getattribute__" = some (some (.builtin "BaseException.__getattribute__"))) (eb_BadWeb : PySem.W.findIn K (.ref u_BadWeb) "__getattr__" = some none)
    (ec_BadWeb : PySem.W.findIn K (.ref u_BadWeb) "__class__" = some (some (.builtin "object.__class__"))) (ed_BadWeb : PySem.W.specialIn K (.builtin "object.__class__") "__get__" = some (some (.builtin "getset_descriptor.__get__")))
    (ee_BadWeb : PySem.W.takesIn K (.builtin "object.__class__") = some true) (ef_BadWeb : PySem.W.mroIn K u_BadWeb (.type "object") = some true) (eg_BadWeb : PySem.W.hasDictIn K u_BadWeb = true) (eh_BadWeb : PySem.W.mroIn K u_BadWeb (.type "BaseException") = some true)
    (hx_BadWeb : PySem.W.exmOne K (.ref u_BadWeb) (.ref u_RingError) = some true)
    (qv_BadWeb : PySem.W.kitOne K (.ref u_BadWeb) (.type "ValueError") = some true)
    (q_BadWeb_BadWeb : PySem.W.kitOne K (.ref u_BadWeb) (.ref u_BadWeb) = some true)
    (q_BadWeb_BadSet : PySem.W.kitOne K (.ref u_BadWeb) (.ref u_BadSet) = some false)
    (q_BadWeb_BadPoint : PySem.W.kitOne K (.ref u_BadWeb) (.ref u_BadPoint) = some false)
    (q_BadWeb_NotRing : PySem.W.kitOne K (.ref u_BadWeb) (.ref u_NotRing) = some false)
    (q_BadWeb_NoChord : PySem.W.kitOne K (.ref u_BadWeb) (.ref u_NoChord) = some false)
    (q_BadWeb_NoBase : PySem.W.kitOne K (.ref u_BadWeb) (.ref u_NoBase) = some false)
    (q_BadWeb_NoSuch : PySem.W.kitOne K (.ref u_BadWeb) (.ref u_NoSuch) = some false)
    (q_BadWeb_TooMany : PySem.W.kitOne K (.ref u_BadWeb) (.ref u_TooMany) = some false)
    (q_BadWeb_BadRow : PySem.W.kitOne K (.ref u_BadWeb) (.ref u_BadRow) = some false)
    (q_BadWeb_NoDeed : PySem.W.kitOne K (.ref u_BadWeb) (.ref u_NoDeed) = some false)
    (q_BadWeb_NotEven : PySem.W.kitOne K (.ref u_BadWeb) (.ref u_NotEven) = some false)
    (q_BadWeb_NoText : PySem.W.kitOne K (.ref u_BadWeb) (.ref u_NoText) = some false)
    (xc_NoDeed : PySem.W.excIn K u_NoDeed [.type "ValueError", .type "Exception", .type "BaseException", .type "object"] "ValueError.__new__" = true)
    (ea_NoDeed : PySem.W.findIn K (.ref u_NoDeed) "__getattribute__" = some (some (.builtin "BaseException.__getattribute__"))) (eb_NoDeed : PySem.W.findIn K (.ref u_NoDeed) "__getattr__" = some none)
    (ec_NoDeed : PySem.W.findIn K (.ref u_NoDeed) "__class__" = some (some (.builtin "object.__class__"))) (ed_NoDeed : PySem.W.specialIn K (.builtin "object.__class__") "__get__" = some (some (.builtin "getset_descriptor.__get__")))
    (ee_NoDeed : PySem.W.takesIn K (.builtin "object.__class__") = some true) (ef_NoDeed : PySem.W.mroIn K u_NoDeed (.type "object") = some true) (eg_NoDeed : PySem.W.hasDictIn K u_NoDeed = true) (eh_NoDeed : PySem.W.mroIn K u_NoDeed (.type "BaseException") = some true)
    (hx_NoDeed : PySem.W.exmOne K (.ref u_NoDeed) (.ref u_RingError) = some true)
    (qv_NoDeed : PySem.W.kitOne K (.ref u_NoDeed) (.type "ValueError") = some true)
    (q_NoDeed_BadWeb : PySem.W.kitOne K (.ref u_NoDeed) (.ref u_BadWeb) = some false)
    (q_NoDeed_BadSet : PySem.W.kitOne K (.ref u_NoDeed) (.ref u_BadSet) = some false)
    (q_NoDeed_BadPoint : PySem.W.kitOne K (.ref u_NoDeed) (.ref u_BadPoint) = some false)
    (q_NoDeed_NotRing : PySem.W.kitOne K (.ref u_NoDeed) (.ref u_NotRing) = some false)
    (q_NoDeed_NoChord : PySem.W.kitOne K (.ref u_NoDeed) (.ref u_NoChord) = some false)
    (q_NoDeed_NoBase : PySem.W.kitOne K (.ref u_NoDeed) (.ref u_NoBase) = some false)
    (q_NoDeed_NoSuch : PySem.W.kitOne K (.ref u_NoDeed) (.ref u_NoSuch) = some false)
    (q_NoDeed_TooMany : PySem.W.kitOne K (.ref u_NoDeed) (.ref u_TooMany) = some false)
    (q_NoDeed_BadRow : PySem.W.kitOne K (.ref u_NoDeed) (.ref u_BadRow) = some false)
    (q_NoDeed_NoDeed : PySem.W.kitOne K (.ref u_NoDeed) (.ref u_NoDeed) = some true)
    (q_NoDeed_NotEven : PySem.W.kitOne K (.ref u_NoDeed) (.ref u_NotEven) = some false)
    (q_NoDeed_NoText : PySem.W.kitOne K (.ref u_NoDeed) (.ref u_NoText) = some false)
    (hy_BadWeb : PySem.W.exmOne K (.ref u_BadWeb) (.ref u_BadWeb) = some true)
    : ∃ fd : FuncData, (∀ (s : Shared) (v : Value), BindsTo s fd ⟨[v], []⟩ [("script", v)]) ∧ ∀ base : Heap, K.In base → base.Ns mainGlobals mg → FnOk l.prog w K mg base CX0 6 fa fd ["script"] (sp_law K) := by
  have e := hfa.symm.trans (PySem.W.mg_of X G a13)
  cases e
  have F0 := fun_mk (st := s_made_web) l0 c0 k0
  have b0 := F0.binds (ps := ["points", "ties"]) fun _ _ _ _ _ _ us hl => by obtain ⟨_, _, rfl⟩ := len2 us hl; rfl
  have F1 := fun_mk (st := s_made_tie) l1 c1 k1
  have b1 := F1.binds (ps := ["points", "tie"]) fun _ _ _ _ _ _ us hl => by obtain ⟨_, _, rfl⟩ := len2 us hl; rfl
  have F2 := fun_mk (st := s_law_cell) l2 c2 k2
  have b2 := F2.binds (ps := ["script", "k"]) fun _ _ _ _ _ _ us hl => by obtain ⟨_, _, rfl⟩ := len2 us hl; rfl
  have F3 := fun_mk (st := s_law_turn) l3 c3 k3
  have b3 := F3.binds (ps := ["cell"]) fun _ _ _ _ _ _ us hl => by obtain ⟨_, rfl⟩ := len1 us hl; rfl
  have F4 := fun_mk (st := s_law_whole) l4 c4 k4
  have b4 := F4.binds (ps := ["found"]) fun _ _ _ _ _ _ us hl => by obtain ⟨_, rfl⟩ := len1 us hl; rfl
  have F5 := fun_mk (st := s_law_kinds) l5 c5 k5
  have b5 := F5.binds (ps := ["e"]) fun _ _ _ _ _ _ us hl => by obtain ⟨_, rfl⟩ := len1 us hl; rfl
  have F6 := fun_mk (st := s_law_near) l6 c6 k6
  have b6 := F6.binds (ps := ["cell", "points"]) fun _ _ _ _ _ _ us hl => by obtain ⟨_, _, rfl⟩ := len2 us hl; rfl
  have F7 := fun_mk (st := s_law_made) l7 c7 k7
  have b7 := F7.binds (ps := ["held"]) fun _ _ _ _ _ _ us hl => by obtain ⟨_, rfl⟩ := len1 us hl; rfl
  have F8 := fun_mk (st := s_law_can) l8 c8 k8
  have b8 := F8.binds (ps := ["points", "held", "tie"]) fun _ _ _ _ _ _ us hl => by obtain ⟨_, _, _, rfl⟩ := len3 us hl; rfl
  have F9 := fun_mk (st := s_law_shown) l9 c9 k9
  have b9 := F9.binds (ps := ["standing", "points", "held", "many"]) fun _ _ _ _ _ _ us hl => by obtain ⟨_, _, _, _, rfl⟩ := len4 us hl; rfl
  have F10 := fun_mk (st := s_law_no_web) l10 c10 k10
  have b10 := F10.binds (ps := ["points"]) fun _ _ _ _ _ _ us hl => by obtain ⟨_, rfl⟩ := len1 us hl; rfl
  have F11 := fun_mk (st := s_law_refused) l11 c11 k11
  have b11 := F11.binds (ps := ["standing", "deed"]) fun _ _ _ _ _ _ us hl => by obtain ⟨_, _, rfl⟩ := len2 us hl; rfl
  have F12 := fun_mk (st := s_law_bad_deeds) l12 c12 k12
  have b12 := F12.binds (ps := ["points", "held", "fresh", "turn"]) fun _ _ _ _ _ _ us hl => by obtain ⟨_, _, _, _, rfl⟩ := len4 us hl; rfl
  have F13 := fun_mk (st := s_law) l13 c13 k13
  have b13 := F13.binds (ps := ["script"]) fun _ _ _ _ _ _ us hl => by obtain ⟨_, rfl⟩ := len1 us hl; rfl
  have F14 := fun_mk (st := s_Standing_init) l14 c14 k14
  have b14 := F14.binds (ps := ["self", "points"]) fun _ _ _ _ _ _ us hl => by obtain ⟨_, _, rfl⟩ := len2 us hl; rfl
  have F15 := fun_mk (st := s_Standing_put) l15 c15 k15
  have b15 := F15.binds (ps := ["self", "one", "other", "length"]) fun _ _ _ _ _ _ us hl => by obtain ⟨_, _, _, _, rfl⟩ := len4 us hl; rfl
  have F16 := fun_mk (st := s_Standing_drop) l16 c16 k16
  have b16 := F16.binds (ps := ["self", "name"]) fun _ _ _ _ _ _ us hl => by obtain ⟨_, _, rfl⟩ := len2 us hl; rfl
  have F17 := fun_mk (st := s_Standing_back) l17 c17 k17
  have b17 := F17.binds (ps := ["self"]) fun _ _ _ _ _ _ us hl => by obtain ⟨_, rfl⟩ := len1 us hl; rfl
  have F18 := fun_mk (st := s_Standing_names) l18 c18 k18
  have b18 := F18.binds (ps := ["self"]) fun _ _ _ _ _ _ us hl => by obtain ⟨_, rfl⟩ := len1 us hl; rfl
  have F19 := fun_mk (st := s_Standing_ties_now) l19 c19 k19
  have b19 := F19.binds (ps := ["self"]) fun _ _ _ _ _ _ us hl => by obtain ⟨_, rfl⟩ := len1 us hl; rfl
  have F20 := fun_mk (st := s_Standing_web_now) l20 c20 k20
  have b20 := F20.binds (ps := ["self"]) fun _ _ _ _ _ _ us hl => by obtain ⟨_, rfl⟩ := len1 us hl; rfl
  have F21 := fun_mk (st := s_Standing_deeds) l21 c21 k21
  have b21 := F21.binds (ps := ["self"]) fun _ _ _ _ _ _ us hl => by obtain ⟨_, rfl⟩ := len1 us hl; rfl
  have T : Txt K mg ⟨f0, _, f1, _, f2, _, f3, _, f4, _, f5, _, f6, _, f7, _, f8, _, f9, _, f10, _, f11, _, f12, _, fa, _, f14, _, f15, _, f16, _, f17, _, f18, _, f19, _, f20, _, f21, _, u_RingError, u_BadWeb, u_BadSet, u_BadPoint, u_NotRing, u_NoChord, u_NoBase, u_NoSuch, u_TooMany, u_BadRow, u_NoDeed, u_NotEven, u_NoText, u_Standing⟩ := ⟨F0, PySem.W.mg_of X G a0, b0, F1, PySem.W.mg_of X G a1, b1, F2, PySem.W.mg_of X G a2, b2, F3, PySem.W.mg_of X G a3, b3, F4, PySem.W.mg_of X G a4, b4, F5, PySem.W.mg_of X G a5, b5, F6, PySem.W.mg_of X G a6, b6, F7, PySem.W.mg_of X G a7, b7, F8, PySem.W.mg_of X G a8, b8, F9, PySem.W.mg_of X G a9, b9, F10, PySem.W.mg_of X G a10, b10, F11, PySem.W.mg_of X G a11, b11, F12, PySem.W.mg_of X G a12, b12, F13, PySem.W.mg_of X G a13, b13, F14, ⟨mk_Standing, a14, j14, kc_Standing⟩, b14, F15, ⟨a15, j15, k15⟩, b15, F16, ⟨a16, j16, k16⟩, b16, F17, ⟨a17, j17, k17⟩, b17, F18, ⟨a18, j18, k18⟩, b18, F19, ⟨a19, j19, k19⟩, b19, F20, ⟨a20, j20, k20⟩, b20, F21, ⟨a21, j21, k21⟩, b21, PySem.W.mg_none_of X G z_ValueError, PySem.W.mg_none_of X G z_bool, PySem.W.mg_none_of X G z_int, PySem.W.mg_none_of X G z_isinstance, PySem.W.mg_none_of X G z_len, PySem.W.mg_none_of X G z_list, PySem.W.mg_none_of X G z_max, PySem.W.mg_none_of X G z_range, PySem.W.mg_none_of X G z_sorted, PySem.W.mg_none_of X G z_tuple, ⟨_, PySem.W.mg_of X G i_MOST_POINTS⟩, ⟨_, PySem.W.mg_of X G i_MOST_TIES⟩, ⟨_, PySem.W.mg_of X G i_LONGEST⟩, PySem.W.mg_of X G d_RingError, PySem.W.mg_of X G d_BadWeb, PySem.W.mg_of X G d_BadSet, PySem.W.mg_of X G d_BadPoint, PySem.W.mg_of X G d_NotRing, PySem.W.mg_of X G d_NoChord, PySem.W.mg_of X G d_NoBase, PySem.W.mg_of X G d_NoSuch, PySem.W.mg_of X G d_TooMany, PySem.W.mg_of X G d_BadRow, PySem.W.mg_of X G d_NoDeed, PySem.W.mg_of X G d_NotEven, PySem.W.mg_of X G d_NoText, PySem.W.mg_of X G d_Standing, ⟨pg_Standing, hd_Standing, po_Standing, sa_Standing⟩, na_points, na_standing_ties, na_next_name, na_done, fun h1 X1 G1 => own_of X1 G1 d_BadWeb xc_BadWeb, ⟨ea_BadWeb, eb_BadWeb, ec_BadWeb, ed_BadWeb, ee_BadWeb, ef_BadWeb, eh_BadWeb, exc_is eg_BadWeb⟩, hx_BadWeb, qv_BadWeb, q_BadWeb_BadWeb, q_BadWeb_BadSet, q_BadWeb_BadPoint, q_BadWeb_NotRing, q_BadWeb_NoChord, q_BadWeb_NoBase, q_BadWeb_NoSuch, q_BadWeb_TooMany, q_BadWeb_BadRow, q_BadWeb_NoDeed, q_BadWeb_NotEven, q_BadWeb_NoText, fun h1 X1 G1 => own_of X1 G1 d_NoDeed xc_NoDeed, ⟨ea_NoDeed, eb_NoDeed, ec_NoDeed, ed_NoDeed, ee_NoDeed, ef_NoDeed, eh_NoDeed, exc_is eg_NoDeed⟩, hx_NoDeed, qv_NoDeed, q_NoDeed_BadWeb, q_NoDeed_BadSet, q_NoDeed_BadPoint, q_NoDeed_NotRing, q_NoDeed_NoChord, q_NoDeed_NoBase, q_NoDeed_NoSuch, q_NoDeed_TooMany, q_NoDeed_BadRow, q_NoDeed_NoDeed, q_NoDeed_NotEven, q_NoDeed_NoText, hy_BadWeb⟩
  exact ⟨PySem.W.fnOf "law" "law" (defArgs s_law) (defBody s_law) (defScope s_law) .none kV13 dc13 pm13 an13 cd13 ct13, fun s v => .of_eq rfl, fun base _ _ => G_law T⟩
theorem walk {l : PySem.W.OpenLaw} {q : Program} {loose : List Str} {XP : (Str → Option Value) → Heap → Prop} {YP : World → Heap → Prop} {d : DefRec} {K : Params → PySem.W.Frag} (hn : l.most = some 63) (hdf : d.params.defaults = [])
    (hY : ∀ (w : World) (h : Heap), YP w h → (K w.params).In h)
    (F : ∀ (w : World) (mg : Str → Option Value) (fa : Addr) (h : Heap), (K w.params).In h → h.Ns mainGlobals mg → mg d.name = some (.ref fa) →
      ∃ fd : FuncData, (∀ (s : Shared) (u : Value), BindsTo s fd ⟨[u], []⟩ [("script", u)]) ∧ ∀ base : Heap, (K w.params).In base → base.Ns mainGlobals mg → FnOk l.prog w (K w.params) mg base CX0 6 fa fd ["script"] (sp_law (K w.params))) :
    PySem.W.WalkO q loose XP YP l.row.toRowW d [] (fun f vs => PySem.call f vs) :=
  L2.walk_of (n := 63) (k := 6) (x := "script") (CX := fun _ => CX0) (sp := fun w => sp_law (K w.params)) hn (by decide) hdf ⟨rfl, by decide, by decide⟩ hY F (fun _ _ a ns hl _ hS => ⟨a, ns, rfl, hS, hl, fun _ => rfl⟩) fun _ _ _ _ _ z => z
end K53
def PySem.W.Fast.tw9433329281879420053 : Unit := ()
def PySem.W.Fast.tw522524372225292570 : Unit := ()
def PySem.W.Fast.tw9252586678330460230 : Unit := ()
def PySem.W.Fast.tw11992989648009898570 : Unit := ()
def PySem.W.Fast.tw13973797795036679261 : Unit := ()
def PySem.W.Fast.tw18360422235295086472 : Unit := ()
def PySem.W.Fast.tw7682844235895403930 : Unit := ()
def PySem.W.Fast.tw13983673129187296986 : Unit := ()
def PySem.W.Fast.tw856387861581308254 : Unit := ()
def PySem.W.Fast.tw5979254813450269126 : Unit := ()
open PySem PySem.W PyProof.Rows
set_option maxRecDepth 100000 in
set_option maxHeartbeats 0 in
theorem PySem.Challenge.cw_ringbase_k53_deeds_refused_holds : PySem.Challenge.rw_ringbase_k53_deeds_refused.Holds := by
  w_on; o_law; k_head; (case hw => w_witness2)
  k_fill
  refine K53.walk (l := PySem.Challenge.rw_ringbase_k53_deeds_refused) rfl rfl (fun w h Y => PySem.W.kIn_of Y) ?F
  case F =>
    intro w mg fa h KX G hmg
    refine' K53.all_mk KX G hmg ?a0 ?l0 ?c0 ?k0 ?a1 ?l1 ?c1 ?k1 ?a2 ?l2 ?c2 ?k2 ?a3 ?l3 ?c3 ?k3 ?a4 ?l4 ?c4 ?k4 ?a5 ?l5 ?c5 ?k5 ?a6 ?l6 ?c6 ?k6 ?a7 ?l7 ?c7 ?k7 ?a8 ?l8 ?c8 ?k8 ?a9 ?l9 ?c9 ?k9 ?a10 ?l10 ?c10 ?k10 ?a11 ?l11 ?c11 ?k11 ?a12 ?l12 ?c12 ?k12 ?a13 ?l13 ?c13 ?k13 ?a14 ?j14 ?l14 ?c14 ?k14 ?a15 ?j15 ?l15 ?c15 ?k15 ?a16 ?j16 ?l16 ?c16 ?k16 ?a17 ?j17 ?l17 ?c17 ?k17 ?a18 ?j18 ?l18 ?c18 ?k18 ?a19 ?j19 ?l19 ?c19 ?k19 ?a20 ?j20 ?l20 ?c20 ?k20 ?a21 ?j21 ?l21 ?c21 ?k21 ?z_ValueError ?z_bool ?z_int ?z_isinstance ?z_len ?z_list ?z_max ?z_range ?z_sorted ?z_tuple ?i_MOST_POINTS ?i_MOST_TIES ?i_LONGEST ?d_RingError ?d_BadWeb ?d_BadSet ?d_BadPoint ?d_NotRing ?d_NoChord ?d_NoBase ?d_NoSuch ?d_TooMany ?d_BadRow ?d_NoDeed ?d_NotEven ?d_NoText ?d_Standing ?pg_Standing ?hd_Standing ?po_Standing ?sa_Standing ?mk_Standing ?kc_Standing ?na_points ?na_standing_ties ?na_next_name ?na_done ?xc_BadWeb ?ea_BadWeb ?eb_BadWeb ?ec_BadWeb ?ed_BadWeb ?ee_BadWeb ?ef_BadWeb ?eg_BadWeb ?eh_BadWeb ?hx_BadWeb ?qv_BadWeb ?q_BadWeb_BadWeb ?q_BadWeb_BadSet ?q_BadWeb_BadPoint ?q_BadWeb_NotRing ?q_BadWeb_NoChord ?q_BadWeb_NoBase ?q_BadWeb_NoSuch ?q_BadWeb_TooMany ?q_BadWeb_BadRow ?q_BadWeb_NoDeed ?q_BadWeb_NotEven ?q_BadWeb_NoText ?xc_NoDeed ?ea_NoDeed ?eb_NoDeed ?ec_NoDeed ?ed_NoDeed ?ee_NoDeed ?ef_NoDeed ?eg_NoDeed ?eh_NoDeed ?hx_NoDeed ?qv_NoDeed ?q_NoDeed_BadWeb ?q_NoDeed_BadSet ?q_NoDeed_BadPoint ?q_NoDeed_NotRing ?q_NoDeed_NoChord ?q_NoDeed_NoBase ?q_NoDeed_NoSuch ?q_NoDeed_TooMany ?q_NoDeed_BadRow ?q_NoDeed_NoDeed ?q_NoDeed_NotEven ?q_NoDeed_NoText ?hy_BadWeb
    (case d_RingError => k_is)
    (case d_BadWeb => k_is)
    (case d_BadSet => k_is)
    (case d_BadPoint => k_is)
    (case d_NotRing => k_is)
    (case d_NoChord => k_is)
    (case d_NoBase => k_is)
    (case d_NoSuch => k_is)
    (case d_TooMany => k_is)
    (case d_BadRow => k_is)
    (case d_NoDeed => k_is)
    (case d_NotEven => k_is)
    (case d_NoText => k_is)
    (case d_Standing => k_is)
    (case a0 => k_is)
    (case l0 => k_is)
    (case c0 => k_is)
    (case k0 => k_is)
    (case a1 => k_is)
    (case l1 => k_is)
    (case c1 => k_is)
    (case k1 => k_is)
    (case a2 => k_is)
    (case l2 => k_is)
    (case c2 => k_is)
    (case k2 => k_is)
    (case a3 => k_is)
    (case l3 => k_is)
    (case c3 => k_is)
    (case k3 => k_is)
    (case a4 => k_is)
    (case l4 => k_is)
    (case c4 => k_is)
    (case k4 => k_is)
    (case a5 => k_is)
    (case l5 => k_is)
    (case c5 => k_is)
    (case k5 => k_is)
    (case a6 => k_is)
    (case l6 => k_is)
    (case c6 => k_is)
    (case k6 => k_is)
    (case a7 => k_is)
    (case l7 => k_is)
    (case c7 => k_is)
    (case k7 => k_is)
    (case a8 => k_is)
    (case l8 => k_is)
    (case c8 => k_is)
    (case k8 => k_is)
    (case a9 => k_is)
    (case l9 => k_is)
    (case c9 => k_is)
    (case k9 => k_is)
    (case a10 => k_is)
    (case l10 => k_is)
    (case c10 => k_is)
    (case k10 => k_is)
    (case a11 => k_is)
    (case l11 => k_is)
    (case c11 => k_is)
    (case k11 => k_is)
    (case a12 => k_is)
    (case l12 => k_is)
    (case c12 => k_is)
    (case k12 => k_is)
    (case a13 => k_is)
    (case l13 => k_is)
    (case c13 => k_is)
    (case k13 => k_is)
    (case a14 => k_is)
    (case j14 => k_is)
    (case l14 => k_is)
    (case c14 => k_is)
    (case k14 => k_is)
    (case a15 => k_is)
    (case j15 => k_is)
    (case l15 => k_is)
    (case c15 => k_is)
    (case k15 => k_is)
    (case a16 => k_is)
    (case j16 => k_is)
    (case l16 => k_is)
    (case c16 => k_is)
    (case k16 => k_is)
    (case a17 => k_is)
    (case j17 => k_is)
    (case l17 => k_is)
    (case c17 => k_is)
    (case k17 => k_is)
    (case a18 => k_is)
    (case j18 => k_is)
    (case l18 => k_is)
    (case c18 => k_is)
    (case k18 => k_is)
    (case a19 => k_is)
    (case j19 => k_is)
    (case l19 => k_is)
    (case c19 => k_is)
    (case k19 => k_is)
    (case a20 => k_is)
    (case j20 => k_is)
    (case l20 => k_is)
    (case c20 => k_is)
    (case k20 => k_is)
    (case a21 => k_is)
    (case j21 => k_is)
    (case l21 => k_is)
    (case c21 => k_is)
    (case k21 => k_is)
    (case z_ValueError => k_is)
    (case z_bool => k_is)
    (case z_int => k_is)
    (case z_isinstance => k_is)
    (case z_len => k_is)
    (case z_list => k_is)
    (case z_max => k_is)
    (case z_range => k_is)
    (case z_sorted => k_is)
    (case z_tuple => k_is)
    (case i_MOST_POINTS => k_is)
    (case i_MOST_TIES => k_is)
    (case i_LONGEST => k_is)
    (case pg_Standing => k_is)
    (case hd_Standing => k_is)
    (case po_Standing => k_is)
    (case sa_Standing => k_is)
    (case mk_Standing => k_is)
    (case kc_Standing => k_is)
    (case na_points => k_is)
    (case na_standing_ties => k_is)
    (case na_next_name => k_is)
    (case na_done => k_is)
    (case xc_BadWeb => k_exc)
    (case ea_BadWeb => k_is)
    (case eb_BadWeb => k_is)
    (case ec_BadWeb => k_is)
    (case ed_BadWeb => k_is)
    (case ee_BadWeb => k_is)
    (case ef_BadWeb => k_is)
    (case eg_BadWeb => k_is)
    (case eh_BadWeb => k_is)
    (case hx_BadWeb => kts_exm)
    (case qv_BadWeb => kit_is)
    (case q_BadWeb_BadWeb => kit_is)
    (case q_BadWeb_BadSet => kit_is)
    (case q_BadWeb_BadPoint => kit_is)
    (case q_BadWeb_NotRing => kit_is)
    (case q_BadWeb_NoChord => kit_is)
    (case q_BadWeb_NoBase => kit_is)
    (case q_BadWeb_NoSuch => kit_is)
    (case q_BadWeb_TooMany => kit_is)
    (case q_BadWeb_BadRow => kit_is)
    (case q_BadWeb_NoDeed => kit_is)
    (case q_BadWeb_NotEven => kit_is)
    (case q_BadWeb_NoText => kit_is)
    (case xc_NoDeed => k_exc)
    (case ea_NoDeed => k_is)
    (case eb_NoDeed => k_is)
    (case ec_NoDeed => k_is)
    (case ed_NoDeed => k_is)
    (case ee_NoDeed => k_is)
    (case ef_NoDeed => k_is)
    (case eg_NoDeed => k_is)
    (case eh_NoDeed => k_is)
    (case hx_NoDeed => kts_exm)
    (case qv_NoDeed => kit_is)
    (case q_NoDeed_BadWeb => kit_is)
    (case q_NoDeed_BadSet => kit_is)
    (case q_NoDeed_BadPoint => kit_is)
    (case q_NoDeed_NotRing => kit_is)
    (case q_NoDeed_NoChord => kit_is)
    (case q_NoDeed_NoBase => kit_is)
    (case q_NoDeed_NoSuch => kit_is)
    (case q_NoDeed_TooMany => kit_is)
    (case q_NoDeed_BadRow => kit_is)
    (case q_NoDeed_NoDeed => kit_is)
    (case q_NoDeed_NotEven => kit_is)
    (case q_NoDeed_NoText => kit_is)
    (case hy_BadWeb => kts_exm)

