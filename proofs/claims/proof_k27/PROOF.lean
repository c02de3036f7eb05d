import PyProof.Rows.All
import Wide.All
import OpenK.AllK
import Wide.FinOn
import Lean
import PyProof.EqAt
import PyProof.EqKinds
import PyProof.TupleCall
import PySem.Challenge.RW_ringbase_k27_marks_for_bases
set_option Elab.async false
set_option linter.all false
set_option maxRecDepth 100000
namespace L2
open PySem PySem.Spec PyProof.Rows

abbrev Key := Sum Int Str
def keyIs : Key → Value → Bool
  | .inl k, v => Value.isInt k v
  | .inr x, v => Value.isStrOf x v
def keyH (w : World) : Key → Int
  | .inl k => hashInt k
  | .inr x => hashStr w x
theorem keyIs_shape : ∀ {k : Key} {v : Value}, keyIs k v = true → (∃ i t, k = Sum.inl i ∧ v = Value.int i t) ∨ (∃ x t, k = Sum.inr x ∧ v = Value.str x t)
  | .inl i, v, h => by
    obtain ⟨t, e⟩ := Value.isInt_shape (k := i) (v := v) h
    exact .inl ⟨i, t, rfl, e⟩
  | .inr x, v, h => by
    obtain ⟨t, e⟩ := Value.isStrOf_shape (x := x) (v := v) h
    exact .inr ⟨x, t, rfl, e⟩
theorem keyIs_int (i : Int) (t : Tok) : keyIs (.inl i) (.int i t) = true := by simp [keyIs, Value.isInt]
theorem keyIs_str (x : Str) (t : Tok) : keyIs (.inr x) (.str x t) = true := by simp [keyIs, Value.isStrOf]
theorem key_ll (a b : Int) : decide ((Sum.inl a : Key) = Sum.inl b) = (a == b) := by
  by_cases e : a = b
  · subst e; simp
  · have h : ¬ (Sum.inl a : Key) = Sum.inl b := fun q => e (Sum.inl.inj q)
    rw [decide_eq_false h]
    exact (beq_eq_false_iff_ne.mpr e).symm
theorem key_rr (a b : Str) : decide ((Sum.inr a : Key) = Sum.inr b) = decide (a = b) := by
  by_cases e : a = b
  · subst e; simp
  · have h : ¬ (Sum.inr a : Key) = Sum.inr b := fun q => e (Sum.inr.inj q)
    rw [decide_eq_false h, decide_eq_false e]
theorem key_lr (a : Int) (b : Str) : decide ((Sum.inl a : Key) = Sum.inr b) = false := decide_eq_false (fun q => nomatch q)
theorem key_rl (a : Str) (b : Int) : decide ((Sum.inr a : Key) = Sum.inl b) = false := decide_eq_false (fun q => nomatch q)

def mixKind (prog : Program) (w : World) : PySem.KeyKind prog w Key where
  is := keyIs
  hash := keyH w
  inj := fun v a b ha hb => by
    rcases keyIs_shape ha with ⟨i, t, rfl, rfl⟩ | ⟨x, t, rfl, rfl⟩
    · rcases keyIs_shape hb with ⟨j, u, rfl, e⟩ | ⟨y, u, rfl, e⟩
      · injection e with e1 _; rw [e1]
      · exact nomatch e
    · rcases keyIs_shape hb with ⟨j, u, rfl, e⟩ | ⟨y, u, rfl, e⟩
      · exact nomatch e
      · injection e with e1 _; rw [e1]
  byValue := fun k v h => by
    rcases keyIs_shape h with ⟨i, t, rfl, rfl⟩ | ⟨x, t, rfl, rfl⟩ <;> rfl
  pyHash := fun hv h => by
    rcases keyIs_shape hv with ⟨i, t, rfl, rfl⟩ | ⟨x, t, rfl, rfl⟩
    · exact wpAny_pyHash_int h
    · exact wpAny_pyHash_str h
  eqBool := fun hu hv h => by
    rcases keyIs_shape hu with ⟨i, t, rfl, rfl⟩ | ⟨x, t, rfl, rfl⟩
    · rcases keyIs_shape hv with ⟨j, u, rfl, rfl⟩ | ⟨y, u, rfl, rfl⟩
      · rw [key_ll] at h; exact wpAny_eqBool_int h
      · rw [key_lr] at h; exact SeqAt.EqAt.int_str i t y u _ _ _ _ h
    · rcases keyIs_shape hv with ⟨j, u, rfl, rfl⟩ | ⟨y, u, rfl, rfl⟩
      · rw [key_rl] at h; exact SeqAt.EqAt.str_int x t j u _ _ _ _ h
      · rw [key_rr] at h; exact wpAny_eqBool_str h
  «strs» := fun k x t v h => by
    rcases keyIs_shape h with ⟨i, u, rfl, e⟩ | ⟨y, u, rfl, e⟩
    · exact nomatch e
    · injection e with e1 _
      subst e1
      cases v <;> rfl

theorem mixKind_int (prog : Program) (w : World) (i : Int) (t : Tok) : (mixKind prog w).is (.inl i) (.int i t) = true := keyIs_int i t
theorem mixKind_str (prog : Program) (w : World) (x : Str) (t : Tok) : (mixKind prog w).is (.inr x) (.str x t) = true := keyIs_str x t
end L2

namespace L2
open PySem PySem.Spec PyProof.Rows

inductive V where
  | non | bl (b : Bool) | int (i : Int) | str (x : Str) | byt (b : Array UInt8) | flt (b : UInt64) | ref (a : Addr) | ty (n : String)
  deriving DecidableEq

def RelV : V → Value → Prop
  | .non, u => u = Value.none
  | .bl b, u => u = Value.bool b
  | .int i, u => ∃ t, u = Value.int i t
  | .str x, u => ∃ t, u = Value.str x t
  | .byt b, u => ∃ t, u = Value.bytes b t
  | .flt b, u => ∃ t, u = Value.float b t
  | .ref a, u => u = Value.ref a
  | .ty n, u => u = Value.type n

abbrev Vals : List V → List Value → Prop := Paired RelV
theorem Vals.length {xs : List V} {us : List Value} (r : Vals xs us) : xs.length = us.length := Paired.length r
theorem Vals.get : ∀ {xs : List V} {us : List Value} {i : Nat} {x : V}, Vals xs us → xs[i]? = some x → ∃ u, us[i]? = some u ∧ RelV x u
  | _, _, _, _, .nil, e => by simp at e
  | _, _, 0, _, .cons r _, e => by simp at e; subst e; exact ⟨_, rfl, r⟩
  | _, _, i + 1, x, .cons _ t, e => by
    obtain ⟨u, h1, h2⟩ := Vals.get (i := i) (x := x) t (by simpa using e)
    exact ⟨u, by simpa using h1, h2⟩
theorem Vals.set {x : V} {u : Value} (r : RelV x u) : ∀ {xs : List V} {us : List Value} (i : Nat), Vals xs us → Vals (xs.set i x) (us.set i u)
  | _, _, _, .nil => .nil
  | _, _, 0, .cons _ t => .cons r t
  | _, _, i + 1, .cons q t => .cons q (Vals.set r i t)
theorem Vals.append : ∀ {xs ys : List V} {us ws : List Value}, Vals xs us → Vals ys ws → Vals (xs ++ ys) (us ++ ws)
  | _, _, _, _, .nil, s => s
  | _, _, _, _, .cons r t, s => .cons r (Vals.append t s)
theorem Vals.take : ∀ {xs : List V} {us : List Value} (n : Nat), Vals xs us → Vals (xs.take n) (us.take n)
  | _, _, 0, _ => .nil
  | _, _, _ + 1, .nil => .nil
  | _, _, n + 1, .cons r t => .cons r (Vals.take n t)
theorem Vals.drop : ∀ {xs : List V} {us : List Value} (n : Nat), Vals xs us → Vals (xs.drop n) (us.drop n)
  | _, _, 0, r => r
  | _, _, _ + 1, .nil => .nil
  | _, _, n + 1, .cons _ t => Vals.drop n t
def RelO : Option V → Option Value → Prop
  | some v, some u => RelV v u
  | none, none => True
  | _, _ => False
def KV {κ : Type} : List (κ × V) → List (κ × Value) → Prop := Paired fun (p : κ × V) (q : κ × Value) => p.1 = q.1 ∧ RelV p.2 q.2

def kV : Key → V
  | .inl i => .int i
  | .inr x => .str x

inductive HO where
  /-- a list -/
  | lst (xs : List V)
  /-- a tuple (never changes) -/
  | tup (xs : List V)
  /-- a dict whose keys are ints and texts; one whose keys are tuples of ints and texts (the empty one is both) -/
  | dK (kvs : List (Key × V)) | dT (kvs : List (List Key × V))
  /-- a set of ints: its members, its size -/
  | set (S : Int → Bool) (n : Nat)
  /-- an instance of the class at C, its dict at dx, its attributes -/
  | ins (C dx : Addr) (fs : List (Str × V))
  /-- the dict of the instance at x -/
  | own (x : Addr)
  /-- the dict of an exception -/
  | xd (fs : List (Str × V))
  /-- a bound method, f of x -/
  | met (f x : Addr)
  /-- a range object lo, lo + 1, .. below hi -/
  | rng (lo hi : Int)
  /-- a thing that is known to the object (the script; a dict while a loop walks it): read, never written while it is so -/
  | frz (o : Obj) (u : HO)
  /-- a code object's table -/
  | tbl (ps : Array Value)
  /-- any other thing, by what is true of its one object (a def of one's own: SetO a S n := HO.ext fun h => ..) -/
  | ext (φ : Heap → Prop)

abbrev Hp := Addr → Option HO
def upd (H : Hp) (a : Addr) (o : HO) : Hp := fun b => if b = a then some o else H b
theorem upd_same {H : Hp} {a : Addr} {o : HO} : upd H a o a = some o := by unfold upd; rw [if_pos rfl]
theorem upd_ne {H : Hp} {a b : Addr} {o : HO} (h : b ≠ a) : upd H a o b = H b := by unfold upd; rw [if_neg h]
theorem ne_of {H : Hp} {a b : Addr} {o u : HO} (h : H a = some o) (h' : H b = some u) (d : o ≠ u) : a ≠ b := by
  intro e; subst e; rw [h] at h'; exact d (Option.some.inj h')
theorem ne_of_none {H : Hp} {a b : Addr} {o : HO} (h : H a = some o) (h' : H b = none) : a ≠ b := by
  intro e; subst e; rw [h] at h'; cases h'

section
variable (P : Program) (w : World)
def ObjOk (H : Hp) (h : Heap) (a : Addr) : HO → Prop
  | .lst xs => xs.length ≤ sizeLine ∧ ∃ (its : List Value) (n : Nat), Vals xs its ∧ h.get? a = some { cls := .type "list", data := .seq its.toArray n }
  | .tup xs => xs.length ≤ sizeLine ∧ ∃ its : List Value, Vals xs its ∧ IsTup h a its.toArray
  | .dK kvs => kvs.length ≤ sizeLine ∧ (a == sysModules) = false ∧ ∃ vs, KV kvs vs ∧ h.DictOf (mixKind P w) a vs
  | .dT kvs => kvs.length ≤ sizeLine ∧ (a == sysModules) = false ∧ ∃ xs : List (List Key × Addr × Value),
      Paired (fun (p : List Key × V) (q : List Key × Addr × Value) => p.1 = q.1 ∧ H q.2.1 = some (.tup (p.1.map kV)) ∧ RelV p.2 q.2.2) kvs xs ∧
      ∃ o es ep, h.get? a = some o ∧ o.ExactDict ∧ o.data = .dict es ep ∧ es.toList = xs.map (entryOfKey (tupleKind (mixKind P w))) ∧ (xs.map (·.1)).Nodup
  | .set S n => h.SetOf (intKind P w) a S n
  | .ins C dx fs => H dx = some (.own a) ∧ fs.length ≤ 1000 ∧ dx ≠ a ∧ h.get? a = some (PySem.W.instObj C dx) ∧
      ∃ mA, h.Ns1 dx mA ∧ (∀ f, RelO (fs.lookup f) (mA f)) ∧ PySem.Within mA (fs.map (·.1))
  | .own _ => ∃ o, h.get? a = some o
  | .xd fs => ∃ mA, h.Ns1 a mA ∧ ∀ f, RelO (fs.lookup f) (mA f)
  | .rng lo hi => ∃ t u v, h.get? a = some { cls := .type "range", data := .fields #[.int lo t, .int hi u, .int 1 v] }
  | .frz o u => h.get? a = some o ∧ ObjOk H h a u
  | .tbl ps => h.get? a = some { cls := .none, data := .fields ps }
  | .met f x => h.get? a = some (PySem.W.methodObj (.ref f) (.ref x))
  | .ext φ => φ h ∧ (∃ o, h.get? a = some o) ∧ ∀ h1 h2 : Heap, φ h1 → (∀ o, h1.get? a = some o → h2.get? a = some o) → φ h2
def HOk (H : Hp) (h : Heap) : Prop := ∀ a o, H a = some o → ObjOk P w H h a o
end

section
variable {P : Program} {w : World} {H H' : Hp} {h h' : Heap} {a : Addr} {o : HO}
theorem ObjOk.lt (x : ObjOk P w H h a o) : a < h.objs.size := by
  cases o with
  | lst xs => obtain ⟨_, _, _, _, e⟩ := x; exact Heap.lt_size e
  | tup xs => obtain ⟨_, _, _, p⟩ := x; exact p.lt
  | dK kvs => obtain ⟨_, _, _, _, o, _, _, e, _⟩ := x; exact Heap.lt_size e
  | dT kvs => obtain ⟨_, _, _, _, o, _, _, e, _⟩ := x; exact Heap.lt_size e
  | set S n => obtain ⟨o, _, _, _, e, _⟩ := x; exact Heap.lt_size e
  | ins C dx fs => obtain ⟨_, _, _, e, _⟩ := x; exact Heap.lt_size e
  | own y => obtain ⟨_, e⟩ := x; exact Heap.lt_size e
  | xd fs => obtain ⟨_, ⟨_, _, _, e, _⟩, _⟩ := x; exact Heap.lt_size e
  | rng lo hi => obtain ⟨_, _, _, e⟩ := x; exact Heap.lt_size e
  | frz ob u => obtain ⟨e, _⟩ := x; exact Heap.lt_size e
  | tbl ps => exact Heap.lt_size (show h.get? a = some _ from x)
  | met f y => exact Heap.lt_size (show h.get? a = some _ from x)
  | ext φ => obtain ⟨_, ⟨_, e⟩, _⟩ := x; exact Heap.lt_size e
theorem Paired.mapP {α β : Type} {F G : α → β → Prop} : ∀ {l₁ : List α} {l₂ : List β}, Paired F l₁ l₂ → (∀ a b, F a b → G a b) → Paired G l₁ l₂
  | _, _, .nil, _ => .nil
  | _, _, .cons r t, f => .cons (f _ _ r) (Paired.mapP t f)
theorem Paired.imp' {α β : Type} {F G : α → β → Prop} (f : ∀ a b, F a b → G a b) {l₁ : List α} {l₂ : List β} (r : Paired F l₁ l₂) : Paired G l₁ l₂ := Paired.mapP r f
theorem ObjOk.stay (x : ObjOk P w H h a o) (k : ∀ b u, (b = a ∨ H b = some (.own a)) → h.get? b = some u → h'.get? b = some u)
    (ho : ∀ b, H b = some (.own a) → H' b = some (.own a)) (ht : ∀ b xs, H b = some (.tup xs) → H' b = some (.tup xs)) : ObjOk P w H' h' a o := by
  induction o with
  | lst xs => obtain ⟨z, its, n, r, e⟩ := x; exact ⟨z, its, n, r, k _ _ (.inl rfl) e⟩
  | tup xs => obtain ⟨z, its, r, ob, e, c⟩ := x; exact ⟨z, its, r, ob, k _ _ (.inl rfl) e, c⟩
  | dK kvs => obtain ⟨z, y, vs, r, ob, es, ep, e, c⟩ := x; exact ⟨z, y, vs, r, ob, es, ep, k _ _ (.inl rfl) e, c⟩
  | dT kvs =>
    obtain ⟨z, y, xs, r, ob, es, ep, e, c⟩ := x
    exact ⟨z, y, xs, Paired.mapP r fun p q z => ⟨z.1, ht _ _ z.2.1, z.2.2⟩, ob, es, ep, k _ _ (.inl rfl) e, c⟩
  | set S n => obtain ⟨ob, es, ep, t, e, c⟩ := x; exact ⟨ob, es, ep, t, k _ _ (.inl rfl) e, c⟩
  | ins C dx fs =>
    obtain ⟨d, z, ne, e, mA, ⟨od, es, ep, e2, c⟩, r⟩ := x
    exact ⟨ho _ d, z, ne, k _ _ (.inl rfl) e, mA, ⟨od, es, ep, k _ _ (.inr d) e2, c⟩, r⟩
  | own y => obtain ⟨ob, e⟩ := x; exact ⟨ob, k _ _ (.inl rfl) e⟩
  | xd fs => obtain ⟨mA, ⟨od, es, ep, e, c⟩, r⟩ := x; exact ⟨mA, ⟨od, es, ep, k _ _ (.inl rfl) e, c⟩, r⟩
  | rng lo hi => obtain ⟨t, u, v, e⟩ := x; exact ⟨t, u, v, k _ _ (.inl rfl) e⟩
  | frz ob u ih => obtain ⟨e, q⟩ := x; exact ⟨k _ _ (.inl rfl) e, ih q⟩
  | tbl ps =>
    have e : h.get? a = some { cls := .none, data := .fields ps } := x
    show h'.get? a = some { cls := .none, data := .fields ps }
    exact k a _ (.inl rfl) e
  | met f y =>
    have e : h.get? a = some (PySem.W.methodObj (.ref f) (.ref y)) := x
    show h'.get? a = some (PySem.W.methodObj (.ref f) (.ref y))
    exact k a _ (.inl rfl) e
  | ext φ => obtain ⟨p, ⟨o, e⟩, st⟩ := x; exact ⟨st _ _ p fun o q => k _ _ (.inl rfl) q, ⟨o, k _ _ (.inl rfl) e⟩, st⟩
theorem HOk.lt (x : HOk P w H h) (e : H a = some o) : a < h.objs.size := (x a o e).lt
theorem HOk.fresh (x : HOk P w H h) (e : h.objs.size ≤ a) : H a = none := by
  cases q : H a with
  | none => rfl
  | some u => exact absurd (Nat.lt_of_lt_of_le (x.lt q) e) (Nat.lt_irrefl _)
theorem HOk.kept (x : HOk P w H h) (k : ∀ b u, h.get? b = some u → h'.get? b = some u) : HOk P w H h' := fun a o e =>
  (x a o e).stay (fun b u _ q => k b u q) (fun _ q => q) fun _ _ q => q
theorem HOk.laid (x : HOk P w H h) (k : ∀ b u, h.get? b = some u → h'.get? b = some u) (hp : h.objs.size ≤ a) (new : ObjOk P w (upd H a o) h' a o) : HOk P w (upd H a o) h' := fun b u e => by
  have hn := x.fresh hp
  by_cases hb : b = a
  · subst hb; rw [upd_same] at e; cases e; exact new
  · rw [upd_ne hb] at e
    exact (x b u e).stay (fun c v _ q => k c v q) (fun c q => by rw [upd_ne (ne_of_none q hn)]; exact q) fun c xs q => by rw [upd_ne (ne_of_none q hn)]; exact q
end

def Rd (H : Hp) (a : Addr) (u : HO) : Prop := H a = some u ∨ ∃ o, H a = some (.frz o u)
theorem Rd.ok {P : Program} {w : World} {H : Hp} {h : Heap} {a : Addr} {u : HO} (r : Rd H a u) (x : HOk P w H h) : ObjOk P w H h a u := by
  rcases r with r | ⟨o, r⟩
  · exact x a u r
  · obtain ⟨_, q⟩ := x a _ r
    exact q
def Mut : Option HO → Prop
  | some (.lst _) => True
  | some (.dK _) => True
  | some (.dT _) => True
  | some (.set _ _) => True
  | some (.ins _ _ _) => True
  | some (.ext _) => True
  | _ => False
section
variable {P : Program} {w : World} {H : Hp} {h h' : Heap} {x e : Addr} {o' : HO}
theorem HOk.write (ok : HOk P w H h) (mu : Mut (H x)) (he : e = x ∨ H e = some (.own x)) (k : ∀ b u, b ≠ e → h.get? b = some u → h'.get? b = some u) (heo : ∃ u, h'.get? e = some u)
    (new : ObjOk P w (upd H x o') h' x o') : HOk P w (upd H x o') h' := fun b u q => by
  have nown : ∀ c y, H c = some (.own y) → c ≠ x := fun c y r z => by subst z; rw [r] at mu; exact mu
  have ntup : ∀ c xs, H c = some (.tup xs) → c ≠ x := fun c xs r z => by subst z; rw [r] at mu; exact mu
  by_cases hb : b = x
  · subst hb; rw [upd_same] at q; cases q; exact new
  · rw [upd_ne hb] at q
    by_cases hbe : b = e
    · have q' : H b = some (.own x) := by
        rcases he with z | z
        · exact absurd (hbe.trans z) hb
        · rw [hbe]; exact z
      rw [q] at q'; cases q'
      obtain ⟨v, hv⟩ := heo
      exact ⟨v, by rw [hbe]; exact hv⟩
    · refine (ok b u q).stay (fun c v hc r => k c v ?_ r) (fun c r => by rw [upd_ne (nown c b r)]; exact r) fun c xs r => by rw [upd_ne (ntup c xs r)]; exact r
      rcases hc with rfl | hc
      · exact hbe
      · rintro rfl
        rcases he with z | z
        · exact nown c b hc z
        · rw [hc] at z; cases z; exact hb rfl
end

structure Un (fs ex : List Addr) (H H' : Hp) (h h' : Heap) : Prop where
  keep : ∀ b o, h.get? b = some o → H b = none → b ∉ fs → b ∉ ex → h'.get? b = some o
  slot : ∀ b o, h.get? b = some o → H b = none → b ∈ fs → b ∉ ex → ∃ sl, h'.get? b = some { o with slots := sl }
  free : ∀ b o, h.get? b = some o → H b = none → b ∉ ex → H' b = none
  there : ∀ b o, h.get? b = some o → b ∉ ex → ∃ o', h'.get? b = some o'
  tups : ∀ b xs, H b = some (.tup xs) → H' b = some (.tup xs)
  frzs : ∀ b o u, H b = some (.frz o u) → H' b = some (.frz o u)
  tbls : ∀ b ps, H b = some (.tbl ps) → ∃ more, H' b = some (.tbl (ps ++ more))
section
variable {fs fs' ex ex' : List Addr} {H H1 H2 : Hp} {h h1 h2 h' : Heap} {a x e : Addr} {o : HO}
theorem Un.any (u : Un fs ex H H1 h h1) {b : Addr} {ob : Obj} (q : h.get? b = some ob) (n : H b = none) (hx : b ∉ ex) : ∃ sl, h1.get? b = some { ob with slots := sl } := by
  by_cases hb : b ∈ fs
  · exact u.slot b ob q n hb hx
  · exact ⟨ob.slots, u.keep b ob q n hb hx⟩
theorem Un.kept (k : ∀ b u, h.get? b = some u → h'.get? b = some u) : Un fs ex H H h h' :=
  ⟨fun b ob q _ _ _ => k b ob q, fun b ob q _ _ _ => ⟨ob.slots, k b ob q⟩, fun _ _ _ n _ => n, fun b ob q _ => ⟨ob, k b ob q⟩, fun _ _ q => q, fun _ _ _ q => q, fun _ ps q => ⟨#[], by rw [q]; simp⟩⟩
theorem Un.refl : Un fs ex H H h h := Un.kept fun _ _ q => q
theorem Un.laid (k : ∀ b u, h.get? b = some u → h'.get? b = some u) (hp : h.objs.size ≤ a) (hn : H a = none) : Un fs ex H (upd H a o) h h' where
  keep := fun b u q _ _ _ => k b u q
  slot := fun b u q _ _ _ => ⟨u.slots, k b u q⟩
  free := fun b u q n _ => by rw [upd_ne (Nat.ne_of_lt (Nat.lt_of_lt_of_le (Heap.lt_size q) hp))]; exact n
  there := fun b u q _ => ⟨u, k b u q⟩
  tups := fun b xs q => by rw [upd_ne (ne_of_none q hn)]; exact q
  frzs := fun b u xs q => by rw [upd_ne (ne_of_none q hn)]; exact q
  tbls := fun b ps q => ⟨#[], by rw [upd_ne (ne_of_none q hn), q]; simp⟩
theorem Un.write (mu : Mut (H x)) (he : e = x ∨ H e = some (.own x)) (k : ∀ b u, b ≠ e → h.get? b = some u → h'.get? b = some u) (heo : ∃ u, h'.get? e = some u) : Un fs ex H (upd H x o) h h' := by
  have hx : ∀ b, H b = none → b ≠ x := fun b n z => by subst z; rw [n] at mu; exact mu
  have hb : ∀ b, H b = none → b ≠ e := fun b n z => by
    subst z
    rcases he with r | r
    · exact hx b n r
    · rw [n] at r; cases r
  have hm : ∀ b u, H b = some u → ¬ Mut (some u) → b ≠ x := fun b u q nm z => by subst z; rw [q] at mu; exact nm mu
  refine ⟨fun b u q n _ _ => k b u (hb b n) q, fun b u q n _ _ => ⟨u.slots, k b u (hb b n) q⟩, fun b u q n _ => by rw [upd_ne (hx b n)]; exact n, fun b u q _ => ?_,
    fun b xs q => by rw [upd_ne (hm b _ q fun z => z)]; exact q, fun b u xs q => by rw [upd_ne (hm b _ q fun z => z)]; exact q, fun b ps q => ⟨#[], by rw [upd_ne (hm b _ q fun z => z), q]; simp⟩⟩
  by_cases hbe : b = e
  · subst hbe; exact heo
  · exact ⟨u, k b u hbe q⟩
end

def trk (h : Heap) (H : Hp) : List Addr := (List.range h.objs.size).filter fun a => (H a).isSome
def hidT (h : Heap) (H : Hp) : Heap := PySem.W.hideAll h (trk h H)
theorem hidT_size (h : Heap) (H : Hp) : (hidT h H).objs.size = h.objs.size := PySem.W.hideAll_size _ _
theorem hidT_get {h : Heap} {H : Hp} {b : Addr} {o : Obj} (e : h.get? b = some o) (n : H b = none) : (hidT h H).get? b = some o :=
  PySem.W.hideAll_get _ e fun hm => by
    have q : (H b).isSome = true := (List.mem_filter.mp hm).2
    rw [n] at q; simp at q
theorem of_hidT {h : Heap} {H : Hp} {b : Addr} {o : Obj} (e : (hidT h H).get? b = some o) : h.get? b = some o ∧ H b = none := by
  have e' : h.get? b = some o := PySem.W.of_hideAll (trk h H) e
  refine ⟨e', ?_⟩
  cases q : H b with
  | none => rfl
  | some x =>
    have hm : b ∈ trk h H := List.mem_filter.mpr ⟨List.mem_range.mpr (Heap.lt_size e'), by simp [q]⟩
    have z : (hidT h H).get? b = none := PySem.W.hideAll_none (trk h H) hm
    rw [z] at e; cases e

end L2

namespace L2
open PySem PySem.Spec PyProof.Rows

structure Mod (K : PySem.W.Frag) (mg : Str → Option Value) (base : Heap) : Prop where
  kin : K.In base
  glob : base.Ns mainGlobals mg
  blt : ∃ mb, base.Ns builtinsNs mb ∧ ∀ x : Str, x ≠ "__name__" → mb x = bootBuiltins x
  nolimit : base.NoLimit

structure Cx where
  prog : Program
  w : World
  K : PySem.W.Frag
  mg : Str → Option Value
  base : Heap
  A : Around
  N : List Str
  s₀ : Shared
  H₀ : Hp
  env : Env
  outer : List Env
  stack : List Env
  ex : List Addr
  fn : Str → Bool
  calm : Bool
  pn : List (Addr × Obj)
  xe : Value → Shared → Prop
def frs (l : List Env) : List Addr := l.filterMap (·.frame)
abbrev Cx.fs (X : Cx) : List Addr := frs X.outer

def Vis (sc : Scope) (x : Str) : Prop := sc.names.lookup x = some .local ∨ sc.names.lookup x = some .cell ∨ sc.names.lookup x = some .free
def Loc (sc : Scope) (x : Str) : Prop := sc.names.lookup x = some .local ∨ sc.names.lookup x = some .cell
def Look (env : Env) (h : Heap) (m : Str → Option Value) (x : Str) (u : Value) : Prop :=
  (env.kindOf x = some .local ∧ m x = some u) ∨ ((env.kindOf x = some .cell ∨ env.kindOf x = some .free) ∧ ∃ c, env.cells.lookup x = some c ∧ h.IsCell c (some u))

structure Cx.Ok (X : Cx) : Prop where
  mod : Mod X.K X.mg X.base
  kind : X.env.scope.kind = .function
  glob : X.env.globals = mainGlobals
  blt : X.env.builtins = builtinsNs
  above : X.s₀.heap.objs.size ≤ X.env.locals
  inj : ∀ x y c, X.env.cells.lookup x = some c → X.env.cells.lookup y = some c → x = y
  has : ∀ x, (X.env.kindOf x = some .cell ∨ X.env.kindOf x = some .free) → ∃ c, X.env.cells.lookup x = some c
  cab : ∀ x c, X.fn x = true → X.env.cells.lookup x = some c → X.s₀.heap.objs.size ≤ c
  hd : X.calm = true → X.A.handled = none
  frames : X.A.frames = some X.stack
  stk : X.stack = X.outer ∨ (X.stack = X.env :: X.outer ∧ X.env.frame = some X.env.locals)
  exf : ∀ b ∈ X.ex, b ≠ X.env.locals ∧ ∀ x c, X.env.cells.lookup x = some c → c ≠ b
  bs : ∀ b o, X.base.get? b = some o → X.s₀.heap.get? b = some o ∧ X.H₀ b = none
  bsz : X.base.objs.size ≤ X.s₀.heap.objs.size
  noex : ∀ b o, X.base.get? b = some o → b ∉ X.ex
  exfs : ∀ b ∈ X.ex, b ∉ X.fs
  funs : X.s₀.heap.FunFrames X.base X.outer
  frf : ∀ b ∈ X.fs, X.H₀ b = none

structure Inv (X : Cx) (pins : List (Addr × Obj)) (σ : List (Option V)) (H : Hp) (s : Shared) : Prop where
  ok : X.Ok
  os : s.os = X.s₀.os
  bare : AllBare s.gens
  base : Un X.fs X.ex X.H₀ H X.s₀.heap s.heap
  loc : ∃ m, s.heap.Ns X.env.locals m ∧ ∀ (i : Nat) (x : Str) (v : V), X.N[i]? = some x → σ[i]? = some (some v) → Vis X.env.scope x → ∃ u, RelV v u ∧ Look X.env s.heap m x u
  cell : ∀ x c, X.env.cells.lookup x = some c → ∃ v, s.heap.IsCell c v
  free : H X.env.locals = none
  freeC : ∀ x c, X.env.cells.lookup x = some c → H c = none
  pin : ∀ p ∈ X.pn ++ pins, s.heap.get? p.1 = some p.2 ∧ H p.1 = none ∧ p.1 ≠ X.env.locals ∧ p.1 ∉ X.fs ∧ ∀ v, p.2.data ≠ .cell v
  hok : HOk X.prog X.w H s.heap
  len : σ.length = X.N.length

section
variable {X : Cx} {pins : List (Addr × Obj)} {σ : List (Option V)} {H H' : Hp} {s : Shared} {h' : Heap}

theorem Cx.Ok.nofr (ok : X.Ok) {b : Addr} {o : Obj} (e : X.base.get? b = some o) : b ∉ X.fs := fun hb => by
  have := (ok.funs.mem hb).1
  rw [e] at this; cases this
theorem Inv.bs (I : Inv X pins σ H s) : ∀ b o, X.base.get? b = some o → s.heap.get? b = some o ∧ H b = none := fun b o e =>
  ⟨I.base.keep b o (I.ok.bs b o e).1 (I.ok.bs b o e).2 (I.ok.nofr e) (I.ok.noex b o e), I.base.free b o (I.ok.bs b o e).1 (I.ok.bs b o e).2 (I.ok.noex b o e)⟩
theorem Inv.bk (I : Inv X pins σ H s) : ∀ b o, X.base.get? b = some o → s.heap.get? b = some o := fun b o e => (I.bs b o e).1
theorem Inv.mod (I : Inv X pins σ H s) : Mod X.K X.mg X.base := I.ok.mod
theorem Inv.kIn (I : Inv X pins σ H s) : X.K.In s.heap := I.ok.mod.kin.keeps I.bk
theorem Inv.lt (I : Inv X pins σ H s) : X.env.locals < s.heap.objs.size := let ⟨_, hn, _⟩ := I.loc; hn.lt
theorem Inv.sz (I : Inv X pins σ H s) : X.s₀.heap.objs.size ≤ s.heap.objs.size := Nat.le_trans I.ok.above (Nat.le_of_lt I.lt)
theorem Inv.nofs (I : Inv X pins σ H s) {a : Addr} (h : s.heap.objs.size ≤ a) : a ∉ X.fs := fun hb => by
  obtain ⟨_, o, ho, _⟩ := I.ok.funs.mem hb
  exact absurd (Nat.lt_of_lt_of_le (Heap.lt_size ho) (Nat.le_trans I.sz h)) (Nat.lt_irrefl _)
theorem Inv.cne (I : Inv X pins σ H s) : ∀ x c, X.env.cells.lookup x = some c → c ≠ X.env.locals := fun x c e z => by
  obtain ⟨v, o, ho, hd⟩ := I.cell x c e
  obtain ⟨m, ⟨o', es, ep, ho', hd', _⟩, _⟩ := I.loc
  rw [z, ho'] at ho; cases ho; rw [hd'] at hd; cases hd
theorem Inv.funs (I : Inv X pins σ H s) : s.heap.FunFrames X.base X.outer := by
  have all : ∀ (l : List Env), (∀ b ∈ frs l, b ∈ X.fs) → X.s₀.heap.FunFrames X.base l → s.heap.FunFrames X.base l := by
    intro l
    induction l with
    | nil => intro _ _; trivial
    | cons env r ih =>
      intro hs hl
      obtain ⟨hk, ⟨L, o, hf, hn, ho, hd⟩, hr⟩ := hl
      have hL : L ∈ X.fs := hs L (by unfold frs; rw [List.filterMap_cons, hf]; exact List.mem_cons_self)
      obtain ⟨sl, e⟩ := I.base.slot L o ho (I.ok.frf L hL) hL fun z => I.ok.exfs L z hL
      exact ⟨hk, ⟨L, _, hf, hn, e, hd⟩, ih (fun b hb => hs b (by unfold frs; rw [List.filterMap_cons, hf]; exact List.mem_cons_of_mem _ hb)) hr⟩
  exact all X.outer (fun _ hb => hb) I.ok.funs

theorem Inv.stack (I : Inv X pins σ H s) : s.heap.FunFrames X.base X.stack := by
  rcases I.ok.stk with e | ⟨e, hf⟩
  · rw [e]; exact I.funs
  · rw [e]
    obtain ⟨m, hn, _⟩ := I.loc
    refine .cons (by rw [I.ok.kind]; decide) hf hn ?_ I.funs
    exact Heap.get?_none_of_le (Nat.le_trans I.ok.bsz I.ok.above)
theorem Inv.stkSub (I : Inv X pins σ H s) : ∀ b ∈ frs X.stack, b ∈ X.env.locals :: X.fs := fun b hb => by
  rcases I.ok.stk with e | ⟨e, hf⟩
  · rw [e] at hb; exact List.mem_cons_of_mem _ hb
  · rw [e] at hb
    unfold frs at hb
    rw [List.filterMap_cons, hf] at hb
    exact hb
theorem Inv.stkFree (I : Inv X pins σ H s) : ∀ b ∈ frs X.stack, H b = none := fun b hb => by
  rcases List.mem_cons.mp (I.stkSub b hb) with e | hb
  · rw [e]; exact I.free
  · obtain ⟨_, o, ho, _⟩ := I.ok.funs.mem hb
    exact I.base.free b o ho (I.ok.frf b hb) fun z => I.ok.exfs b z hb

theorem Inv.step {g' : Array GenState} {t' : Nat} {d' : Drawn} {ch : List Addr} (I : Inv X pins σ H s)
    (hch : ∀ b ∈ ch, (b ∈ X.ex ∨ X.s₀.heap.objs.size ≤ b) ∧ b ≠ X.env.locals ∧ (∀ x c, X.env.cells.lookup x = some c → c ≠ b) ∧ ∀ p ∈ X.pn ++ pins, p.1 ≠ b)
    (keep : ∀ b o, b ≠ X.env.locals → b ∉ X.fs → b ∉ ch → s.heap.get? b = some o → H b = none → h'.get? b = some o)
    (slot : ∀ b o, b ≠ X.env.locals → b ∈ X.fs → b ∉ ch → s.heap.get? b = some o → H b = none → ∃ sl, h'.get? b = some { o with slots := sl }) (free : ∀ b o, b ∉ ch → s.heap.get? b = some o → H b = none → H' b = none)
    (there : ∀ b o, b ∉ ch → s.heap.get? b = some o → ∃ o', h'.get? b = some o')
    (tups : ∀ b xs, H b = some (.tup xs) → H' b = some (.tup xs)) (frzs : ∀ b o u, H b = some (.frz o u) → H' b = some (.frz o u)) (tbls : ∀ b ps, H b = some (.tbl ps) → ∃ more, H' b = some (.tbl (ps ++ more)))
    (ns : ∀ m, s.heap.Ns X.env.locals m → h'.Ns X.env.locals m) (hok : HOk X.prog X.w H' h') (hg : AllBare g') :
    Inv X pins σ H' { s with heap := h', gens := g', drawn := d', toks := t' } := by
  have neL : ∀ b o, X.s₀.heap.get? b = some o → b ≠ X.env.locals := fun b o e => Nat.ne_of_lt (Nat.lt_of_lt_of_le (Heap.lt_size e) I.ok.above)
  have neC : ∀ b o, X.s₀.heap.get? b = some o → b ∉ X.ex → b ∉ ch := fun b o e hx hb => by
    rcases (hch b hb).1 with z | z
    · exact hx z
    · exact absurd (Nat.lt_of_lt_of_le (Heap.lt_size e) z) (Nat.lt_irrefl _)
  have cellK : ∀ x c, X.env.cells.lookup x = some c → ∀ v, s.heap.IsCell c v → h'.IsCell c v := fun x c e v ⟨o, ho, hd⟩ => by
    have nch : c ∉ ch := fun z => (hch c z).2.2.1 x c e rfl
    by_cases hc : c ∈ X.fs
    · obtain ⟨sl, q⟩ := slot c o (I.cne x c e) hc nch ho (I.freeC x c e)
      exact ⟨_, q, hd⟩
    · exact ⟨o, keep c o (I.cne x c e) hc nch ho (I.freeC x c e), hd⟩
  refine ⟨I.ok, I.os, hg, ⟨fun b o e n hb hx => ?_, fun b o e n hb hx => ?_, fun b o e n hx => ?_, fun b o e hx => ?_, fun b xs e => tups b xs (I.base.tups b xs e), fun b o xs e => frzs b o xs (I.base.frzs b o xs e), fun b ps e => ?_⟩, ?_, fun x c e => ?_, ?_, fun x c e => ?_, fun p hp => ?_, hok, I.len⟩
  · exact keep b o (neL b o e) hb (neC b o e hx) (I.base.keep b o e n hb hx) (I.base.free b o e n hx)
  · obtain ⟨sl, e1⟩ := I.base.slot b o e n hb hx
    obtain ⟨sl', e2⟩ := slot b _ (neL b o e) hb (neC b o e hx) e1 (I.base.free b o e n hx)
    exact ⟨sl', e2⟩
  · obtain ⟨o', e1⟩ := I.base.there b o e hx
    exact free b o' (neC b o e hx) e1 (I.base.free b o e n hx)
  · obtain ⟨o', e1⟩ := I.base.there b o e hx
    exact there b o' (neC b o e hx) e1
  · obtain ⟨m1, e1⟩ := I.base.tbls b ps e
    obtain ⟨m2, e2⟩ := tbls b _ e1
    exact ⟨m1 ++ m2, by rw [e2, Array.append_assoc]⟩
  · obtain ⟨m, hn, hl⟩ := I.loc
    refine ⟨m, ns m hn, fun i x v e1 e2 e3 => ?_⟩
    obtain ⟨u, r, l⟩ := hl i x v e1 e2 e3
    refine ⟨u, r, ?_⟩
    rcases l with l | ⟨k, c, e, z⟩
    · exact .inl l
    · exact .inr ⟨k, c, e, cellK x c e _ z⟩
  · obtain ⟨v, z⟩ := I.cell x c e
    exact ⟨v, cellK x c e v z⟩
  · obtain ⟨m, ⟨o, _, _, ho, _⟩, _⟩ := I.loc
    exact free _ o (fun z => (hch _ z).2.1 rfl) ho I.free
  · obtain ⟨v, o, ho, hd⟩ := I.cell x c e
    exact free c o (fun z => (hch c z).2.2.1 x c e rfl) ho (I.freeC x c e)
  · obtain ⟨e, n, ne, nf, d⟩ := I.pin p hp
    have nch : p.1 ∉ ch := fun z => (hch p.1 z).2.2.2 p hp rfl
    exact ⟨keep p.1 p.2 ne nf nch e n, free p.1 p.2 nch e n, ne, nf, d⟩
theorem Inv.un {t' : Nat} (I : Inv X pins σ H s) (u : Un X.fs [] H H' s.heap h') (hok : HOk X.prog X.w H' h') : Inv X pins σ H' { s with heap := h', toks := t' } := by
  obtain ⟨m, ⟨o, es, ep, ho, r⟩, _⟩ := id I.loc
  obtain ⟨sl, hL⟩ := u.any ho I.free (by simp)
  exact I.step (g' := s.gens) (d' := s.drawn) (ch := []) (fun _ z => nomatch z) (fun b o _ hb _ e n => u.keep b o e n hb (by simp)) (fun b o _ hb _ e n => u.slot b o e n hb (by simp)) (fun b o _ e n => u.free b o e n (by simp)) (fun b o _ e => u.there b o e (by simp)) u.tups u.frzs u.tbls (fun m' hm => by
    obtain ⟨o', es', ep', ho', r'⟩ := hm
    rw [ho] at ho'; cases ho'
    exact ⟨_, es', ep', hL, r'⟩) hok I.bare
theorem Inv.call {g' : Array GenState} {t' : Nat} {d' : Drawn} {ch : List Addr} (I : Inv X pins σ H s) (u : Un (frs X.stack) ch H H' s.heap h') (hok : HOk X.prog X.w H' h') (hg : AllBare g')
    (hch : ∀ b ∈ ch, (b ∈ X.ex ∨ X.s₀.heap.objs.size ≤ b) ∧ b ≠ X.env.locals ∧ (∀ x c, X.env.cells.lookup x = some c → c ≠ b) ∧ ∀ p ∈ X.pn ++ pins, p.1 ≠ b) :
    Inv X pins σ H' { s with heap := h', gens := g', drawn := d', toks := t' } := by
  obtain ⟨m, ⟨o, es, ep, ho, r⟩, _⟩ := id I.loc
  obtain ⟨sl, hL⟩ := u.any ho I.free fun z => (hch _ z).2.1 rfl
  exact I.step (ch := ch) hch (fun b o hL hb hc e n => u.keep b o e n (fun z => (List.mem_cons.mp (I.stkSub b z)).elim hL hb) hc) (fun b o _ _ hc e n => u.any e n hc) (fun b o hc e n => u.free b o e n hc) (fun b o hc e => u.there b o e hc) u.tups u.frzs u.tbls (fun m' hm => by
    obtain ⟨o', es', ep', ho', r'⟩ := hm
    rw [ho] at ho'; cases ho'
    exact ⟨_, es', ep', hL, r'⟩) hok hg
theorem Inv.turned {t' : Nat} {it : Addr} (I : Inv X pins σ H s) (k : ∀ b o, b ≠ it → s.heap.get? b = some o → h'.get? b = some o) (hn : H it = none) (hL : it ≠ X.env.locals)
    (h1 : it ∈ X.ex ∨ X.s₀.heap.objs.size ≤ it) (h2 : ∀ x c, X.env.cells.lookup x = some c → c ≠ it) (h3 : ∀ p ∈ X.pn ++ pins, p.1 ≠ it) : Inv X pins σ H { s with heap := h', toks := t' } := by
  have nit : ∀ b u, H b = some u → b ≠ it := fun b u e z => by rw [z, hn] at e; cases e
  refine I.step (g' := s.gens) (d' := s.drawn) (ch := [it]) (fun b hb => ?_) (fun b o _ _ hc e _ => k b o (fun z => hc (by simp [z])) e) (fun b o _ _ hc e _ => ⟨o.slots, k b o (fun z => hc (by simp [z])) e⟩) (fun _ _ _ _ n => n)
    (fun b o hc e => ⟨o, k b o (fun z => hc (by simp [z])) e⟩) (fun _ _ e => e) (fun _ _ _ e => e) (fun b ps e => ⟨#[], by rw [e]; simp⟩) (fun m hm => ?_) (fun b u e => ?_) I.bare
  · have e : b = it := by simpa using hb
    subst e
    exact ⟨h1, hL, h2, h3⟩
  · obtain ⟨o, es, ep, ho, r⟩ := hm
    exact ⟨o, es, ep, k _ o (Ne.symm hL) ho, r⟩
  · refine (I.hok b u e).stay (fun c v hc q => k c v ?_ q) (fun _ q => q) fun _ _ q => q
    rcases hc with z | z
    · rw [z]; exact nit b u e
    · exact nit c _ z
theorem Inv.tok (I : Inv X pins σ H s) (t : Nat) : Inv X pins σ H { s with toks := t } := I.un (h' := s.heap) (t' := t) Un.refl I.hok
theorem Inv.kept {t' : Nat} (I : Inv X pins σ H s) (k : ∀ b u, s.heap.get? b = some u → h'.get? b = some u) : Inv X pins σ H { s with heap := h', toks := t' } := I.un (Un.kept k) (I.hok.kept k)
theorem Inv.laid {a : Addr} {o : HO} {t' : Nat} (I : Inv X pins σ H s) (k : ∀ b u, s.heap.get? b = some u → h'.get? b = some u) (hp : s.heap.objs.size ≤ a) (new : ObjOk X.prog X.w (upd H a o) h' a o) :
    Inv X pins σ (upd H a o) { s with heap := h', toks := t' } := I.un (Un.laid k hp (I.hok.fresh hp)) (I.hok.laid k hp new)
theorem Inv.write {x e : Addr} {o : HO} {t' : Nat} (I : Inv X pins σ H s) (mu : Mut (H x)) (he : e = x ∨ H e = some (.own x)) (k : ∀ b u, b ≠ e → s.heap.get? b = some u → h'.get? b = some u) (heo : ∃ u, h'.get? e = some u)
    (new : ObjOk X.prog X.w (upd H x o) h' x o) : Inv X pins σ (upd H x o) { s with heap := h', toks := t' } := I.un (Un.write mu he k heo) (I.hok.write mu he k heo new)
theorem Inv.weak {σ' : List (Option V)} (I : Inv X pins σ H s) (hl : σ'.length = σ.length) (w : ∀ (i : Nat) v, σ'[i]? = some (some v) → σ[i]? = some (some v)) : Inv X pins σ' H s :=
  ⟨I.ok, I.os, I.bare, I.base, let ⟨m, hn, hl'⟩ := I.loc; ⟨m, hn, fun i x v e1 e2 e3 => hl' i x v e1 (w i v e2) e3⟩, I.cell, I.free, I.freeC, I.pin, I.hok, hl.trans I.len⟩
theorem Inv.pins_of {pins' : List (Addr × Obj)} (I : Inv X pins σ H s) (h : ∀ p ∈ pins', s.heap.get? p.1 = some p.2 ∧ H p.1 = none ∧ p.1 ≠ X.env.locals ∧ p.1 ∉ X.fs ∧ ∀ v, p.2.data ≠ .cell v) : Inv X pins' σ H s :=
  ⟨I.ok, I.os, I.bare, I.base, I.loc, I.cell, I.free, I.freeC, fun p hp => (List.mem_append.mp hp).elim (fun z => I.pin p (List.mem_append_left _ z)) (h p), I.hok, I.len⟩

theorem nodup_ix {N : List Str} (hN : N.Nodup) {i j : Nat} {x : Str} (a : N[i]? = some x) (b : N[j]? = some x) : i = j := by
  obtain ⟨h1, e1⟩ := List.getElem?_eq_some_iff.mp a
  obtain ⟨h2, e2⟩ := List.getElem?_eq_some_iff.mp b
  exact (List.getElem_inj hN).mp (e1.trans e2.symm)

theorem store_ok2 {M : Model} {A : Around} {E : Value → Shared → Prop} {i : Nat} {x : Str} {v : V} {u : Value} {Q : Unit → Shared → Prop} (I : Inv X pins σ H s) (hN : X.N.Nodup) (hi : X.N[i]? = some x) (hx : Loc X.env.scope x) (r : RelV v u)
    (h : ∀ s', Inv X pins (σ.set i (some v)) H s' → (∃ a, Heap.SameBut a s.heap s'.heap ∧ (a = X.env.locals ∨ X.env.cells.lookup x = some a)) → Q () s') (hf : X.fn x = true ∨ X.env.scope.names.lookup x = some .local := by first | exact .inl rfl | exact .inr rfl | assumption) : wpAny M A (storeName X.env x u) Q E s := by
  obtain ⟨m, hn, hl⟩ := id I.loc
  have hcls : (X.env.scope.kind == .class || (X.env.scope.kind == .module && X.env.locals != X.env.globals)) = false := by rw [I.ok.kind]; rfl
  have hiσ : i < σ.length := by rw [I.len]; exact (List.getElem?_eq_some_iff.mp hi).1
  have cne := I.cne
  have tracked : ∀ {a : Addr} {h' : Heap}, (∃ o, s.heap.get? a = some o ∧ H a = none) → Heap.SameBut a s.heap h' → HOk X.prog X.w H h' := fun {a h'} ha hs b ob e => by
    obtain ⟨_, _, hfree⟩ := ha
    refine (I.hok b ob e).stay (fun c w' hc q => (hs.2 c ?_).trans q) (fun _ q => q) fun _ _ q => q
    rintro rfl
    rcases hc with rfl | hc
    · rw [hfree] at e; cases e
    · rw [hfree] at hc; cases hc
  rcases hx with hk | hk
  · refine wpAny_storeName_local hk hn (fun h' hn' hs => ?_) hcls
    obtain ⟨oL, _, _, hoL, _⟩ := id hn
    refine h _ ⟨I.ok, I.os, I.bare, ⟨fun b o e n hb hx => ?_, fun b o e n hb hx => ?_, I.base.free, fun b o e hx => ?_, I.base.tups, I.base.frzs, I.base.tbls⟩, ⟨_, hn', fun j y v' e1 e2 e3 => ?_⟩, fun y c e => ?_, I.free, I.freeC, fun p hp => ?_, tracked ⟨oL, hoL, I.free⟩ hs, by simpa using I.len⟩ ⟨_, hs, .inl rfl⟩
    · exact (hs.2 b (Nat.ne_of_lt (Nat.lt_of_lt_of_le (Heap.lt_size e) I.ok.above))).trans (I.base.keep b o e n hb hx)
    · obtain ⟨sl, e1⟩ := I.base.slot b o e n hb hx
      exact ⟨sl, (hs.2 b (Nat.ne_of_lt (Nat.lt_of_lt_of_le (Heap.lt_size e) I.ok.above))).trans e1⟩
    · obtain ⟨o', e1⟩ := I.base.there b o e hx
      exact ⟨o', (hs.2 b (Nat.ne_of_lt (Nat.lt_of_lt_of_le (Heap.lt_size e) I.ok.above))).trans e1⟩
    · by_cases hj : j = i
      · subst hj
        rw [hi] at e1; cases e1
        rw [List.getElem?_set_self hiσ] at e2
        cases e2
        exact ⟨u, r, .inl ⟨hk, by simp⟩⟩
      · rw [List.getElem?_set_ne (Ne.symm hj)] at e2
        obtain ⟨u', r', q⟩ := hl j y v' e1 e2 e3
        refine ⟨u', r', ?_⟩
        rcases q with ⟨k, e⟩ | ⟨k, c, e, z⟩
        · refine .inl ⟨k, ?_⟩
          have : y ≠ x := fun e => hj (nodup_ix hN e1 (e ▸ hi))
          simp [this, e]
        · exact .inr ⟨k, c, e, z.sameBut hs (cne y c e)⟩
    · obtain ⟨w', z⟩ := I.cell y c e
      exact ⟨w', z.sameBut hs (cne y c e)⟩
    · obtain ⟨e, n, ne, nf, d⟩ := I.pin p hp
      exact ⟨(hs.2 p.1 ne).trans e, n, ne, nf, d⟩
  · have hfn : X.fn x = true := by
      rcases hf with z | z
      · exact z
      · rw [z] at hk; cases hk
    obtain ⟨c, hc⟩ := I.ok.has x (.inl hk)
    obtain ⟨w', z⟩ := I.cell x c hc
    refine wpAny_storeName_cell I.ok.kind hk hc z (fun h' hc' hs => ?_)
    obtain ⟨oc, hoc, hocd⟩ := id z
    refine h { s with heap := h' } ⟨I.ok, I.os, I.bare, ⟨fun b o e n hb hx => ?_, fun b o e n hb hx => ?_, I.base.free, fun b o e hx => ?_, I.base.tups, I.base.frzs, I.base.tbls⟩, ⟨m, hn.sameBut hs (Ne.symm (cne x c hc)), fun j y v' e1 e2 e3 => ?_⟩, fun y c' e => ?_, I.free, I.freeC, fun p hp => ?_, tracked ⟨oc, hoc, I.freeC x c hc⟩ hs, by simpa using I.len⟩ ⟨c, hs, .inr hc⟩
    · exact (hs.2 b (Nat.ne_of_lt (Nat.lt_of_lt_of_le (Heap.lt_size e) (I.ok.cab x c hfn hc)))).trans (I.base.keep b o e n hb hx)
    · obtain ⟨sl, e1⟩ := I.base.slot b o e n hb hx
      exact ⟨sl, (hs.2 b (Nat.ne_of_lt (Nat.lt_of_lt_of_le (Heap.lt_size e) (I.ok.cab x c hfn hc)))).trans e1⟩
    · obtain ⟨o', e1⟩ := I.base.there b o e hx
      exact ⟨o', (hs.2 b (Nat.ne_of_lt (Nat.lt_of_lt_of_le (Heap.lt_size e) (I.ok.cab x c hfn hc)))).trans e1⟩
    · by_cases hj : j = i
      · subst hj
        rw [hi] at e1; cases e1
        rw [List.getElem?_set_self hiσ] at e2
        cases e2
        exact ⟨u, r, .inr ⟨.inl hk, c, hc, hc'⟩⟩
      · rw [List.getElem?_set_ne (Ne.symm hj)] at e2
        obtain ⟨u', r', q⟩ := hl j y v' e1 e2 e3
        refine ⟨u', r', ?_⟩
        rcases q with q | ⟨k, c', e, z'⟩
        · exact .inl q
        · refine .inr ⟨k, c', e, z'.sameBut hs ?_⟩
          rintro rfl
          exact hj (nodup_ix hN e1 (I.ok.inj _ _ _ e hc ▸ hi))
    · by_cases hcc : c' = c
      · subst hcc; exact ⟨_, hc'⟩
      · obtain ⟨w2, z2⟩ := I.cell y c' e
        exact ⟨w2, z2.sameBut hs hcc⟩
    · obtain ⟨e, n, ne, nf, d⟩ := I.pin p hp
      refine ⟨(hs.2 p.1 ?_).trans e, n, ne, nf, d⟩
      intro q
      rw [q, hoc] at e
      have q' : oc = p.2 := Option.some.inj e
      exact d w' (by rw [← q']; exact hocd)
theorem store_ok {M : Model} {A : Around} {E : Value → Shared → Prop} {i : Nat} {x : Str} {v : V} {u : Value} {Q : Unit → Shared → Prop} (I : Inv X pins σ H s) (hN : X.N.Nodup) (hi : X.N[i]? = some x) (hx : Loc X.env.scope x) (r : RelV v u)
    (h : ∀ s', Inv X pins (σ.set i (some v)) H s' → Q () s') (hf : X.fn x = true ∨ X.env.scope.names.lookup x = some .local := by first | exact .inl rfl | exact .inr rfl | assumption) : wpAny M A (storeName X.env x u) Q E s :=
  store_ok2 I hN hi hx r (fun s' I' _ => h s' I') hf
theorem Inv.call' {s' : Shared} {ch : List Addr} (I : Inv X pins σ H s) (ho : s'.os = s.os) (u : Un (frs X.stack) ch H H' s.heap s'.heap) (hok : HOk X.prog X.w H' s'.heap) (hg : AllBare s'.gens)
    (hch : ∀ b ∈ ch, (b ∈ X.ex ∨ X.s₀.heap.objs.size ≤ b) ∧ b ≠ X.env.locals ∧ (∀ x c, X.env.cells.lookup x = some c → c ≠ b) ∧ ∀ p ∈ X.pn ++ pins, p.1 ≠ b) : Inv X pins σ H' s' := by
  obtain ⟨h', g', d', t', o'⟩ := s'
  have e : o' = s.os := ho
  subst e
  exact I.call (g' := g') (t' := t') (d' := d') u hok hg hch
end

abbrev XK := Value → Option Addr → Hp → Prop
abbrev St := List (Option V)
abbrev VK := V → Hp → Prop
abbrev TE := St → Hp → VK → Prop
abbrev TT := St → Hp → (Bool → Hp → Prop) → Prop
abbrev TA := St → Hp → (List V → Hp → Prop) → Prop
structure Ends where
  nx : St → Hp → Prop
  rt : VK
  bk : St → Hp → Prop := fun _ _ => False
  ct : St → Hp → Prop := fun _ _ => False
abbrev TS := Ends → St → Hp → Prop

def EP (X : Cx) (pins : List (Addr × Obj)) (σ : St) (Q : VK) (u : Value) (s' : Shared) : Prop := ∃ v H', Inv X pins σ H' s' ∧ RelV v u ∧ Q v H'
def TP (X : Cx) (pins : List (Addr × Obj)) (σ : St) (Q : Bool → Hp → Prop) (b : Bool) (s' : Shared) : Prop := ∃ H', Inv X pins σ H' s' ∧ Q b H'
def AP (X : Cx) (pins : List (Addr × Obj)) (σ : St) (Q : List V → Hp → Prop) (us : List Value) (s' : Shared) : Prop := ∃ vs H', Inv X pins σ H' s' ∧ Vals vs us ∧ Q vs H'
def SP (X : Cx) (pins : List (Addr × Obj)) (D : Ends) (f : Flow) (s' : Shared) : Prop :=
  match f with
  | .next => ∃ σ' H', Inv X pins σ' H' s' ∧ D.nx σ' H'
  | .brk => ∃ σ' H', Inv X pins σ' H' s' ∧ D.bk σ' H'
  | .cont => ∃ σ' H', Inv X pins σ' H' s' ∧ D.ct σ' H'
  | .ret u => ∃ v σ' H', Inv X pins σ' H' s' ∧ RelV v u ∧ D.rt v H'

def PE (X : Cx) (e : Expr) (t : TE) : Prop :=
  ∀ (pins : List (Addr × Obj)) (s : Shared) (σ : St) (H : Hp) (Q : VK), Inv X pins σ H s → t σ H Q → wpAny (model X.prog X.w) X.A (eval e X.env) (EP X pins σ Q) X.xe s
def PT (X : Cx) (e : Expr) (t : TT) : Prop :=
  ∀ (pins : List (Addr × Obj)) (s : Shared) (σ : St) (H : Hp) (Q : Bool → Hp → Prop), Inv X pins σ H s → t σ H Q → wpAny (model X.prog X.w) X.A (isTrue e X.env (eval e X.env)) (TP X pins σ Q) X.xe s
def PW (X : Cx) (e : Expr) (t : TT) : Prop :=
  ∀ (whole : Sem Value) (pins : List (Addr × Obj)) (s : Shared) (σ : St) (H : Hp) (Q : Bool → Hp → Prop), Inv X pins σ H s → t σ H Q → wpAny (model X.prog X.w) X.A (isTrue e X.env whole) (TP X pins σ Q) X.xe s
theorem PW.pt {X : Cx} {e : Expr} {t : TT} (h : PW X e t) : PT X e t := h _
def PA (X : Cx) (es : List Expr) (t : TA) : Prop :=
  ∀ (pos : Pos) (pins : List (Addr × Obj)) (s : Shared) (σ : St) (H : Hp) (Q : List V → Hp → Prop), Inv X pins σ H s → t σ H Q → wpAny (model X.prog X.w) X.A (spliced (backTo pos (starEach es X.env))) (AP X pins σ Q) X.xe s
def PS (X : Cx) (st : Stmt) (t : TS) : Prop :=
  ∀ (pins : List (Addr × Obj)) (s : Shared) (σ : St) (H : Hp) (D : Ends), Inv X pins σ H s → t D σ H → wpAny (model X.prog X.w) X.A (exec st X.env) (SP X pins D) X.xe s
def PSs (X : Cx) (st : List Stmt) (t : TS) : Prop :=
  ∀ (pins : List (Addr × Obj)) (s : Shared) (σ : St) (H : Hp) (D : Ends), Inv X pins σ H s → t D σ H → wpAny (model X.prog X.w) X.A (execs st X.env) (SP X pins D) X.xe s
theorem thn {α : Type} {t : Sem α} {Q Q' : α → Shared → Prop} {M : Model} {A : Around} {E : Value → Shared → Prop} {s : Shared} (h : wpAny M A t Q E s) (hQ : ∀ a s, Q a s → Q' a s) : wpAny M A t Q' E s := wpAny_mono h hQ fun _ _ x => x
end L2

namespace L2
open PySem PySem.Spec PyProof.Rows
section
variable {X : Cx}

def tVar (i : Nat) : TE := fun σ H Q => ∃ v, σ[i]? = some (some v) ∧ Q v H
def tC (v : V) : TE := fun _ H Q => Q v H
theorem pe_var {i : Nat} {x : Str} {pos : Pos} (hN : X.N[i]? = some x) (hv : Vis X.env.scope x) (hd : (x == ("__debug__" : Str)) = false := by decide) (hcd : (x == ("__classdict__" : Str)) = false := by decide) : PE X (.Name x pos) (tVar i) := by
  intro pins s σ H Q I h
  obtain ⟨v, e, h⟩ := h
  obtain ⟨m, hn, hl⟩ := I.loc
  obtain ⟨u, r, l⟩ := hl i x v hN e hv
  have fin : EP X pins σ Q u s := ⟨v, H, I, r, h⟩
  rcases l with ⟨hk, hm⟩ | ⟨hk, c, hc, hcell⟩
  · exact wpAny_Name (wpAny_loadName_local I.ok.kind hk hn hm fin) hd
  · rcases hk with hk | hk
    · exact wpAny_Name (wpAny_loadName_cell I.ok.kind hk hc hcell fin) hd
    · exact wpAny_Name (wpAny_loadName_free I.ok.kind hk hc hcell fin hcd) hd
theorem pe_int {i j pos} : PE X (.Constant (.int i) j pos) (tC (.int i)) := fun _ _ _ H _ I h => wpAny_Constant_int ⟨.int i, H, I.tok _, ⟨_, rfl⟩, h⟩
theorem pe_bl {b j pos} : PE X (.Constant (.bool b) j pos) (tC (.bl b)) := fun _ _ _ H _ I h => Constant_bool ⟨.bl b, H, I, rfl, h⟩
theorem pe_non {j pos} : PE X (.Constant .none j pos) (tC .non) := fun _ _ _ H _ I h => Constant_none ⟨.non, H, I, rfl, h⟩
theorem pe_str {x j pos} : PE X (.Constant (.str x) j pos) (tC (.str x)) := fun _ _ _ H _ I h => Calls.Constant_str ⟨.str x, H, I.tok _, ⟨_, rfl⟩, h⟩

def Gl (X : Cx) (x : Str) : Prop := X.env.kindOf x = some .globalImplicit
theorem ld_glob {E : Value → Shared → Prop} {pins : List (Addr × Obj)} {s : Shared} {σ : St} {H : Hp} {x : Str} {u : Value} {pos : Pos} {Q : Value → Shared → Prop} (I : Inv X pins σ H s) (hg : Gl X x) (hm : X.mg x = some u) (h : Q u s)
    (hd : (x == ("__debug__" : Str)) = false := by decide) : wpAny (model X.prog X.w) X.A (eval (.Name x pos) X.env) Q E s :=
  Calls.Name_function_global I.ok.kind hg (Calls.loadGlobal_global (by rw [I.ok.glob]; exact I.mod.glob.keeps I.bk) hm h) hd
theorem ld_blt {E : Value → Shared → Prop} {pins : List (Addr × Obj)} {s : Shared} {σ : St} {H : Hp} {x : Str} {u : Value} {pos : Pos} {Q : Value → Shared → Prop} (I : Inv X pins σ H s) (hg : Gl X x) (hm : X.mg x = none) (hv : bootBuiltins x = some u) (h : Q u s)
    (hn : x ≠ "__name__" := by decide) (hd : (x == ("__debug__" : Str)) = false := by decide) : wpAny (model X.prog X.w) X.A (eval (.Name x pos) X.env) Q E s := by
  obtain ⟨mb, h1, h2⟩ := I.mod.blt
  exact Calls.Name_function_global I.ok.kind hg (Calls.loadGlobal_builtin (by rw [I.ok.glob]; exact I.mod.glob.keeps I.bk) hm (by rw [I.ok.blt]; exact h1.keeps I.bk) ((h2 x hn).trans hv) h) hd
theorem pe_glob {x : Str} {v : V} {u : Value} {pos : Pos} (hg : Gl X x) (hm : X.mg x = some u) (r : RelV v u) (hd : (x == ("__debug__" : Str)) = false := by decide) : PE X (.Name x pos) (tC v) :=
  fun _ _ _ H _ I h => ld_glob I hg hm ⟨v, H, I, r, h⟩ hd
theorem pe_bltn {x : Str} {v : V} {u : Value} {pos : Pos} (hg : Gl X x) (hm : X.mg x = none) (hv : bootBuiltins x = some u) (r : RelV v u) (hn : x ≠ "__name__" := by decide) (hd : (x == ("__debug__" : Str)) = false := by decide) : PE X (.Name x pos) (tC v) :=
  fun _ _ _ H _ I h => ld_blt I hg hm hv ⟨v, H, I, r, h⟩ hn hd

variable {a b : Expr} {ta tb : TE} {pos : Pos}
def PC (X : Cx) (op : CmpOp) (a b : Expr) (t : TE) : Prop :=
  ∀ (pins : List (Addr × Obj)) (s : Shared) (σ : St) (H : Hp) (Q : VK), Inv X pins σ H s → t σ H Q →
    wpAny (model X.prog X.w) X.A (eval a X.env) (fun v s₁ => wpAny (model X.prog X.w) X.A (eval b X.env) (fun u s₂ => wpAny (model X.prog X.w) X.A (compareOp op v u) (EP X pins σ Q) X.xe s₂) X.xe s₁) X.xe s
def tB (t : TE) : TT := fun σ H Q => t σ H fun x H1 => ∃ c, x = .bl c ∧ Q c H1
theorem pt_cmp {op : CmpOp} {t : TE} (h : PC X op a b t) (h1 : behindInMarks op b = false := by first | exact nobehind _ (by decide) (by decide) | rfl) : PT X (.Compare a [op] [b] pos) (tB t) := by
  intro pins s σ H Q I hw
  refine wpAny_isTrue_Compare1 (thn (h pins s σ H _ I hw) fun v s1 h1 => thn h1 fun u s2 h2 => thn h2 fun c s3 ⟨x, H1, I1, r1, q1⟩ => ?_) h1
  obtain ⟨d, rfl, q⟩ := q1
  cases r1
  exact wpAny_truthy_bool ⟨H1, I1, q⟩
theorem pt_val {e : Expr} {t : TE} (h : PE X e t) (he : ∀ whole, isTrue e X.env whole = (do let v ← whole; standAt e.pos; holding [v] (truthy v)) := by intro _; rfl) : PT X e (tB t) := by
  intro pins s σ H Q I hw
  refine isTrue_plain (thn (h pins s σ H _ I hw) fun v s1 ⟨x, H1, I1, r1, q1⟩ => ?_) (he _)
  obtain ⟨d, rfl, q⟩ := q1
  cases r1
  exact wpAny_truthy_bool ⟨H1, I1, q⟩

variable {tA tB' : TT} {rest : List Expr}
def tAnd (t u : TT) : TT := fun σ H Q => t σ H fun c H1 => if c = true then u σ H1 Q else Q false H1
def tOr (t u : TT) : TT := fun σ H Q => t σ H fun c H1 => if c = true then Q true H1 else u σ H1 Q
def tNot (t : TT) : TT := fun σ H Q => t σ H fun c H1 => Q (!c) H1
theorem pw_and1 (ha : PT X a tA) : PW X (.BoolOp .And [a] pos) tA := by
  intro wh pins s σ H Q I h
  refine isTrue_and (thn (ha pins s σ H Q I h) fun c s1 e => ?_)
  cases c with
  | true => exact isTrue_and_nil e
  | false => exact e
theorem pw_or1 (ha : PT X a tA) : PW X (.BoolOp .Or [a] pos) tA := by
  intro wh pins s σ H Q I h
  refine isTrue_or (thn (ha pins s σ H Q I h) fun c s1 e => ?_)
  cases c with
  | false => exact isTrue_or_nil e
  | true => exact e
theorem pw_and (ha : PT X a tA) (hb : PW X (.BoolOp .And (b :: rest) pos) tB') : PW X (.BoolOp .And (a :: b :: rest) pos) (tAnd tA tB') := by
  intro wh pins s σ H Q I h
  refine isTrue_and (thn (ha pins s σ H _ I h) fun c s1 ⟨H1, I1, q1⟩ => ?_)
  cases c with
  | true => exact hb wh pins s1 σ H1 Q I1 q1
  | false => exact ⟨H1, I1, q1⟩
theorem pw_or (ha : PT X a tA) (hb : PW X (.BoolOp .Or (b :: rest) pos) tB') : PW X (.BoolOp .Or (a :: b :: rest) pos) (tOr tA tB') := by
  intro wh pins s σ H Q I h
  refine isTrue_or (thn (ha pins s σ H _ I h) fun c s1 ⟨H1, I1, q1⟩ => ?_)
  cases c with
  | true => exact ⟨H1, I1, q1⟩
  | false => exact hb wh pins s1 σ H1 Q I1 q1
theorem pt_not (ha : PT X a tA) : PT X (.UnaryOp .Not a pos) (tNot tA) := by
  intro pins s σ H Q I h
  exact isTrue_not (ha pins s σ H (fun c H1 => Q (!c) H1) I h)
def tAndV (ta tb : TE) : TE := fun σ H Q => ta σ H fun x H1 => ∃ c, x = .bl c ∧ if c = true then tb σ H1 Q else Q (.bl false) H1
def tNotV (ta : TE) : TE := fun σ H Q => ta σ H fun x H1 => ∃ c, x = .bl c ∧ Q (.bl (!c)) H1
theorem pe_one {op} {t : TE} (h : PE X a t) : PE X (.BoolOp op [a] pos) t := fun pins s σ H Q I hw => BoolOp_one (h pins s σ H Q I hw)
theorem pe_and (ha : PE X a ta) (hb : PE X (.BoolOp .And (b :: rest) pos) tb) : PE X (.BoolOp .And (a :: b :: rest) pos) (tAndV ta tb) := by
  intro pins s σ H Q I h
  refine BoolOp_and (thn (ha pins s σ H _ I h) fun v s1 ⟨x, H1, I1, r1, q1⟩ => ?_)
  obtain ⟨c, rfl, q1⟩ := q1
  cases r1
  refine wpAny_truthy_bool ?_
  cases c with
  | true => exact hb pins s1 σ H1 Q I1 q1
  | false => exact ⟨.bl false, H1, I1, rfl, q1⟩
theorem pe_not (ha : PE X a ta) : PE X (.UnaryOp .Not a pos) (tNotV ta) := by
  intro pins s σ H Q I h
  refine UnaryOp_ (thn (ha pins s σ H _ I h) fun v s1 ⟨x, H1, I1, r1, q1⟩ => ?_)
  obtain ⟨c, rfl, q1⟩ := q1
  cases r1
  exact not_of (wpAny_truthy_bool ⟨.bl (!c), H1, I1, rfl, q1⟩)
def tIf (t : TT) (ta tb : TE) : TE := fun σ H Q => t σ H fun c H1 => if c = true then ta σ H1 Q else tb σ H1 Q
theorem pe_ifExp {c : Expr} (hc : PT X c tA) (ha : PE X a ta) (hb : PE X b tb) : PE X (.IfExp c a b pos) (tIf tA ta tb) := by
  intro pins s σ H Q I h
  refine wpAny_IfExp (thn (hc pins s σ H _ I h) fun d s1 ⟨H1, I1, q1⟩ => ?_)
  cases d with
  | true => exact ha pins s1 σ H1 Q I1 q1
  | false => exact hb pins s1 σ H1 Q I1 q1
end
end L2

namespace L2
open PySem PySem.Spec PyProof.Rows

def SqL (K : PySem.W.Frag) (H : Hp) (a : Addr) (xs : List V) : Prop :=
  Rd H a (.lst xs) ∨
    ∃ (o : Obj) (its : Array Value) (n : Nat), K.lookup a = some o ∧ o.cls = .type "list" ∧ o.dict = none ∧ o.data = .seq its n ∧ its.size ≤ sizeLine ∧ Vals xs its.toList
def SqT (K : PySem.W.Frag) (H : Hp) (a : Addr) (xs : List V) : Prop :=
  Rd H a (.tup xs) ∨
    ∃ (o : Obj) (its : Array Value) (n : Nat), K.lookup a = some o ∧ o.cls = .type "tuple" ∧ o.data = .seq its n ∧ its.size ≤ sizeLine ∧ Vals xs its.toList
def absV : Value → Option V
  | .none => some .non
  | .bool b => some (.bl b)
  | .int i _ => some (.int i)
  | .str x _ => some (.str x)
  | .bytes b _ => some (.byt b)
  | .float b _ => some (.flt b)
  | .ref a => some (.ref a)
  | .type n => some (.ty n)
  | _ => none
theorem RelV.abs {x : V} {u : Value} (r : RelV x u) : absV u = some x := by
  cases x with
  | non => cases r; rfl
  | bl _ => cases r; rfl
  | int _ => obtain ⟨t, rfl⟩ := r; rfl
  | str _ => obtain ⟨t, rfl⟩ := r; rfl
  | byt _ => obtain ⟨t, rfl⟩ := r; rfl
  | flt _ => obtain ⟨t, rfl⟩ := r; rfl
  | ref _ => cases r; rfl
  | ty _ => cases r; rfl
theorem RelV.inj {x y : V} {u : Value} (r : RelV x u) (q : RelV y u) : x = y := Option.some.inj (r.abs.symm.trans q.abs)
theorem Vals.inj : ∀ {xs ys : List V} {us : List Value}, Vals xs us → Vals ys us → xs = ys
  | _, _, _, .nil, .nil => rfl
  | _, _, _, .cons r t, .cons r' t' => by rw [r.inj r', Vals.inj t t']
section
variable {X : Cx} {pins : List (Addr × Obj)} {σ : St} {H : Hp} {s : Shared} {a : Addr} {xs ys : List V}
theorem SqL.of {K : PySem.W.Frag} (h : H a = some (.lst xs)) : SqL K H a xs := .inl (.inl h)
theorem SqT.of {K : PySem.W.Frag} (h : H a = some (.tup xs)) : SqT K H a xs := .inl (.inl h)
theorem Inv.list (I : Inv X pins σ H s) (h : SqL X.K H a xs) : ∃ its : List Value, Vals xs its ∧ PlainL s.heap a its.toArray ∧ xs.length ≤ sizeLine := by
  rcases h with h | ⟨o, its, n, hk, hc, hd, hs, hz, r⟩
  · obtain ⟨z, its, n, r, e⟩ := h.ok I.hok
    exact ⟨its, r, ⟨_, n, e, rfl, rfl, rfl⟩, z⟩
  · refine ⟨its.toList, r, ⟨o, n, I.kIn a o hk, hc, hd, by simpa using hs⟩, ?_⟩
    have e := r.length
    simp only [Array.length_toList] at e
    (first | lia | omega)
theorem Inv.tuple (I : Inv X pins σ H s) (h : SqT X.K H a xs) : ∃ its : List Value, Vals xs its ∧ IsTup s.heap a its.toArray ∧ xs.length ≤ sizeLine := by
  rcases h with h | ⟨o, its, n, hk, hc, hs, hz, r⟩
  · obtain ⟨z, its, r, p⟩ := h.ok I.hok
    exact ⟨its, r, p, z⟩
  · refine ⟨its.toList, r, ⟨o, I.kIn a o hk, hc, n, by simpa using hs⟩, ?_⟩
    have e := r.length
    simp only [Array.length_toList] at e
    (first | lia | omega)
theorem Inv.list_inj (I : Inv X pins σ H s) (h : SqL X.K H a xs) (h' : SqL X.K H a ys) : xs = ys := by
  obtain ⟨its, r, ⟨o, n, e, _, _, d⟩, _⟩ := I.list h
  obtain ⟨its', r', ⟨o', n', e', _, _, d'⟩, _⟩ := I.list h'
  rw [e] at e'; cases e'
  rw [d] at d'
  injection d' with d1 _
  have : its = its' := by simpa using congrArg Array.toList d1
  subst this
  exact r.inj r'
end

abbrev Cx.wish (X : Cx) (E : Value → Shared → Prop) : Cx := { X with xe := E }
abbrev Cx.nox (X : Cx) : Cx := X.wish fun _ _ => False
theorem Cx.Ok.wish {X : Cx} (ok : X.Ok) (E : Value → Shared → Prop) : (X.wish E).Ok :=
  ⟨ok.mod, ok.kind, ok.glob, ok.blt, ok.above, ok.inj, ok.has, ok.cab, ok.hd, ok.frames, ok.stk, ok.exf, ok.bs, ok.bsz, ok.noex, ok.exfs, ok.funs, ok.frf⟩
theorem Cx.Ok.unwish {X : Cx} {E : Value → Shared → Prop} (ok : (X.wish E).Ok) : X.Ok :=
  ⟨ok.mod, ok.kind, ok.glob, ok.blt, ok.above, ok.inj, ok.has, ok.cab, ok.hd, ok.frames, ok.stk, ok.exf, ok.bs, ok.bsz, ok.noex, ok.exfs, ok.funs, ok.frf⟩
section
variable {X : Cx} {pins : List (Addr × Obj)} {σ : St} {H : Hp} {s : Shared} {E : Value → Shared → Prop}
theorem Inv.wish (I : Inv X pins σ H s) (E : Value → Shared → Prop) : Inv (X.wish E) pins σ H s := ⟨I.ok.wish E, I.os, I.bare, I.base, I.loc, I.cell, I.free, I.freeC, I.pin, I.hok, I.len⟩
theorem Inv.unwish (I : Inv (X.wish E) pins σ H s) : Inv X pins σ H s := ⟨I.ok.unwish, I.os, I.bare, I.base, I.loc, I.cell, I.free, I.freeC, I.pin, I.hok, I.len⟩
theorem SP.unwish {D : Ends} {f : Flow} {s' : Shared} (h : SP (X.wish E) pins D f s') : SP X pins D f s' := by
  cases f with
  | next => obtain ⟨σ', H', I, q⟩ := h; exact ⟨σ', H', I.unwish, q⟩
  | brk => obtain ⟨σ', H', I, q⟩ := h; exact ⟨σ', H', I.unwish, q⟩
  | cont => obtain ⟨σ', H', I, q⟩ := h; exact ⟨σ', H', I.unwish, q⟩
  | ret u => obtain ⟨v, σ', H', I, r, q⟩ := h; exact ⟨v, σ', H', I.unwish, r, q⟩
theorem PSs.nox {st : List Stmt} {t : TS} (h : PSs X.nox st t) : PSs X st t := fun pins s σ H D I hw =>
  wpAny_mono (h pins s σ H D (I.wish _) hw) (fun _ _ q => q.unwish) fun _ _ z => False.elim z
end

section
variable {X : Cx} {st : Stmt} {rest : List Stmt} {t u : TS} {e : Expr} {te : TE} {pos : Pos}
def tNext : TS := fun D σ H => D.nx σ H
def Ends.on (D : Ends) (u : TS) : Ends := { D with nx := u D }
def tSeq (t u : TS) : TS := fun D σ H => t (D.on u) σ H
theorem pss_nil : PSs X [] tNext := fun _ _ σ H _ I h => wpAny_execs_nil ⟨σ, H, I, h⟩
theorem pss_cons (h1 : PS X st t) (h2 : PSs X rest u) : PSs X (st :: rest) (tSeq t u) := by
  intro pins s σ H D I h
  refine wpAny_execs_cons (thn (h1 pins s σ H { D with nx := u D } I h) fun f s1 q => ?_)
  cases f with
  | next =>
    obtain ⟨σ', H', I', q⟩ := q
    exact h2 pins s1 σ' H' D I' q
  | ret v => exact q
  | brk => exact q
  | cont => exact q
theorem pss_one (h1 : PS X st t) : PSs X [st] t := by
  intro pins s σ H D I h
  refine wpAny_execs_cons (thn (h1 pins s σ H D I h) fun f s1 q => ?_)
  cases f with
  | next => exact wpAny_execs_nil q
  | ret v => exact q
  | brk => exact q
  | cont => exact q
theorem Inv.quiet {pins : List (Addr × Obj)} {σ : St} {H : Hp} {s : Shared} (I : Inv X pins σ H s) : interactive X.env = false := by simp [interactive, I.ok.kind]
def tDrop (te : TE) : TS := fun D σ H => te σ H fun _ H1 => D.nx σ H1
theorem ps_expr (he : PE X e te) (hs : swapsWith e none pos.line X.env = pure false := by rfl) : PS X (.Expr e pos) (tDrop te) := by
  intro pins s σ H D I h
  exact wpAny_Expr_any (thn (he pins s σ H _ I h) fun v s1 ⟨x, H1, I1, r1, q1⟩ => ⟨σ, H1, I1, q1⟩) I.quiet hs
def tRet (te : TE) : TS := fun D σ H => te σ H D.rt
theorem ps_ret (he : PE X e te) : PS X (.Return (some e) pos) (tRet te) := by
  intro pins s σ H D I h
  exact wpAny_Return_some (thn (he pins s σ H _ I h) fun v s1 ⟨x, H1, I1, r1, q1⟩ => ⟨x, σ, H1, I1, r1, q1⟩)
def tIfS (c : TT) (t u : TS) : TS := fun D σ H => c σ H fun b H1 => if b = true then t D σ H1 else u D σ H1
theorem ps_if {c : Expr} {a b : List Stmt} {tc : TT} (hc : PT X c tc) (ha : PSs X a t) (hb : PSs X b u) : PS X (.If c a b pos) (tIfS tc t u) := by
  intro pins s σ H D I h
  refine wpAny_If (thn (hc pins s σ H _ I h) fun d s1 ⟨H1, I1, q1⟩ => ?_)
  cases d with
  | true => exact ha pins s1 σ H1 D I1 q1
  | false => exact hb pins s1 σ H1 D I1 q1
def tNever : TS := fun _ _ _ => False
theorem pss_never {sts : List Stmt} : PSs X sts tNever := fun _ _ _ _ _ _ h => h.elim
end

abbrev TG := V → St → Hp → (St → Hp → Prop) → Prop
abbrev TGs := List V → St → Hp → (St → Hp → Prop) → Prop
def PG (X : Cx) (target : Expr) (t : TG) : Prop :=
  ∀ (pins : List (Addr × Obj)) (s : Shared) (σ : St) (H : Hp) (v : V) (u : Value) (Q : St → Hp → Prop), Inv X pins σ H s → RelV v u → t v σ H Q →
    wpAny (model X.prog X.w) X.A (assign target X.env u) (fun _ s' => ∃ σ' H', Inv X pins σ' H' s' ∧ Q σ' H') X.xe s
def PGs (X : Cx) (ts : List Expr) (t : TGs) : Prop :=
  ∀ (pins : List (Addr × Obj)) (s : Shared) (σ : St) (H : Hp) (vs : List V) (us : List Value) (Q : St → Hp → Prop), Inv X pins σ H s → Vals vs us → t vs σ H Q →
    wpAny (model X.prog X.w) X.A (assignInOrder ((assignEach ts X.env).map (·.2)) us) (fun _ s' => ∃ σ' H', Inv X pins σ' H' s' ∧ Q σ' H') X.xe s
abbrev TSet := V → V → V → Hp → (Hp → Prop) → Prop
def PSet (X : Cx) (t : TSet) : Prop :=
  ∀ (pins : List (Addr × Obj)) (s : Shared) (σ : St) (H : Hp) (o i v : V) (ov iv u : Value) (Q : Hp → Prop), Inv X pins σ H s → RelV o ov → RelV i iv → RelV v u → t o i v H Q →
    wpAny (model X.prog X.w) X.A (setItem ov iv u) (fun _ s' => ∃ H', Inv X pins σ H' s' ∧ Q H') X.xe s
abbrev TIp := V → V → Hp → VK → Prop
def PIp (X : Cx) (op : Operator) (t : TIp) : Prop :=
  ∀ (pins : List (Addr × Obj)) (s : Shared) (σ : St) (H : Hp) (x y : V) (v u : Value) (Q : VK), Inv X pins σ H s → RelV x v → RelV y u → t x y H Q →
    wpAny (model X.prog X.w) X.A (inplaceOp op v u) (EP X pins σ Q) X.xe s
section
variable {X : Cx} {pos : Pos}
def gName (i : Nat) : TG := fun v σ H Q => Q (σ.set i (some v)) H
theorem pg_name {i : Nat} {x : Str} (hN : X.N.Nodup) (hi : X.N[i]? = some x) (hx : Loc X.env.scope x) (hf : X.fn x = true ∨ X.env.scope.names.lookup x = some .local := by first | exact .inl rfl | exact .inr rfl | assumption) : PG X (.Name x pos) (gName i) := by
  intro pins s σ H v u Q I r h
  exact wpAny_assign_Name (store_ok I hN hi hx r (fun s' I' => ⟨_, H, I', h⟩) hf)
def gNil : TGs := fun vs σ H Q => vs = [] ∧ Q σ H
def gCons (t : TG) (u : TGs) : TGs := fun vs σ H Q => ∃ v r, vs = v :: r ∧ t v σ H fun σ' H' => u r σ' H' Q
theorem pgs_nil : PGs X [] gNil := by
  intro pins s σ H vs us Q I r h
  obtain ⟨e, h⟩ := h
  subst e
  cases r
  exact assignInOrder_nil ⟨σ, H, I, h⟩
theorem pgs_cons {e : Expr} {es : List Expr} {t : TG} {u : TGs} (h1 : PG X e t) (h2 : PGs X es u)
    (hs : (assignEach (e :: es) X.env).map (·.2) = assign e X.env :: (assignEach es X.env).map (·.2) := by rfl) : PGs X (e :: es) (gCons t u) := by
  intro pins s σ H vs us Q I r h
  obtain ⟨v, vr, e1, h⟩ := h
  subst e1
  cases r with
  | cons r rr =>
    rw [hs]
    refine assignInOrder_cons (thn (h1 pins s σ H _ _ _ I r h) fun _ s1 ⟨σ1, H1, I1, q1⟩ => ?_)
    exact h2 pins s1 σ1 H1 _ _ Q I1 rr q1
def gTup (K : PySem.W.Frag) (n : Nat) (t : TGs) : TG := fun v σ H Q => ∃ a xs, v = .ref a ∧ SqT K H a xs ∧ xs.length = n ∧ t xs σ H Q
theorem pg_tup {es : List Expr} {k : Nat} {t : TGs} {n : Nat} (hc : X.calm = true) (h : PGs X es t)
    (hn : (assignEach es X.env).length = n := by rfl) (hst : (assignEach es X.env).findIdx? (·.1) = none := by rfl) : PG X (.Tuple es k pos) (gTup X.K n t) := by
  intro pins s σ H v u Q I r hw
  obtain ⟨a, xs, e1, hq, hl, hw⟩ := hw
  subst e1
  cases r
  obtain ⟨its, rv, ht, hz⟩ := I.tuple hq
  refine assign_Tuple_tuple (I.ok.hd hc) ht (by simp [hn, ← hl, rv.length]) hst fun h' hx => ?_
  have I1 : Inv X pins σ H { s with heap := h' } := I.kept (t' := s.toks) fun b o e => hx b o (Nat.ne_of_lt (Heap.lt_size e)) e
  exact h pins _ σ H xs _ Q I1 (by simpa using rv) hw
def gSub (to ti : TE) (t : TSet) : TG := fun v σ H Q => to σ H fun o H1 => ti σ H1 fun i H2 => t o i v H2 fun H3 => Q σ H3
theorem pg_sub {o i : Expr} {to ti : TE} {t : TSet} (ho : PE X o to) (hi : PE X i ti) (hs : PSet X t)
    (ha : ∀ v, assign (.Subscript o i pos) X.env v = (do
      let ov ← holding [v] (eval o X.env)
      let iv ← holding [v, ov] (eval i X.env)
      standAt pos
      holding [v, ov, iv] (setItem ov iv v)
      release [v, ov, iv] []) := by intro _; rfl) : PG X (.Subscript o i pos) (gSub to ti t) := by
  intro pins s σ H v u Q I r h
  rw [ha]
  refine wpAny_bind (wpAny_holding (thn (ho pins s σ H _ I h) fun ov s1 ⟨x, H1, I1, r1, q1⟩ => ?_))
  refine wpAny_bind (wpAny_holding (thn (hi pins s1 σ H1 _ I1 q1) fun iv s2 ⟨y, H2, I2, r2, q2⟩ => ?_))
  refine wpAny_bind (wpAny_standAt (wpAny_bind (wpAny_holding (thn (hs pins s2 σ H2 x y v ov iv u _ I2 r1 r2 r q2) fun _ s3 ⟨H3, I3, q3⟩ => ?_))))
  exact wpAny_release ⟨σ, H3, I3, q3⟩
def tAsg (te : TE) (g : TG) : TS := fun D σ H => te σ H fun x H1 => g x σ H1 D.nx
theorem ps_asg {tg e : Expr} {te : TE} {g : TG} (he : PE X e te) (hg : PG X tg g) (hs : swapsWithSole [tg] e pos.line X.env = pure false := by rfl) (hw : swappedStores [tg] e X.env = pure none := by rfl)
    (h1 : (assignEach [tg] X.env).map (·.2) = [assign tg X.env] := by rfl) : PS X (.Assign [tg] e pos) (tAsg te g) := by
  intro pins s σ H D I h
  refine wpAny_Assign_stores (thn (he pins s σ H _ I h) fun v s1 ⟨x, H1, I1, r1, q1⟩ => ?_) hs hw
  rw [h1]
  exact thn (hg pins s1 σ H1 x v _ I1 r1 q1) fun _ s2 q => q
theorem ps_set {i : Nat} {x : Str} {e : Expr} {te : TE} {pos' : Pos} (hN : X.N.Nodup) (hi : X.N[i]? = some x) (hx : Loc X.env.scope x) (he : PE X e te) (hs : swapsWith e (some (.Name x pos')) pos.line X.env = pure false := by rfl) (hf : X.fn x = true ∨ X.env.scope.names.lookup x = some .local := by first | exact .inl rfl | exact .inr rfl | assumption) :
    PS X (.Assign [.Name x pos'] e pos) (tAsg te (gName i)) := by
  intro pins s σ H D I h
  refine wpAny_Assign_Name (thn (he pins s σ H _ I h) fun v s1 ⟨y, H1, I1, r1, q1⟩ => ?_) hs
  exact store_ok I1 hN hi hx r1 (fun s2 I2 => ⟨_, H1, I2, q1⟩) hf
def tAug (i : Nat) (te : TE) (ti : TIp) : TS := fun D σ H => ∃ x, σ[i]? = some (some x) ∧ te σ H fun y H1 => ti x y H1 fun z H2 => D.nx (σ.set i (some z)) H2
theorem ps_aug {i : Nat} {x : Str} {e : Expr} {te : TE} {op : Operator} {ti : TIp} {pos' : Pos} (hN : X.N.Nodup) (hi : X.N[i]? = some x) (hx : Loc X.env.scope x) (he : PE X e te) (ho : PIp X op ti) (hf : X.fn x = true ∨ X.env.scope.names.lookup x = some .local := by first | exact .inl rfl | exact .inr rfl | assumption) :
    PS X (.AugAssign (.Name x pos') op e pos) (tAug i te ti) := by
  intro pins s σ H D I h
  obtain ⟨v, e1, h⟩ := h
  obtain ⟨m, hn, hl⟩ := I.loc
  have vis : Vis X.env.scope x := by rcases hx with k | k; exact .inl k; exact .inr (.inl k)
  obtain ⟨u, r, l⟩ := hl i x v hi e1 vis
  refine wpAny_AugAssign_Name ?_
  have go : wpAny (model X.prog X.w) X.A (eval e X.env) (fun w s₂ => wpAny (model X.prog X.w) X.A (inplaceOp op u w) (fun r s₃ => wpAny (model X.prog X.w) X.A (storeName X.env x r) (fun _ => SP X pins D .next) X.xe s₃) X.xe s₂) X.xe s := by
    refine thn (he pins s σ H _ I h) fun w s1 ⟨y, H1, I1, r1, q1⟩ => ?_
    refine thn (ho pins s1 σ H1 v y u w _ I1 r r1 q1) fun z s2 ⟨zv, H2, I2, r2, q2⟩ => ?_
    exact store_ok I2 hN hi hx r2 (fun s3 I3 => ⟨_, H2, I3, q2⟩) hf
  rcases l with ⟨hk, hm⟩ | ⟨hk, c, hc, hcell⟩
  · exact wpAny_loadName_local I.ok.kind hk hn hm go
  · rcases hk with hk | hk
    · exact wpAny_loadName_cell I.ok.kind hk hc hcell go
    · rcases hx with k | k
      · have : X.env.scope.names.lookup x = some .free := hk
        rw [k] at this; cases this
      · have : X.env.scope.names.lookup x = some .free := hk
        rw [k] at this; cases this
def tAugS (to ti te : TE) (tget : V → V → Hp → VK → Prop) (tip : TIp) (tset : TSet) : TS := fun D σ H => to σ H fun o H1 => ti σ H1 fun i H2 => tget o i H2 fun x H3 => te σ H3 fun y H4 => tip x y H4 fun z H5 => tset o i z H5 fun H6 => D.nx σ H6
def PGet (X : Cx) (t : V → V → Hp → VK → Prop) : Prop :=
  ∀ (pins : List (Addr × Obj)) (s : Shared) (σ : St) (H : Hp) (o i : V) (ov iv : Value) (Q : VK), Inv X pins σ H s → RelV o ov → RelV i iv → t o i H Q →
    wpAny (model X.prog X.w) X.A (getItem ov iv) (EP X pins σ Q) X.xe s
theorem ps_augS {o i e : Expr} {to ti te : TE} {tget : V → V → Hp → VK → Prop} {tip : TIp} {tset : TSet} {op : Operator} {tpos : Pos} (ho : PE X o to) (hi : PE X i ti) (hg : PGet X tget) (he : PE X e te) (hp : PIp X op tip) (hs : PSet X tset)
    (ha : ∀ ov iv new, augStore i ov iv new = (do holding [new, ov, iv] (setItem ov iv new); release [new, ov, iv] []; pure .next) := by intros; rfl) : PS X (.AugAssign (.Subscript o i tpos) op e pos) (tAugS to ti te tget tip tset) := by
  intro pins s σ H D I h
  refine wpAny_AugAssign_SubscriptAny (thn (ho pins s σ H _ I h) fun ov s1 ⟨x1, H1, I1, r1, q1⟩ => ?_) ha
  refine thn (hi pins s1 σ H1 _ I1 q1) fun iv s2 ⟨x2, H2, I2, r2, q2⟩ => ?_
  refine thn (hg pins s2 σ H2 x1 x2 ov iv _ I2 r1 r2 q2) fun old s3 ⟨x3, H3, I3, r3, q3⟩ => ?_
  refine thn (he pins s3 σ H3 _ I3 q3) fun v s4 ⟨x4, H4, I4, r4, q4⟩ => ?_
  refine thn (hp pins s4 σ H4 x3 x4 old v _ I4 r3 r4 q4) fun new s5 ⟨x5, H5, I5, r5, q5⟩ => ?_
  exact thn (hs pins s5 σ H5 x1 x2 x5 ov iv new _ I5 r1 r2 r5 q5) fun _ s6 ⟨H6, I6, q6⟩ => ⟨σ, H6, I6, q6⟩
end

section
variable {X : Cx} {pos : Pos}
def tWhile (c : TT) (tb : TS) : TS := fun D σ H => ∃ W : Nat → St → Hp → Prop, (∃ m, W m σ H) ∧ ∀ m σ H, W m σ H →
  c σ H fun b H1 => if b = true then ∃ N : St → Hp → Prop, (∀ σ' H', N σ' H' → ∃ m', m' < m ∧ W m' σ' H') ∧ tb { D with nx := N, ct := N, bk := D.nx } σ H1 else D.nx σ H1
theorem ps_while {c : Expr} {body : List Stmt} {tc : TT} {tb : TS} (hp : PassesOwn (model X.prog X.w) X.A X.env X.xe) (hc : PT X c tc) (hb : PSs X body tb) : PS X (.While c body [] pos) (tWhile tc tb) := by
  intro pins s σ H D I h
  obtain ⟨W, ⟨m0, w0⟩, turn⟩ := h
  refine wpAny_While (codeAny_whileLoop (fun n s' => ∃ σ' H', Inv X pins σ' H' s' ∧ W n σ' H') ?_ m0 ⟨σ, H, I, w0⟩)
  rintro n s1 ⟨σ1, H1, I1, w1⟩
  refine wpAny_passesOwn hp (thn (hc pins s1 σ1 H1 _ I1 (turn n σ1 H1 w1)) fun b s2 ⟨H2, I2, q2⟩ => ?_)
  cases b with
  | true =>
    obtain ⟨N, hN, q2⟩ := q2
    rw [if_pos rfl]
    refine wpAny_passesOwn hp (thn (hb pins s2 σ1 H2 _ I2 q2) fun f s3 q3 => ?_)
    cases f with
    | next =>
      obtain ⟨σ3, H3, I3, n3⟩ := q3
      obtain ⟨m', hm, w3⟩ := hN σ3 H3 n3
      exact ⟨m', hm, σ3, H3, I3, w3⟩
    | cont =>
      obtain ⟨σ3, H3, I3, n3⟩ := q3
      obtain ⟨m', hm, w3⟩ := hN σ3 H3 n3
      exact ⟨m', hm, σ3, H3, I3, w3⟩
    | brk => exact q3
    | ret v => exact q3
  | false =>
    rw [if_neg Bool.false_ne_true]
    exact wpAny_execs_nil ⟨σ1, H2, I2, q2⟩
end

structure It where
  go : Nat → Hp → Prop
  yld : Nat → Hp → V → Hp → Prop
  stop : Nat → Hp → Prop
def FpOk (X : Cx) (pins : List (Addr × Obj)) (H : Hp) (b : Addr) : Prop :=
  H b = none ∧ b ≠ X.env.locals ∧ b ∉ X.fs ∧ (b ∈ X.ex ∨ X.s₀.heap.objs.size ≤ b) ∧ (∀ x c, X.env.cells.lookup x = some c → c ≠ b) ∧ ∀ p ∈ X.pn ++ pins, p.1 ≠ b
theorem Inv.fpOk {X : Cx} {pins : List (Addr × Obj)} {σ : St} {H H' : Hp} {s : Shared} {b : Addr} (I : Inv X pins σ H s) (hb : s.heap.objs.size ≤ b) (hn : H' b = none) : FpOk X pins H' b := by
  refine ⟨hn, Nat.ne_of_gt (Nat.lt_of_lt_of_le I.lt hb), I.nofs hb, .inr (Nat.le_trans I.sz hb), fun x c e z => ?_, fun p hp z => ?_⟩
  · obtain ⟨v, q⟩ := I.cell x c e
    exact absurd (Nat.lt_of_lt_of_le q.lt (by rw [z]; exact hb)) (Nat.lt_irrefl _)
  · exact absurd (Nat.lt_of_lt_of_le (Heap.lt_size (I.pin p hp).1) (by rw [z]; exact hb)) (Nat.lt_irrefl _)
structure Turn (P : Program) (w : World) (K : PySem.W.Frag) (tg : Expr) (J : It) (fp : List Addr) (it : Addr) (tn : Nat → Heap → Prop) : Prop where
  mem : it ∈ fp
  obj : ∀ i h, tn i h → ∀ b ∈ fp, ∃ o, h.get? b = some o ∧ ∀ v, o.data ≠ .cell v
  keep : ∀ i h h', tn i h → (∀ b ∈ fp, ∀ o, h.get? b = some o → h'.get? b = some o) → tn i h'
  item : ∀ (X : Cx), X.prog = P → X.w = w → X.K = K → X.calm = true → ∀ (i : Nat) (pins : List (Addr × Obj)) (s : Shared) (σ : St) (H : Hp) (E : Value → Shared → Prop), Inv X pins σ H s → (∀ b ∈ fp, FpOk X pins H b) → tn i s.heap → J.go i H →
    wpAny (model P w) X.A (pyNext (.ref it)) (fun r s1 => ∃ u, r = some u ∧
      wpAny (model P w) X.A (letOwnedTupleGo tg (.ref it) u) (fun _ s2 => ∃ x H', Inv X pins σ H' s2 ∧ RelV x u ∧ J.yld i H x H' ∧ tn (i + 1) s2.heap ∧ ∀ b ∈ fp, H' b = none) E s1) E s
  done : ∀ (X : Cx), X.prog = P → X.w = w → X.K = K → X.calm = true → ∀ (i : Nat) (pins : List (Addr × Obj)) (s : Shared) (σ : St) (H : Hp) (E : Value → Shared → Prop), Inv X pins σ H s → (∀ b ∈ fp, FpOk X pins H b) → tn i s.heap → J.stop i H →
    wpAny (model P w) X.A (pyNext (.ref it)) (fun r s1 => r = none ∧ Inv X pins σ H s1) E s
  self : ∀ (A : Around) (i : Nat) (s : Shared) (Q : Value → Shared → Prop) (E : Value → Shared → Prop), tn i s.heap → Q (.ref it) s → wpAny (model P w) A (pyIter (.ref it)) Q E s
abbrev TI := St → Hp → (It → Hp → Prop) → Prop
def PIE (X : Cx) (pins : List (Addr × Obj)) (σ : St) (tg : Expr) (R : It → Hp → Prop) (itv : Value) (s2 : Shared) : Prop :=
  ∃ (it : Addr) (fp : List Addr) (tn : Nat → Heap → Prop) (J : It) (H' : Hp), itv = .ref it ∧ Inv X pins σ H' s2 ∧ Turn X.prog X.w X.K tg J fp it tn ∧ tn 0 s2.heap ∧ (∀ b ∈ fp, FpOk X pins H' b) ∧ R J H'
def PI (X : Cx) (tg iter : Expr) (wi : TI) : Prop :=
  ∀ (pins : List (Addr × Obj)) (s : Shared) (σ : St) (H : Hp) (R : It → Hp → Prop), Inv X pins σ H s → wi σ H R →
    wpAny (model X.prog X.w) X.A (eval iter X.env) (fun v s1 => wpAny (model X.prog X.w) X.A (pyIter v) (PIE X pins σ tg R) X.xe s1) X.xe s

theorem go_of {M : Model} {A : Around} {E : Value → Shared → Prop} {s : Shared} {tg : Expr} {it : Addr} {u : Value} {o : Obj} {n : String} {vs : Array Value} {Q : Unit → Shared → Prop} (ho : s.heap.get? it = some o) (hc : o.cls = .type n) (hd : o.data = .fields vs)
    (hn : ["enumerate", "zip", "dict_itemiterator", "dict_reverseitemiterator", "odict_iterator", "itertools.zip_longest", "itertools.pairwise"].contains n = false) (hQ : Q () s) : wpAny M A (letOwnedTupleGo tg (.ref it) u) Q E s := by
  unfold letOwnedTupleGo
  cases tg <;> first
    | exact wpAny_pure hQ
    | (cases u <;> first
        | exact wpAny_pure hQ
        | (refine wpAny_bind (wpAny_load ho ?_)
           rw [hc, hd]
           show wpAny M A (if (["enumerate", "zip", "dict_itemiterator", "dict_reverseitemiterator", "odict_iterator", "itertools.zip_longest", "itertools.pairwise"].contains n && vs[0]? == some (rawInt _)) = true then _ else _) Q E s
           rw [if_neg (by intro h; rw [hn, Bool.false_and] at h; cases h)]
           exact wpAny_pure hQ))

def Itl (K : PySem.W.Frag) (a : Addr) : It :=
  ⟨fun i H => ∃ xs x, SqL K H a xs ∧ xs[i]? = some x, fun i H x H' => H' = H ∧ ∀ xs, SqL K H a xs → xs[i]? = some x, fun i H => ∃ xs, SqL K H a xs ∧ xs.length ≤ i⟩
def Itr (lo : Int) (n : Nat) : It := ⟨fun i _ => i < n, fun i H x H' => H' = H ∧ x = .int (lo + i), fun i _ => n ≤ i⟩
theorem turn_list {P : Program} {w : World} {K : PySem.W.Frag} {tg : Expr} (a it : Addr) : Turn P w K tg (Itl K a) [it] it (fun i h => h.IsListIter it a i) where
  mem := by simp
  obj := fun i h st b hb => by
    have e : b = it := by simpa using hb
    subst e
    obtain ⟨o, e, c, d⟩ := st
    exact ⟨o, e, fun v z => by rw [d] at z; cases z⟩
  keep := fun i h h' st k => st.at fun o e => k it (by simp) o e
  item := by
    intro X hP hw hK hc i pins s σ H E I hf st hg
    subst hP hw hK
    obtain ⟨xs, x, hq, hx⟩ := hg
    obtain ⟨its, rv, p, hz⟩ := I.list hq
    obtain ⟨u, hu, ru⟩ := rv.get hx
    obtain ⟨f0, f1, f2, f3, f4, f5⟩ := hf it (by simp)
    refine wpAny_pyNext_list_item st p.isList (x := u) (by simpa using hu) fun h' st' sb => ?_
    have I1 : Inv X pins σ H { s with heap := h' } := I.turned (t' := s.toks) (fun b o hb e => (sb.2 b hb).trans e) f0 f1 f3 f4 f5
    obtain ⟨o, e, c, d⟩ := id st'
    exact ⟨u, rfl, go_of (s := { s with heap := h' }) e c d (by decide) ⟨x, H, I1, ru, ⟨rfl, fun ys hy => by rw [I.list_inj hy hq]; exact hx⟩, st', fun b hb => (hf b hb).1⟩⟩
  done := by
    intro X hP hw hK hc i pins s σ H E I hf st hg
    subst hP hw hK
    obtain ⟨xs, hq, hx⟩ := hg
    obtain ⟨its, rv, p, hz⟩ := I.list hq
    obtain ⟨f0, f1, f2, f3, f4, f5⟩ := hf it (by simp)
    have hl := rv.length
    exact wpAny_pyNext_list_end (I.ok.hd hc) st p.isList (by simp; (first | lia | omega)) fun h' eb => ⟨rfl, I.turned (t' := s.toks) (fun b o hb e => eb b o hb e) f0 f1 f3 f4 f5⟩
  self := fun _ _ _ _ _ st h => wpAny_pyIter_listiter st h
theorem turn_range {P : Program} {w : World} {K : PySem.W.Frag} {tg : Expr} (it : Addr) (lo : Int) (n : Nat) : Turn P w K tg (Itr lo n) [it] it (fun i h => IsRangeIter h it (lo + (i : Nat) * 1) ((n : Int) - (i : Nat)) 1) where
  mem := by simp
  obj := fun i h st b hb => by
    have e : b = it := by simpa using hb
    subst e
    exact ⟨_, st, fun v z => by
      have z' : Data.fields _ = Data.cell v := z
      cases z'⟩
  keep := fun i h h' st k => k it (by simp) _ st
  item := by
    intro X hP hw hK hc i pins s σ H E I hf st hg
    subst hP hw hK
    obtain ⟨f0, f1, f2, f3, f4, f5⟩ := hf it (by simp)
    have W := Walks.range (prog := X.prog) (w := X.w) (I.ok.hd hc) it lo 1 n
    refine W.item i s _ _ hg st fun v h' tk hv st' kk => ?_
    obtain ⟨t, rfl⟩ := hv
    have I1 : Inv X pins σ H { s with heap := h', toks := tk } := I.turned (fun b o hb e => kk b o (by simpa using hb) e) f0 f1 f3 f4 f5
    refine ⟨_, rfl, go_of (s := { s with heap := h', toks := tk }) (n := "range_iterator") st' rfl rfl (by decide) ⟨.int (lo + i), H, I1, ⟨t, ?_⟩, ⟨rfl, rfl⟩, st', fun b hb => (hf b hb).1⟩⟩
    rw [Int.mul_one]
  done := by
    intro X hP hw hK hc i pins s σ H E I hf st hg
    subst hP hw hK
    obtain ⟨f0, f1, f2, f3, f4, f5⟩ := hf it (by simp)
    exact wpAny_pyNext_range_end (I.ok.hd hc) st (by have : n ≤ i := hg; (first | lia | omega)) fun h' eb => ⟨rfl, I.turned (t' := s.toks) (fun b o hb e => eb b o hb e) f0 f1 f3 f4 f5⟩
  self := fun _ _ _ _ _ st h => wpAny_pyIter_rangeiter st h
end L2

namespace L2
open PySem PySem.Spec PyProof.Rows
section
variable {X : Cx} {tg : Expr}
def iList (K : PySem.W.Frag) (tl : TE) : TI := fun σ H R => tl σ H fun x H1 => ∃ a, x = .ref a ∧ (∃ xs, SqL K H1 a xs) ∧ R (Itl K a) H1
theorem pi_list {l : Expr} {tl : TE} (hl : PE X l tl) : PI X tg l (iList X.K tl) := by
  intro pins s σ H R I h
  refine thn (hl pins s σ H _ I h) fun v s1 ⟨x, H1, I1, r1, q1⟩ => ?_
  obtain ⟨a, e, ⟨xs, hq⟩, q⟩ := q1
  subst e
  cases r1
  obtain ⟨its, rv, p, hz⟩ := I1.list hq
  refine wpAny_pyIter_list p.isList ?_
  refine ⟨s1.heap.objs.size, [s1.heap.objs.size], _, _, H1, rfl, I1.kept (t' := s1.toks) fun b o e => Heap.get?_push_of_some _ e, turn_list a _, ⟨_, Heap.get?_push_size _ rfl, rfl, rfl⟩, fun b hb => ?_, q⟩
  have e : b = s1.heap.objs.size := by simpa using hb
  subst e
  exact I1.fpOk (Nat.le_refl _) (I1.hok.fresh (Nat.le_refl _))
theorem range_it {pins : List (Addr × Obj)} {σ : St} {H : Hp} {s : Shared} {R : It → Hp → Prop} {E : Value → Shared → Prop} {lo hi : Int} {t u v : Tok} {tk : Nat} (I : Inv X pins σ H s) (h1 : -(2 ^ 62) ≤ lo) (h2 : lo < 2 ^ 62) (h3 : -(2 ^ 62) ≤ hi) (h4 : hi < 2 ^ 62)
    (q : R (Itr lo (hi - lo).toNat) H) : wpAny (model X.prog X.w) X.A (pyIter (.ref s.heap.objs.size)) (PIE X pins σ tg R) E { s with heap := s.heap.push { cls := .type "range", data := .fields #[.int lo t, .int hi u, .int 1 v] }, toks := tk } := by
  refine wpAny_pyIter_range (IsRange.new ..) (small_one h1 h2 h3 h4) ?_
  have I1 : Inv X pins σ H { s with heap := s.heap.push { cls := .type "range", data := .fields #[.int lo t, .int hi u, .int 1 v] }, toks := tk } := I.kept fun b o e => Heap.get?_push_of_some _ e
  refine ⟨(s.heap.push { cls := .type "range", data := .fields #[.int lo t, .int hi u, .int 1 v] }).objs.size, [(s.heap.push { cls := .type "range", data := .fields #[.int lo t, .int hi u, .int 1 v] }).objs.size], _, _, H, rfl,
    I1.kept (t' := tk) fun b o e => Heap.get?_push_of_some _ e, turn_range _ lo (hi - lo).toNat, ?_, fun b hb => ?_, q⟩
  · have e1 : lo + ((0 : Nat) : Int) * 1 = lo := by simp
    have e2 : (((hi - lo).toNat : Nat) : Int) - ((0 : Nat) : Int) = Builtin.Range.rangeSize lo hi 1 := by rw [rangeSize_one]; split <;> (first | lia | omega)
    show IsRangeIter _ _ (lo + ((0 : Nat) : Int) * 1) ((((hi - lo).toNat : Nat) : Int) - ((0 : Nat) : Int)) 1
    rw [e1, e2]
    exact Heap.get?_push_size _ rfl
  · have e : b = (s.heap.push { cls := .type "range", data := .fields #[.int lo t, .int hi u, .int 1 v] }).objs.size := by simpa using hb
    subst e
    exact I1.fpOk (Nat.le_refl _) (I1.hok.fresh (Nat.le_refl _))
def iRng1 (ta : TA) : TI := fun σ H R => ta σ H fun vs H1 => ∃ j : Int, vs = [.int j] ∧ -(2 ^ 62) ≤ j ∧ j < 2 ^ 62 ∧ R (Itr 0 j.toNat) H1
theorem pi_range1 {a : Expr} {ta : TA} {p pos : Pos} (hg : Gl X "range") (hm : X.mg "range" = none) (ha : PA X [a] ta) (hs : starEach [a] X.env = [(false, eval a X.env)] := by rfl) : PI X tg (.Call (.Name "range" p) [a] [] pos) (iRng1 ta) := by
  intro pins s σ H R I h
  refine Call_ (ld_blt I hg hm boot_range (PyProof.Rows.callWith_type1 (thn (ha pos pins s σ H _ I h) fun us s1 ⟨vs, H1, I1, r1, q1⟩ => ?_) hs rfl))
  obtain ⟨j, e, q1, q2, q⟩ := q1
  subst e
  cases r1 with
  | cons r rr =>
    cases rr
    obtain ⟨t, rfl⟩ := r
    exact call_range_1 (range_it I1 (by (first | lia | omega)) (by (first | lia | omega)) q1 q2 (by simpa using q))
def tFor (wi : TI) (g : TG) (tb : TS) : TS := fun D σ H => wi σ H fun J H1 => ∃ W : Nat → Nat → St → Hp → Prop, (∃ m, W 0 m σ H1) ∧ ∀ i m σ H, W i m σ H →
  (J.stop i H ∧ D.nx σ H) ∨ (J.go i H ∧ ∃ N : St → Hp → Prop, (∀ σ' H', N σ' H' → ∃ m', m' < m ∧ W (i + 1) m' σ' H') ∧ ∀ x H', J.yld i H x H' → g x σ H' fun σ2 H2 => tb { D with nx := N, ct := N, bk := D.nx } σ2 H2)
def pinsAt (fp : List Addr) (h : Heap) : List (Addr × Obj) := fp.filterMap fun b => (h.get? b).map fun o => (b, o)
theorem mem_pinsAt {fp : List Addr} {h : Heap} {b : Addr} {o : Obj} (hb : b ∈ fp) (e : h.get? b = some o) : (b, o) ∈ pinsAt fp h := List.mem_filterMap.mpr ⟨b, hb, by rw [e]; rfl⟩
theorem of_pinsAt {fp : List Addr} {h : Heap} {p : Addr × Obj} (hp : p ∈ pinsAt fp h) : p.1 ∈ fp ∧ h.get? p.1 = some p.2 := by
  obtain ⟨b, hb, e⟩ := List.mem_filterMap.mp hp
  cases q : h.get? b with
  | none => rw [q] at e; cases e
  | some o =>
    rw [q] at e
    have e' : (b, o) = p := Option.some.inj e
    subst e'
    exact ⟨hb, q⟩
theorem Inv.pinned {pins : List (Addr × Obj)} {σ : St} {H : Hp} {s : Shared} {fp : List Addr} (I : Inv X pins σ H s) (hf : ∀ b ∈ fp, FpOk X pins H b) (ho : ∀ b ∈ fp, ∃ o, s.heap.get? b = some o ∧ ∀ v, o.data ≠ .cell v) : Inv X (pins ++ pinsAt fp s.heap) σ H s :=
  I.pins_of fun p hp => (List.mem_append.mp hp).elim (fun z => I.pin p (List.mem_append_right _ z)) fun z => by
    obtain ⟨hb, e⟩ := of_pinsAt z
    obtain ⟨f0, f1, f2, _⟩ := hf p.1 hb
    obtain ⟨o, e', d⟩ := ho p.1 hb
    rw [e] at e'; cases e'
    exact ⟨e, f0, f1, f2, d⟩
theorem Inv.unpinned {pins pl : List (Addr × Obj)} {σ : St} {H : Hp} {s : Shared} (I : Inv X (pins ++ pl) σ H s) : Inv X pins σ H s := I.pins_of fun p hp => I.pin p (List.mem_append_right _ (List.mem_append_left _ hp))
theorem ps_for {iter : Expr} {body : List Stmt} {wi : TI} {g : TG} {tb : TS} {pos : Pos} (hp : PassesOwn (model X.prog X.w) X.A X.env X.xe) (hc : X.calm = true) (hi : PI X tg iter wi) (hg : PG X tg g) (hb : PSs X body tb)
    (hs : ∀ x, foldedSetIterable iter X.env x = pure x := by intro _; rfl) : PS X (.For tg iter body [] pos) (tFor wi g tb) := by
  intro pins s σ H D I h
  refine wpAny_For (thn (hi pins s σ H _ I h) fun v s1 h1 => thn h1 fun itv s2 h2 => ?_) hs
  obtain ⟨it, fp, tn, J, H2, e, I2, T, st2, f2, W, ⟨m0, w0⟩, turn⟩ := h2
  subst e
  -- what stays true of the iterator's objects through the loop
  have stat : ∀ {H' : Hp}, (∀ b ∈ fp, H' b = none) → ∀ b ∈ fp, FpOk X pins H' b := fun hn b hb => ⟨hn b hb, (f2 b hb).2⟩
  refine codeAny_forLoop_any (fun n s' => ∃ i σ' H', Inv X pins σ' H' s' ∧ tn i s'.heap ∧ (∀ b ∈ fp, H' b = none) ∧ W i n σ' H') ?_ m0 ⟨0, σ, H2, I2, st2, fun b hb => (f2 b hb).1, w0⟩
  rintro n s3 ⟨i, σ3, H3, I3, st3, fr3, w3⟩
  rcases turn i n σ3 H3 w3 with ⟨stop, qn⟩ | ⟨go, N, hN, step⟩
  · refine wpAny_passesOwn hp (thn (T.done X rfl rfl rfl hc i pins s3 σ3 H3 X.xe I3 (stat fr3) st3 stop) fun r s4 ⟨hr, I4⟩ => ?_)
    subst hr
    exact wpAny_execs_nil ⟨σ3, H3, I4, qn⟩
  · refine wpAny_passesOwn hp (thn (T.item X rfl rfl rfl hc i pins s3 σ3 H3 X.xe I3 (stat fr3) st3 go) fun r s4 ⟨u, hr, h4⟩ => ?_)
    subst hr
    refine wpAny_passesOwn hp (thn h4 fun _ s5 ⟨x, H5, I5, r5, y5, st5, fr5⟩ => ?_)
    have I5' := I5.pinned (stat fr5) (T.obj _ _ st5)
    refine wpAny_passesOwn hp (thn (hg _ s5 σ3 H5 x u _ I5' r5 (step x H5 y5)) fun _ s6 ⟨σ6, H6, I6, q6⟩ => ?_)
    refine wpAny_passesOwn hp (thn (hb _ s6 σ6 H6 _ I6 q6) fun f s7 q7 => ?_)
    have again : ∀ {σ7 : St} {H7 : Hp}, Inv X (pins ++ pinsAt fp s5.heap) σ7 H7 s7 → N σ7 H7 → ∃ m, m < n ∧ ∃ i σ' H', Inv X pins σ' H' s7 ∧ tn i s7.heap ∧ (∀ b ∈ fp, H' b = none) ∧ W i m σ' H' := fun {σ7 H7} I7 n7 => by
      obtain ⟨m', hm, w7⟩ := hN σ7 H7 n7
      refine ⟨m', hm, i + 1, σ7, H7, I7.unpinned, T.keep _ _ _ st5 fun b hb o e => (I7.pin (b, o) (List.mem_append_right _ (List.mem_append_right _ (mem_pinsAt hb e)))).1, fun b hb => ?_, w7⟩
      obtain ⟨o, e, d⟩ := T.obj _ _ st5 b hb
      exact (I7.pin (b, o) (List.mem_append_right _ (List.mem_append_right _ (mem_pinsAt hb e)))).2.1
    cases f with
    | next => obtain ⟨σ7, H7, I7, n7⟩ := q7; exact again I7 n7
    | cont => obtain ⟨σ7, H7, I7, n7⟩ := q7; exact again I7 n7
    | brk => obtain ⟨σ7, H7, I7, q7⟩ := q7; exact ⟨σ7, H7, I7.unpinned, q7⟩
    | ret v => obtain ⟨x7, σ7, H7, I7, r7, q7⟩ := q7; exact ⟨x7, σ7, H7, I7.unpinned, r7, q7⟩
end

theorem for_list {K : PySem.W.Frag} {a : Addr} {xs : List V} {g : TG} {tb : TS} {D : Ends} {σ : St} {H : Hp} (Pv : Nat → St → Hp → Prop) (h0 : Pv 0 σ H) (hl : ∀ i σ H, i ≤ xs.length → Pv i σ H → SqL K H a xs)
    (hs : ∀ i x σ H, xs[i]? = some x → Pv i σ H → g x σ H fun σ2 H2 => tb { D with nx := Pv (i + 1), ct := Pv (i + 1), bk := D.nx } σ2 H2) (hd : ∀ σ H, Pv xs.length σ H → D.nx σ H) :
    ∃ W : Nat → Nat → St → Hp → Prop, (∃ m, W 0 m σ H) ∧ ∀ i m σ H, W i m σ H →
      ((Itl K a).stop i H ∧ D.nx σ H) ∨ ((Itl K a).go i H ∧ ∃ N : St → Hp → Prop, (∀ σ' H', N σ' H' → ∃ m', m' < m ∧ W (i + 1) m' σ' H') ∧ ∀ x H', (Itl K a).yld i H x H' → g x σ H' fun σ2 H2 => tb { D with nx := N, ct := N, bk := D.nx } σ2 H2) := by
  refine ⟨fun i m σ H => m = xs.length - i ∧ i ≤ xs.length ∧ Pv i σ H, ⟨xs.length, by simp, Nat.zero_le _, h0⟩, ?_⟩
  rintro i m σ H ⟨rfl, hi, p⟩
  have q := hl i σ H hi p
  by_cases hlt : i < xs.length
  · refine .inr ⟨⟨xs, xs[i], q, by simp [hlt]⟩, Pv (i + 1), fun σ' H' p' => ⟨xs.length - (i + 1), by (first | lia | omega), rfl, hlt, p'⟩, fun x H' y => ?_⟩
    obtain ⟨e, y⟩ := y
    subst e
    exact hs i x σ _ (y xs q) p
  · have e : i = xs.length := by (first | lia | omega)
    subst e
    exact .inl ⟨⟨xs, q, Nat.le_refl _⟩, hd σ H p⟩
theorem for_range {lo : Int} {n : Nat} {g : TG} {tb : TS} {D : Ends} {σ : St} {H : Hp} (Pv : Nat → St → Hp → Prop) (h0 : Pv 0 σ H)
    (hs : ∀ i σ H, i < n → Pv i σ H → g (.int (lo + i)) σ H fun σ2 H2 => tb { D with nx := Pv (i + 1), ct := Pv (i + 1), bk := D.nx } σ2 H2) (hd : ∀ σ H, Pv n σ H → D.nx σ H) :
    ∃ W : Nat → Nat → St → Hp → Prop, (∃ m, W 0 m σ H) ∧ ∀ i m σ H, W i m σ H →
      ((Itr lo n).stop i H ∧ D.nx σ H) ∨ ((Itr lo n).go i H ∧ ∃ N : St → Hp → Prop, (∀ σ' H', N σ' H' → ∃ m', m' < m ∧ W (i + 1) m' σ' H') ∧ ∀ x H', (Itr lo n).yld i H x H' → g x σ H' fun σ2 H2 => tb { D with nx := N, ct := N, bk := D.nx } σ2 H2) := by
  refine ⟨fun i m σ H => m = n - i ∧ i ≤ n ∧ Pv i σ H, ⟨n, by simp, Nat.zero_le _, h0⟩, ?_⟩
  rintro i m σ H ⟨rfl, hi, p⟩
  by_cases hlt : i < n
  · refine .inr ⟨hlt, Pv (i + 1), fun σ' H' p' => ⟨n - (i + 1), by (first | lia | omega), rfl, hlt, p'⟩, fun x H' y => ?_⟩
    obtain ⟨e, y⟩ := y
    subst e y
    exact hs i σ _ hlt p
  · have e : i = n := by (first | lia | omega)
    subst e
    exact .inl ⟨Nat.le_refl _, hd σ H p⟩
end L2

namespace L2
open PySem PySem.Spec PyProof.Rows

abbrev R2 := V → V → Hp → VK → Prop
def OpR (X : Cx) (f : Value → Value → Sem Value) (r : R2) : Prop :=
  ∀ (pins : List (Addr × Obj)) (s : Shared) (σ : St) (H : Hp) (x y : V) (v u : Value) (Q : VK), Inv X pins σ H s → RelV x v → RelV y u → r x y H Q →
    wpAny (model X.prog X.w) X.A (f v u) (EP X pins σ Q) X.xe s
def UnR (X : Cx) (f : Value → Sem Value) (r : V → Hp → VK → Prop) : Prop :=
  ∀ (pins : List (Addr × Obj)) (s : Shared) (σ : St) (H : Hp) (x : V) (v : Value) (Q : VK), Inv X pins σ H s → RelV x v → r x H Q →
    wpAny (model X.prog X.w) X.A (f v) (EP X pins σ Q) X.xe s
def CallR (X : Cx) (f : Value) (r : List V → Hp → VK → Prop) : Prop :=
  ∀ (pins : List (Addr × Obj)) (s : Shared) (σ : St) (H : Hp) (xs : List V) (us : List Value) (Q : VK), Inv X pins σ H s → Vals xs us → r xs H Q →
    wpAny (model X.prog X.w) X.A (call f us) (EP X pins σ Q) X.xe s
def tOp (r : R2) (ta tb : TE) : TE := fun σ H Q => ta σ H fun x H1 => tb σ H1 fun y H2 => r x y H2 Q
def tUn (r : V → Hp → VK → Prop) (ta : TE) : TE := fun σ H Q => ta σ H fun x H1 => r x H1 Q
def rI (C : Int → Int → Prop) (g : Int → Int → V) : R2 := fun x y H Q => ∃ i j, x = .int i ∧ y = .int j ∧ C i j ∧ Q (g i j) H
def rI0 (g : Int → Int → V) : R2 := fun x y H Q => ∃ i j, x = .int i ∧ y = .int j ∧ Q (g i j) H
def rU (g : Int → V) : V → Hp → VK → Prop := fun x H Q => ∃ i, x = .int i ∧ Q (g i) H

section
variable {X : Cx} {a b c : Expr} {ta tb tc : TE} {pos : Pos}

theorem binT (ha : PE X a ta) (hb : PE X b tb) {pins : List (Addr × Obj)} {s : Shared} {σ : St} {H : Hp} {R : V → V → Hp → Prop} (I : Inv X pins σ H s)
    (h : ta σ H fun x H1 => tb σ H1 fun y H2 => R x y H2) {Q : Value → Shared → Prop} {f : Value → Value → Sem Value}
    (hf : ∀ v u s2 x y H2, Inv X pins σ H2 s2 → RelV x v → RelV y u → R x y H2 → wpAny (model X.prog X.w) X.A (f v u) Q X.xe s2) :
    wpAny (model X.prog X.w) X.A (eval a X.env) (fun v s₁ => wpAny (model X.prog X.w) X.A (eval b X.env) (fun u s₂ => wpAny (model X.prog X.w) X.A (f v u) Q X.xe s₂) X.xe s₁) X.xe s := by
  refine thn (ha pins s σ H _ I h) fun v s1 ⟨x, H1, I1, r1, q1⟩ => ?_
  refine thn (hb pins s1 σ H1 _ I1 q1) fun u s2 ⟨y, H2, I2, r2, q2⟩ => ?_
  exact hf v u s2 x y H2 I2 r1 r2 q2

theorem pe_op {op : Operator} {r : R2} (ho : OpR X (binaryOp op) r) (ha : PE X a ta) (hb : PE X b tb) : PE X (.BinOp a op b pos) (tOp r ta tb) := by
  intro pins s σ H Q I h
  exact wpAny_BinOp (binT ha hb I h fun v u s2 x y H2 I2 rx ry q => ho pins s2 σ H2 x y v u Q I2 rx ry q)
theorem pe_un {op : UnaryOp} {r : V → Hp → VK → Prop} (ho : UnR X (unaryOp op) r) (ha : PE X a ta) : PE X (.UnaryOp op a pos) (tUn r ta) := by
  intro pins s σ H Q I h
  exact UnaryOp_ (thn (ha pins s σ H _ I h) fun v s1 ⟨x, H1, I1, r1, q1⟩ => ho pins s1 σ H1 x v Q I1 r1 q1)
theorem opI {f : Value → Value → Sem Value} {C : Int → Int → Prop} {g : Int → Int → Int}
    (rule : ∀ (i j : Int) (t u : Tok) (s : Shared) (Q : Value → Shared → Prop) (E : Value → Shared → Prop), C i j → Q (.int (g i j) s.toks) { s with toks := s.toks + 1 } → wpAny (model X.prog X.w) X.A (f (.int i t) (.int j u)) Q E s) :
    OpR X f (rI C fun i j => .int (g i j)) := by
  intro pins s σ H x y v u Q I rx ry h
  obtain ⟨i, j, rfl, rfl, hc, q⟩ := h
  obtain ⟨t, rfl⟩ := rx
  obtain ⟨t', rfl⟩ := ry
  exact rule i j t t' s _ _ hc ⟨.int (g i j), H, I.tok _, ⟨_, rfl⟩, q⟩
theorem opI0 {f : Value → Value → Sem Value} {g : Int → Int → Int}
    (rule : ∀ (i j : Int) (t u : Tok) (s : Shared) (Q : Value → Shared → Prop) (E : Value → Shared → Prop), Q (.int (g i j) s.toks) { s with toks := s.toks + 1 } → wpAny (model X.prog X.w) X.A (f (.int i t) (.int j u)) Q E s) :
    OpR X f (rI0 fun i j => .int (g i j)) := by
  intro pins s σ H x y v u Q I rx ry h
  obtain ⟨i, j, rfl, rfl, q⟩ := h
  obtain ⟨t, rfl⟩ := rx
  obtain ⟨t', rfl⟩ := ry
  exact rule i j t t' s _ _ ⟨.int (g i j), H, I.tok _, ⟨_, rfl⟩, q⟩
theorem opB0 {f : Value → Value → Sem Value} {g : Int → Int → Bool}
    (rule : ∀ (i j : Int) (t u : Tok) (s : Shared) (Q : Value → Shared → Prop) (E : Value → Shared → Prop), Q (.bool (g i j)) s → wpAny (model X.prog X.w) X.A (f (.int i t) (.int j u)) Q E s) :
    OpR X f (rI0 fun i j => .bl (g i j)) := by
  intro pins s σ H x y v u Q I rx ry h
  obtain ⟨i, j, rfl, rfl, q⟩ := h
  obtain ⟨t, rfl⟩ := rx
  obtain ⟨t', rfl⟩ := ry
  exact rule i j t t' s _ _ ⟨.bl (g i j), H, I, rfl, q⟩

def CDiv (i j : Int) : Prop := 0 < j ∧ j < 1073741824
def CPow (i j : Int) : Prop := 0 ≤ j ∧ j ≤ 1000000 ∧ i.natAbs < 2 ^ 64
def CMul (i j : Int) : Prop := (-(2 ^ 64) < i ∧ i < 2 ^ 64) ∨ (-(2 ^ 64) < j ∧ j < 2 ^ 64)
theorem CMul.ok {i j : Int} (h : CMul i j) : IntMulOk i j := by
  rcases h with ⟨h1, h2⟩ | ⟨h1, h2⟩
  · exact .of_left (intBits_le_64 h1 h2)
  · exact .of_right (intBits_le_64 h1 h2)
theorem two_pow_nn (k : Nat) : (0 : Int) ≤ 2 ^ k := by
  rw [two_pow_cast]
  exact Int.natCast_nonneg _

theorem op_add : OpR X (binaryOp .Add) (rI0 fun i j => .int (i + j)) := opI0 fun _ _ _ _ _ _ _ q => add_int q
theorem op_sub : OpR X (binaryOp .Sub) (rI0 fun i j => .int (i - j)) := opI0 fun _ _ _ _ _ _ _ q => sub_int q
theorem op_mul : OpR X (binaryOp .Mult) (rI CMul fun i j => .int (i * j)) := opI fun _ _ _ _ _ _ _ hc q => mul_int q hc.ok
theorem op_fdiv : OpR X (binaryOp .FloorDiv) (rI CDiv fun i j => .int (i / j)) := opI fun i j _ _ _ _ _ hc q => by
  have h1 : (0 : Int) < j := hc.1
  have h2 : j < 1073741824 := hc.2
  exact floordiv_int (by (first | lia | omega)) (by rw [Int.fdiv_eq_ediv_of_nonneg i (by (first | lia | omega))]; exact q) (.inl (PyProof.noPylong_small (by (first | lia | omega))))
theorem op_mod : OpR X (binaryOp .Mod) (rI (fun _ j => 0 < j) fun i j => .int (i % j)) := opI fun i j _ _ _ _ _ hc q => by
  have h1 : (0 : Int) < j := hc
  exact mod_int' (by (first | lia | omega)) (by rw [Int.fmod_eq_emod_of_nonneg i (by (first | lia | omega))]; exact q)
theorem op_pow : OpR X (binaryOp .Pow) (rI CPow fun i j => .int (i ^ j.toNat)) := opI fun _ _ _ _ _ _ _ hc q => pow_int_small hc.1 hc.2.1 hc.2.2 q
theorem op_shl : OpR X (binaryOp .LShift) (rI CPow fun i j => .int (i * 2 ^ j.toNat)) := opI fun _ _ _ _ _ _ _ hc q => lshift_int_small hc.1 hc.2.1 hc.2.2 q
theorem op_shr : OpR X (binaryOp .RShift) (rI (fun _ j => 0 ≤ j) fun i j => .int (i / 2 ^ j.toNat)) := opI fun i j _ _ _ _ _ hc q =>
  rshift_int hc (by rw [Int.fdiv_eq_ediv_of_nonneg i (two_pow_nn _)]; exact q)
theorem op_and : OpR X (binaryOp .BitAnd) (rI0 fun i j => .int (Builtin.bitAnd i j)) := opI0 fun _ _ _ _ _ _ _ q => and_int q
theorem op_or : OpR X (binaryOp .BitOr) (rI0 fun i j => .int (Builtin.bitOr i j)) := opI0 fun _ _ _ _ _ _ _ q => or_int q
theorem op_xor : OpR X (binaryOp .BitXor) (rI0 fun i j => .int (Builtin.bitXor i j)) := opI0 fun _ _ _ _ _ _ _ q => xor_int q

theorem iop_add : OpR X (inplaceOp .Add) (rI0 fun i j => .int (i + j)) := opI0 fun _ _ _ _ _ _ _ q => iadd_int q
theorem iop_or : OpR X (inplaceOp .BitOr) (rI0 fun i j => .int (Builtin.bitOr i j)) := opI0 fun _ _ _ _ _ _ _ q => ior_int q
theorem iop_xor : OpR X (inplaceOp .BitXor) (rI0 fun i j => .int (Builtin.bitXor i j)) := opI0 fun _ _ _ _ _ _ _ q => ixor_int q

theorem unI {f : Value → Sem Value} {g : Int → Int}
    (rule : ∀ (i : Int) (t : Tok) (s : Shared) (Q : Value → Shared → Prop) (E : Value → Shared → Prop), Q (.int (g i) s.toks) { s with toks := s.toks + 1 } → wpAny (model X.prog X.w) X.A (f (.int i t)) Q E s) :
    UnR X f (rU fun i => .int (g i)) := by
  intro pins s σ H x v Q I rx h
  obtain ⟨i, rfl, q⟩ := h
  obtain ⟨t, rfl⟩ := rx
  exact rule i t s _ _ ⟨.int (g i), H, I.tok _, ⟨_, rfl⟩, q⟩
theorem un_neg : UnR X (unaryOp .USub) (rU fun i => .int (-i)) := unI fun _ _ _ _ _ q => neg_int q
end

def scal : V → V → Bool
  | .non, .non => true | .non, .int _ => true | .int _, .non => true | .non, .bl _ => true | .bl _, .non => true | .non, .str _ => true | .str _, .non => true
  | .int _, .int _ => true | .bl _, .bl _ => true | .str _, .str _ => true | .byt _, .byt _ => true
  | .int _, .str _ => true | .str _, .int _ => true | .bl _, .str _ => true | .str _, .bl _ => true
  | _, _ => false
def rEq : R2 := fun x y H Q => scal x y = true ∧ Q (.bl (decide (x = y))) H
def rNe : R2 := fun x y H Q => scal x y = true ∧ Q (.bl (!decide (x = y))) H

theorem dec_int {i j : Int} : decide (V.int i = V.int j) = (i == j) := by
  rw [Bool.eq_iff_iff]
  simp
theorem dec_bl {i j : Bool} : decide (V.bl i = V.bl j) = (i == j) := by
  rw [Bool.eq_iff_iff]
  simp
theorem dec_str {i j : Str} : decide (V.str i = V.str j) = (i == j) := by
  rw [Bool.eq_iff_iff]
  simp
theorem dec_byt {i j : Array UInt8} : decide (V.byt i = V.byt j) = (i.toList == j.toList) := by
  rw [Bool.eq_iff_iff]
  cases i
  cases j
  simp

section
variable {X : Cx} {a b c : Expr} {ta tb tc : TE} {pos : Pos}
theorem fin_bl {pins : List (Addr × Obj)} {σ : St} {H : Hp} {s : Shared} {Q : VK} {k k' : Bool} (I : Inv X pins σ H s) (q : Q (.bl k) H) (e : k = k') : EP X pins σ Q (.bool k') s := by
  subst e
  exact ⟨.bl k, H, I, rfl, q⟩
theorem op_eq : OpR X (compareOp .Eq) rEq := by
  intro pins s σ H x y v u Q I rx ry h
  obtain ⟨hs, q⟩ := h
  cases x with
  | non =>
    cases rx
    cases y with
    | non => cases ry; exact PySem.EqNone.eq_none_none (fin_bl I q (by simp))
    | bl j => cases ry; exact PySem.EqNone.eq_none_bool (fin_bl I q (by simp))
    | int j => obtain ⟨t', rfl⟩ := ry; exact PySem.EqNone.eq_none_int (fin_bl I q (by simp))
    | str j => obtain ⟨t', rfl⟩ := ry; exact PySem.EqNone.eq_none_str (fin_bl I q (by simp))
    | _ => exact absurd (show false = true from hs) Bool.false_ne_true
  | bl i =>
    cases rx
    cases y with
    | non => cases ry; exact PySem.EqNone.eq_bool_none (fin_bl I q (by simp))
    | bl j => cases ry; exact eq_bool (fin_bl I q dec_bl)
    | str j => obtain ⟨t', rfl⟩ := ry; exact PySem.EqMixed.eq_bool_str (fin_bl I q (by simp))
    | _ => exact absurd (show false = true from hs) Bool.false_ne_true
  | int i =>
    obtain ⟨t, rfl⟩ := rx
    cases y with
    | non => cases ry; exact PySem.EqNone.eq_int_none (fin_bl I q (by simp))
    | int j => obtain ⟨t', rfl⟩ := ry; exact eq_int (fin_bl I q dec_int)
    | str j => obtain ⟨t', rfl⟩ := ry; exact PySem.EqMixed.eq_int_str (fin_bl I q (by simp))
    | _ => exact absurd (show false = true from hs) Bool.false_ne_true
  | str i =>
    obtain ⟨t, rfl⟩ := rx
    cases y with
    | non => cases ry; exact PySem.EqNone.eq_str_none (fin_bl I q (by simp))
    | bl j => cases ry; exact PySem.EqMixed.eq_str_bool (fin_bl I q (by simp))
    | int j => obtain ⟨t', rfl⟩ := ry; exact PySem.EqMixed.eq_str_int (fin_bl I q (by simp))
    | str j => obtain ⟨t', rfl⟩ := ry; exact eq_str (fin_bl I q dec_str)
    | _ => exact absurd (show false = true from hs) Bool.false_ne_true
  | byt i =>
    obtain ⟨t, rfl⟩ := rx
    cases y with
    | byt j => obtain ⟨t', rfl⟩ := ry; exact PySem.W.eq_bytes (fin_bl I q dec_byt)
    | _ => exact absurd (show false = true from hs) Bool.false_ne_true
  | _ => cases y <;> exact absurd (show false = true from hs) Bool.false_ne_true
theorem op_ne : OpR X (compareOp .NotEq) rNe := by
  intro pins s σ H x y v u Q I rx ry h
  obtain ⟨hs, q⟩ := h
  cases x with
  | non =>
    cases rx
    cases y with
    | non => cases ry; exact PySem.EqNone.ne_none_none (fin_bl I q (by simp))
    | bl j => cases ry; exact PySem.EqNone.ne_none_bool (fin_bl I q (by simp))
    | int j => obtain ⟨t', rfl⟩ := ry; exact PySem.EqNone.ne_none_int (fin_bl I q (by simp))
    | str j => obtain ⟨t', rfl⟩ := ry; exact PySem.EqNone.ne_none_str (fin_bl I q (by simp))
    | _ => exact absurd (show false = true from hs) Bool.false_ne_true
  | bl i =>
    cases rx
    cases y with
    | non => cases ry; exact PySem.EqNone.ne_bool_none (fin_bl I q (by simp))
    | bl j => cases ry; exact ne_bool (fin_bl I q (congrArg not dec_bl))
    | str j => obtain ⟨t', rfl⟩ := ry; exact PySem.EqMixed.ne_bool_str (fin_bl I q (by simp))
    | _ => exact absurd (show false = true from hs) Bool.false_ne_true
  | int i =>
    obtain ⟨t, rfl⟩ := rx
    cases y with
    | non => cases ry; exact PySem.EqNone.ne_int_none (fin_bl I q (by simp))
    | int j => obtain ⟨t', rfl⟩ := ry; exact ne_int (fin_bl I q (congrArg not dec_int))
    | str j => obtain ⟨t', rfl⟩ := ry; exact PySem.EqMixed.ne_int_str (fin_bl I q (by simp))
    | _ => exact absurd (show false = true from hs) Bool.false_ne_true
  | str i =>
    obtain ⟨t, rfl⟩ := rx
    cases y with
    | non => cases ry; exact PySem.EqNone.ne_str_none (fin_bl I q (by simp))
    | bl j => cases ry; exact PySem.EqMixed.ne_str_bool (fin_bl I q (by simp))
    | int j => obtain ⟨t', rfl⟩ := ry; exact PySem.EqMixed.ne_str_int (fin_bl I q (by simp))
    | str j => obtain ⟨t', rfl⟩ := ry; exact ne_str (fin_bl I q (congrArg not dec_str))
    | _ => exact absurd (show false = true from hs) Bool.false_ne_true
  | byt i =>
    obtain ⟨t, rfl⟩ := rx
    cases y with
    | byt j => obtain ⟨t', rfl⟩ := ry; exact PySem.W.ne_bytes (fin_bl I q (congrArg not dec_byt))
    | _ => exact absurd (show false = true from hs) Bool.false_ne_true
  | _ => cases y <;> exact absurd (show false = true from hs) Bool.false_ne_true

theorem op_lt : OpR X (compareOp .Lt) (rI0 fun i j => .bl (decide (i < j))) := opB0 fun _ _ _ _ _ _ _ q => lt_int q
theorem op_le : OpR X (compareOp .LtE) (rI0 fun i j => .bl (decide (i ≤ j))) := opB0 fun _ _ _ _ _ _ _ q => le_int q
theorem op_gt : OpR X (compareOp .Gt) (rI0 fun i j => .bl (decide (j < i))) := opB0 fun _ _ _ _ _ _ _ q => gt_int q
theorem op_ge : OpR X (compareOp .GtE) (rI0 fun i j => .bl (decide (j ≤ i))) := opB0 fun _ _ _ _ _ _ _ q => ge_int q
theorem op_isN : OpR X (compareOp .Is) (fun x y H Q => y = .non ∧ Q (.bl (decide (x = .non))) H) := by
  intro pins s σ H x y v u Q I rx ry h
  obtain ⟨rfl, q⟩ := h
  cases ry
  refine is_none_gen (fin_bl I q ?_)
  cases x <;> first
    | (cases rx; rfl)
    | (obtain ⟨t, rfl⟩ := rx; rfl)
theorem nomark (b : Expr) {op : CmpOp} (h : op ≠ .In := by decide) (h2 : op ≠ .NotIn := by decide) : behindInMarks op b = false := by
  have e1 : (op == CmpOp.In) = false := by cases op <;> first | rfl | exact absurd rfl h
  have e2 : (op == CmpOp.NotIn) = false := by cases op <;> first | rfl | exact absurd rfl h2
  cases b <;> simp [behindInMarks, e1, e2]
theorem pe_cmpR {op : CmpOp} {r : R2} (ho : OpR X (compareOp op) r) (ha : PE X a ta) (hb : PE X b tb) (hm : behindInMarks op b = false) : PE X (.Compare a [op] [b] pos) (tOp r ta tb) := by
  intro pins s σ H Q I h
  exact wpAny_Compare1 (binT ha hb I h fun v u s2 x y H2 I2 rx ry q => ho pins s2 σ H2 x y v u Q I2 rx ry q) hm
def tTest (t : TE) : TT := fun σ H Q => t σ H fun x H' => ∃ k, x = .bl k ∧ Q k H'
theorem pt_cmpR {op : CmpOp} {r : R2} (ho : OpR X (compareOp op) r) (ha : PE X a ta) (hb : PE X b tb) (hm : behindInMarks op b = false) : PT X (.Compare a [op] [b] pos) (tTest (tOp r ta tb)) := by
  intro pins s σ H Q I h
  refine wpAny_isTrue_Compare1 (thn (ha pins s σ H _ I h) fun v s1 ⟨x, H1, I1, r1, q1⟩ => thn (hb pins s1 σ H1 _ I1 q1) fun u s2 ⟨y, H2, I2, r2, q2⟩ =>
    thn (ho pins s2 σ H2 x y v u _ I2 r1 r2 q2) fun c s3 ⟨z, H3, I3, r3, k, e, q3⟩ => ?_) hm
  subst e
  cases r3
  exact wpAny_truthy_bool ⟨H3, I3, q3⟩
theorem line63 : (sizeLine : Nat) < 2 ^ 63 := by rw [sizeLine_eq]; decide
theorem vals1 {x : V} {us : List Value} (r : Vals [x] us) : ∃ u, us = [u] ∧ RelV x u := by
  cases r with
  | cons r1 r2 => cases r2; exact ⟨_, rfl, r1⟩
theorem vals2 {x y : V} {us : List Value} (r : Vals [x, y] us) : ∃ u w', us = [u, w'] ∧ RelV x u ∧ RelV y w' := by
  cases r with
  | cons r1 r2 =>
    cases r2 with
    | cons r3 r4 => cases r4; exact ⟨_, _, rfl, r1, r3⟩
theorem call_max2 (hc : X.calm = true) : CallR X (.builtin "max") (fun xs H Q => ∃ i j, xs = [.int i, .int j] ∧ Q (.int (if j > i then j else i)) H) := by
  intro pins s σ H xs us Q I r h
  obtain ⟨i, j, rfl, q⟩ := h
  obtain ⟨u, w', rfl, ⟨t, rfl⟩, ⟨t', rfl⟩⟩ := vals2 r
  refine max_two_ints (I.ok.hd hc) fun h' tk k => ⟨_, H, I.kept k, ?_, q⟩
  by_cases hj : j > i
  · rw [if_pos hj, if_pos hj]; exact ⟨_, rfl⟩
  · rw [if_neg hj, if_neg hj]; exact ⟨_, rfl⟩
theorem call_min2 (hc : X.calm = true) : CallR X (.builtin "min") (fun xs H Q => ∃ i j, xs = [.int i, .int j] ∧ Q (.int (if j < i then j else i)) H) := by
  intro pins s σ H xs us Q I r h
  obtain ⟨i, j, rfl, q⟩ := h
  obtain ⟨u, w', rfl, ⟨t, rfl⟩, ⟨t', rfl⟩⟩ := vals2 r
  refine min_two_ints (I.ok.hd hc) fun h' tk k => ⟨_, H, I.kept k, ?_, q⟩
  by_cases hj : j < i
  · rw [if_pos hj, if_pos hj]; exact ⟨_, rfl⟩
  · rw [if_neg hj, if_neg hj]; exact ⟨_, rfl⟩
theorem call_int1 : CallR X (.type "int") (fun xs H Q => (∃ i, xs = [.int i] ∧ Q (.int i) H) ∨ ∃ k, xs = [.bl k] ∧ Q (.int (if k then 1 else 0)) H) := by
  intro pins s σ H xs us Q I r h
  rcases h with ⟨i, rfl, q⟩ | ⟨k, rfl, q⟩
  · obtain ⟨u, rfl, t, rfl⟩ := vals1 r
    exact call_int_int ⟨.int i, H, I, ⟨_, rfl⟩, q⟩
  · obtain ⟨u, rfl, r1⟩ := vals1 r
    cases r1
    exact call_int_bool ⟨.int (if k then 1 else 0), H, I.tok _, ⟨_, rfl⟩, q⟩
end
end L2

namespace L2
open PySem PySem.Spec PyProof.Rows

structure ObjM (h : Heap) (x dx C : Addr) (mA : Str → Option Value) : Prop where
  obj : h.get? x = some (PySem.W.instObj C dx)
  ns : h.Ns1 dx mA
  ne : dx ≠ x

theorem lookIn_ns {h : Heap} {dx : Addr} {mA : Str → Option Value} (n : h.Ns1 dx mA) : ∃ od, h.get? dx = some od ∧ ∀ name, PySem.W.lookIn name od = some (mA name) := by
  obtain ⟨o, es, ep, ho, hd, hk, _, hm⟩ := n
  refine ⟨o, ho, fun name => ?_⟩
  have e := hm name
  unfold nsFind findBy at e
  rw [← Array.find?_toList] at e
  unfold PySem.W.lookIn
  rw [hd]
  dsimp only
  split
  · rename_i y q
    rw [q] at e
    exact congrArg some e
  · rename_i q
    rw [q] at e
    have a : es.toList.any (·.refKey) = false := by
      rw [List.any_eq_false]
      intro y hy
      obtain ⟨z, t, hkey⟩ := hk y (Array.mem_toList_iff.mp hy)
      simp [DictEntry.refKey, hkey]
    have a' : ¬ es.toList.any (·.refKey) = true := by rw [a]; exact Bool.false_ne_true
    rw [if_neg a']
    exact congrArg some e

theorem ObjM.look {h : Heap} {x dx C : Addr} {mA : Str → Option Value} (I : ObjM h x dx C mA) : ∃ od, PySem.W.InstAt h x (PySem.W.instObj C dx) C (some od) ∧ ∀ name, PySem.W.lookIn name od = some (mA name) :=
  let ⟨od, ho, hl⟩ := lookIn_ns I.ns
  ⟨od, ⟨I.obj, rfl, rfl, ho⟩, hl⟩

section
variable {prog : Program} {w : World} {A : Around} {E : Value → Shared → Prop} {s : Shared} {K : PySem.W.Frag} {x dx C f : Addr} {mA : Str → Option Value} {name : Str} {v : Value}

end

theorem RelO.some_of {v : V} {o : Option Value} (r : RelO (some v) o) : ∃ u, o = some u ∧ RelV v u := by
  cases o with
  | none => exact (show False from r).elim
  | some u => exact ⟨u, rfl, r⟩
section
variable {P : Program} {w : World} {H H' : Hp} {h h' : Heap} {a C dx : Addr} {fs fs' : List (Str × V)}
theorem ins_get (hok : HOk P w H h) (e : H a = some (.ins C dx fs)) : ∃ mA, ObjM h a dx C mA ∧ (∀ f, RelO (fs.lookup f) (mA f)) ∧ PySem.Within mA (fs.map (·.1)) ∧ fs.length ≤ 1000 ∧ H dx = some (.own a) := by
  obtain ⟨d, z, ne, ob, mA, n, r, q⟩ := (show ObjOk P w H h a (.ins C dx fs) from hok a _ e)
  exact ⟨mA, ⟨ob, n, ne⟩, r, q, z, d⟩
end

structure Cls (K : PySem.W.Frag) (C : Addr) : Prop where
  pg : PySem.W.plainGet K C Str.empty = true
  hd : PySem.W.hasDictIn K C = true
  po : PySem.W.plainOver K C = true
  sa : PySem.W.findIn K (.ref C) "__setattr__" = some (some (.builtin "object.__setattr__"))
theorem Cls.get {K : PySem.W.Frag} {C : Addr} (c : Cls K C) (f : Str) : PySem.W.plainGet K C f = true := c.pg
section
variable {X : Cx} {pins : List (Addr × Obj)} {σ : St} {H : Hp} {s : Shared} {a C dx : Addr} {fs : List (Str × V)} {f : Str} {v : V} {A : Around} {E : Value → Shared → Prop}

end

section
variable {X : Cx} {o e value : Expr} {f : Str} {pos pos' tpos : Pos} {ta tv : TE}
end

section
variable {X : Cx} {pins : List (Addr × Obj)} {σ : St} {H : Hp} {s : Shared} {A : Around} {E : Value → Shared → Prop} {Q : Value → Shared → Prop} {c : Value} {b : Bool}
inductive TyOf (K : PySem.W.Frag) (H : Hp) : V → Value → Prop where
  | non : TyOf K H .non (.type "NoneType")
  | bl (x : Bool) : TyOf K H (.bl x) (.type "bool")
  | int (i : Int) : TyOf K H (.int i) (.type "int")
  | str (x : Str) : TyOf K H (.str x) (.type "str")
  | flt (x : UInt64) : TyOf K H (.flt x) (.type "float")
  | lst {a : Addr} {xs : List V} (e : H a = some (.lst xs)) : TyOf K H (.ref a) (.type "list")
  | frz {a : Addr} {o : Obj} {xs : List V} (e : H a = some (.frz o (.lst xs))) : TyOf K H (.ref a) (.type "list")
  | tup {a : Addr} {xs : List V} (e : H a = some (.tup xs)) : TyOf K H (.ref a) (.type "tuple")
  | dK {a : Addr} {kvs : List (Key × V)} (e : H a = some (.dK kvs)) : TyOf K H (.ref a) (.type "dict")
  | dT {a : Addr} {kvs : List (List Key × V)} (e : H a = some (.dT kvs)) : TyOf K H (.ref a) (.type "dict")
  | ins {a C dx : Addr} {fs : List (Str × V)} (e : H a = some (.ins C dx fs)) (cl : Cls K C) (ha : PySem.W.findIn K (.ref C) "__class__" = some (some (.builtin "object.__class__")))
      (hn : PySem.W.specialIn K (.builtin "object.__class__") "__get__" = some (some (.builtin "getset_descriptor.__get__"))) (htk : PySem.W.takesIn K (.builtin "object.__class__") = some true)
      (hm : PySem.W.mroIn K C (.type "object") = some true) : TyOf K H (.ref a) (.ref C)
theorem isinst_ok {x : V} {u t : Value} (I : Inv X pins σ H s) (rx : RelV x u) (ty : TyOf X.K H x t) (e : PySem.W.kitOne X.K t c = some b) (h : ∀ tk, Q (.bool b) { s with toks := tk }) :
    wpAny (model X.prog X.w) A (call (.builtin "isinstance") [u, c]) Q E s := by
  cases ty with
  | non => cases (show u = Value.none from rx); exact PySem.W.kia_one PySem.W.kitx_none I.kIn True.intro e (fun z => nomatch z) h
  | bl y => cases (show u = Value.bool y from rx); exact PySem.W.kia_one PySem.W.kitx_bool I.kIn True.intro e (fun z => nomatch z) h
  | int i => obtain ⟨t, q⟩ := (show ∃ t, u = Value.int i t from rx); cases q; exact PySem.W.kia_one PySem.W.kitx_int I.kIn True.intro e (fun z => nomatch z) h
  | str y => obtain ⟨t, q⟩ := (show ∃ t, u = Value.str y t from rx); cases q; exact PySem.W.kia_one PySem.W.kitx_str I.kIn True.intro e (fun z => nomatch z) h
  | flt y => obtain ⟨t, q⟩ := (show ∃ t, u = Value.float y t from rx); cases q; exact PySem.W.kia_one PySem.W.kitx_float I.kIn True.intro e (fun z => nomatch z) h
  | @lst a xs ea =>
    cases (show u = Value.ref a from rx)
    obtain ⟨_, _, n, _, h1⟩ := (show ObjOk X.prog X.w H s.heap a (.lst xs) from I.hok a _ ea)
    exact PySem.W.kia_one PySem.W.kitx_list I.kIn ⟨_, h1, rfl⟩ e (fun z => nomatch z) h
  | @frz a ob xs ea =>
    cases (show u = Value.ref a from rx)
    obtain ⟨_, _, _, n, _, h1⟩ := (show ObjOk X.prog X.w H s.heap a (.frz ob (.lst xs)) from I.hok a _ ea)
    exact PySem.W.kia_one PySem.W.kitx_list I.kIn ⟨_, h1, rfl⟩ e (fun z => nomatch z) h
  | @tup a xs ea =>
    cases (show u = Value.ref a from rx)
    obtain ⟨_, _, _, p⟩ := (show ObjOk X.prog X.w H s.heap a (.tup xs) from I.hok a _ ea)
    obtain ⟨o, h1, h2, _⟩ := p
    exact PySem.W.kia_one PySem.W.kitx_tuple I.kIn ⟨o, h1, h2⟩ e (fun z => nomatch z) h
  | @dK a kvs ea =>
    cases (show u = Value.ref a from rx)
    obtain ⟨_, _, vs, _, p⟩ := (show ObjOk X.prog X.w H s.heap a (.dK kvs) from I.hok a _ ea)
    obtain ⟨o, es, ep, h1, h2, _⟩ := p
    exact PySem.W.kia_one PySem.W.kitx_dict I.kIn ⟨o, h1, h2.1⟩ e (fun z => nomatch z) h
  | @dT a kvs ea =>
    cases (show u = Value.ref a from rx)
    obtain ⟨_, _, xs, _, o, es, ep, h1, h2, _⟩ := (show ObjOk X.prog X.w H s.heap a (.dT kvs) from I.hok a _ ea)
    exact PySem.W.kia_one PySem.W.kitx_dict I.kIn ⟨o, h1, h2.1⟩ e (fun z => nomatch z) h
  | @ins a C dx fs ea cl ha hn htk hm =>
    cases (show u = Value.ref a from rx)
    obtain ⟨mA, O, _⟩ := ins_get I.hok ea
    obtain ⟨od, J, _⟩ := O.look
    exact PySem.W.kia_one (PySem.W.kitx_own (cl.get _) cl.hd ha hn htk hm) I.kIn J e (fun z => nomatch z) h
end
end L2

namespace L2
open PySem PySem.Spec PyProof.Rows

structure Room (k : Nat) (A : Around) : Prop where
  hd : A.handled = none
  dp : A.depth + 3 * k + 5 < recursionLimit
  un : A.units + 16 * k + 200 < cLine
theorem Room.mono {j k : Nat} {A : Around} (r : Room k A) (h : j ≤ k) : Room j A := ⟨r.hd, by have := r.dp; (first | lia | omega), by have := r.un; (first | lia | omega)⟩
theorem Room.deeper {k : Nat} {A : Around} (r : Room (k + 1) A) (env : Env) : Room k (A.deeper env) :=
  ⟨r.hd, by have := r.dp; show A.depth + 1 + 3 * k + 5 < _; (first | lia | omega), by have := r.un; show A.units + 3 + 16 * k + 200 < _; (first | lia | omega)⟩
theorem Room.depth {k : Nat} {A : Around} (r : Room k A) : A.depth < recursionLimit := by have := r.dp; (first | lia | omega)
theorem Room.units {k : Nat} {A : Around} (r : Room k A) : A.units + 64 < cLine := by have := r.un; (first | lia | omega)
def tNil : TA := fun _ H Q => Q [] H
def tCons (ta : TE) (tr : TA) : TA := fun σ H Q => ta σ H fun x H1 => tr σ H1 fun xs H2 => Q (x :: xs) H2
section
variable {X : Cx} {e : Expr} {es : List Expr} {te : TE} {t : TA} {pos : Pos}
theorem pa_nil : PA X [] tNil := fun _ _ _ _ H Q I h => Calls.spliced_nil ⟨[], H, I, .nil, h⟩
theorem pa_cons (ha : PE X e te) (hr : PA X es t) (hs : starEach (e :: es) X.env = (false, eval e X.env) :: starEach es X.env := by rfl) : PA X (e :: es) (tCons te t) := by
  intro pos pins s σ H Q I h
  rw [hs]
  show wpAny _ _ (spliced ((false, eval e X.env) :: backTo pos (starEach es X.env))) _ _ s
  refine Calls.spliced_cons (thn (ha pins s σ H _ I h) fun u s1 ⟨x, H1, I1, r1, q1⟩ => ?_)
  exact thn (hr pos pins s1 σ H1 _ I1 q1) fun us s2 ⟨xs, H2, I2, r2, q2⟩ => ⟨x :: xs, H2, I2, .cons r1 r2, q2⟩

def tTup (t : TA) : TE := fun σ H Q => t σ H fun xs H1 => xs.length ≤ sizeLine ∧ ∀ p, H1 p = none → Q (.ref p) (upd H1 p (.tup xs))
def tLst (t : TA) : TE := fun σ H Q => t σ H fun xs H1 => xs.length ≤ sizeLine ∧ ∀ p, H1 p = none → Q (.ref p) (upd H1 p (.lst xs))
theorem pe_tup {x1} (h : PA X es t) : PE X (.Tuple es x1 pos) (tTup t) := by
  intro pins s σ H Q I hq
  refine wpAny_Tuple_spliced (thn (h pos pins s σ H _ I hq) fun us s1 ⟨xs, H1, I1, r, z, q⟩ => ⟨by rw [← r.length]; exact z, ?_⟩)
  have hf : H1 s1.heap.objs.size = none := I1.hok.fresh (Nat.le_refl _)
  refine ⟨.ref s1.heap.objs.size, upd H1 s1.heap.objs.size (.tup xs), I1.laid (t' := s1.toks) (fun b u e => Heap.get?_push_of_some _ e) (Nat.le_refl _) ?_, rfl, q _ hf⟩
  exact ⟨z, us, r, ⟨_, Heap.get?_push_size _ rfl, rfl, _, rfl⟩⟩
theorem pe_lst (h : PA X es t) : PE X (.List es pos) (tLst t) := by
  intro pins s σ H Q I hq
  refine wpAny_List_spliced (thn (h pos pins s σ H _ I hq) fun us s1 ⟨xs, H1, I1, r, z, q⟩ => ⟨by rw [← r.length]; exact z, ?_⟩)
  have hf : H1 s1.heap.objs.size = none := I1.hok.fresh (Nat.le_refl _)
  refine ⟨.ref s1.heap.objs.size, upd H1 s1.heap.objs.size (.lst xs), I1.laid (t' := s1.toks) (fun b u e => Heap.get?_push_of_some _ e) (Nat.le_refl _) ?_, rfl, q _ hf⟩
  exact ⟨z, us, 0, r, Heap.get?_push_size _ rfl⟩
end

abbrev Sp := List V → Hp → VK → XK → Prop
abbrev CXT := List Env → Hp → Shared → XK → Value → Shared → Prop

structure Env0 (P : Program) (w : World) (K : PySem.W.Frag) (mg : Str → Option Value) (base : Heap) (A : Around) (outer : List Env) (s : Shared) (H : Hp) : Prop where
  frames : A.frames = some outer
  mod : Mod K mg base
  bs : ∀ b o, base.get? b = some o → s.heap.get? b = some o ∧ H b = none
  bsz : base.objs.size ≤ s.heap.objs.size
  funs : s.heap.FunFrames base outer
  frf : ∀ b ∈ frs outer, H b = none
  hok : HOk P w H s.heap
  bare : AllBare s.gens
def CE (outer : List Env) (P : Program) (w : World) (H : Hp) (s : Shared) (Q : VK) (u : Value) (s' : Shared) : Prop :=
  ∃ v H', s'.os = s.os ∧ AllBare s'.gens ∧ Un (frs outer) [] H H' s.heap s'.heap ∧ HOk P w H' s'.heap ∧ RelV v u ∧ Q v H'
def CR (CX : CXT) (outer : List Env) (P : Program) (w : World) (H : Hp) (s : Shared) (Q : VK) (E : XK) (r : Result) (s' : Shared) : Prop :=
  match r with
  | .ok (.ret u) => CE outer P w H s Q u s'
  | .ok _ => False
  | .error e => CX outer H s E e s'
structure FnOk (P : Program) (w : World) (K : PySem.W.Frag) (mg : Str → Option Value) (base : Heap) (CX : CXT) (k : Nat) (f : Addr) (fd : FuncData) (ps : List Str) (sp : Sp) : Prop where
  len : ∀ vs H Q E, sp vs H Q E → vs.length = ps.length
  run : ∀ (A : Around) (outer : List Env) (s : Shared) (H : Hp) (args : Args) (us : List Value) (vs : List V) (Q : VK) (E : XK), Room k A → Env0 P w K mg base A outer s H → BindsTo s fd args (ps.zip us) → Vals vs us → sp vs H Q E →
    codeAny (model P w) A (.call (.ref f) args) (CR CX outer P w H s Q E) s
section
variable {X : Cx} {pins : List (Addr × Obj)} {σ : St} {H : Hp} {s s' : Shared}
theorem Inv.env0 (I : Inv X pins σ H s) : Env0 X.prog X.w X.K X.mg X.base X.A X.stack s H :=
  ⟨I.ok.frames, I.ok.mod, I.bs, Nat.le_trans I.ok.bsz I.sz, I.stack, I.stkFree, I.hok, I.bare⟩
theorem Inv.after {Q : VK} {u : Value} (I : Inv X pins σ H s) (h : CE X.stack X.prog X.w H s Q u s') : EP X pins σ Q u s' := by
  obtain ⟨v, H', os, bare, un, hok, r, q⟩ := h
  obtain ⟨hh, g, d, t, os'⟩ := s'
  obtain rfl : os' = s.os := os
  exact ⟨v, H', I.call (h' := hh) (g' := g) (d' := d) (t' := t) (ch := []) un hok bare (fun b z => absurd z (by simp)), r, q⟩
end

def tCall (sp : Sp) (dvs : List V) (E : XK) (t : TA) : TE := fun σ H Q => t σ H fun vs H1 => sp (vs ++ dvs) H1 Q E
def Binds (K : PySem.W.Frag) (fd : FuncData) (ps : List Str) (ds : List Value) : Prop :=
  ∀ (s : Shared) (us : List Value), K.In s.heap → (us ++ ds).length = ps.length → BindsTo s fd ⟨us, []⟩ (ps.zip (us ++ ds))
theorem Binds.all {K : PySem.W.Frag} {fd : FuncData} {ps : List Str} (h : ∀ us : List Value, us.length = ps.length → bindArgs fd ⟨us, []⟩ = pure (ps.zip us)) : Binds K fd ps [] := fun s us _ hl => by
  rw [List.append_nil] at hl ⊢
  exact .of_eq (h us hl)

def Passes (CX : CXT) (X : Cx) (E : XK) : Prop := ∀ (pins : List (Addr × Obj)) (σ : St) (H : Hp) (s : Shared) (e : Value) (s' : Shared), Inv X pins σ H s → CX X.stack H s E e s' → X.xe e s'

section
variable {X : Cx} {CX : CXT} {k : Nat} {f C : Addr} {fd : FuncData} {ps : List Str} {sp : Sp} {dvs : List V} {ds : List Value} {E : XK} {x m : Str} {p pos apos : Pos} {e o : Expr} {es : List Expr} {ta : TE} {t : TA}

theorem run_fn {pins : List (Addr × Obj)} {σ : St} {H : Hp} {s : Shared} {Q : VK} {us : List Value} {vs : List V} (F : FnOk X.prog X.w X.K X.mg X.base CX k f fd ps sp) (hr : Room k X.A) (hb : Binds X.K fd ps ds) (hd : Vals dvs ds) (hx : Passes CX X E)
    (I : Inv X pins σ H s) (r : Vals vs us) (h : sp (vs ++ dvs) H Q E) : wpAny (model X.prog X.w) X.A (call (.ref f) us) (EP X pins σ Q) X.xe s := by
  have r2 : Vals (vs ++ dvs) (us ++ ds) := r.append hd
  have hl : (us ++ ds).length = ps.length := by rw [← r2.length]; exact F.len _ _ _ _ h
  refine wpAny_call (codeAny_mono (F.run X.A X.stack s H ⟨us, []⟩ (us ++ ds) (vs ++ dvs) Q E hr I.env0 (hb s us I.kIn hl) r2 h) fun r s' hq => ?_)
  cases r with
  | error e => exact hx pins σ H s e s' I hq
  | ok fl =>
    cases fl with
    | ret u => exact I.after hq
    | next => exact False.elim hq
    | brk => exact False.elim hq
    | cont => exact False.elim hq

theorem pe_call (F : FnOk X.prog X.w X.K X.mg X.base CX k f fd ps sp) (hr : Room k X.A) (hg : Gl X x) (hm : X.mg x = some (.ref f)) (hk : PySem.W.keepIn X.K (.ref f) = true) (hb : Binds X.K fd ps ds) (hd : Vals dvs ds) (hx : Passes CX X E)
    (ha : PA X (e :: es) t) (hdb : (x == ("__debug__" : Str)) = false := by decide) (he : starEach (e :: es) X.env = (false, eval e X.env) :: starEach es X.env := by rfl) (hpl : (backTo pos (starEach es X.env)).any (·.1) = false := by rfl) :
    PE X (.Call (.Name x p) (e :: es) [] pos) (tCall sp dvs E t) := by
  intro pins s σ H Q I h
  refine wpAny_Call_Name_kw (ld_glob I hg hm ?_ hdb)
  refine PySem.W.callWith_K (h₀ := X.base) I.ok.mod.kin hk (thn (ha pos pins s σ H _ I h) fun us s1 ⟨vs, H1, I1, r, q⟩ => ⟨I1.kIn, ?_⟩) he hpl
  exact run_fn F hr hb hd hx I1 r q
end

section
variable {X : Cx} {CX : CXT} {k : Nat} {f C : Addr} {fd : FuncData} {ps ks : List Str} {sp : Sp} {E : XK} {x m : Str} {p pos apos kpos : Pos} {e o : Expr} {es : List Expr} {kws : List Keyword} {te ta : TE} {t tk : TA} {nm : Option Str}
variable {g : List Value → List Value → List Value} {gV : List V → List V → List V}
end

structure FnScope (N P : List Str) (sc : Scope) : Prop where
  kind : sc.kind = .function
  co : sc.isCoroutine = false
  gen : sc.isGenerator = false
  nd : N.Nodup
  pre : N.take P.length = P
  par : ∀ x ∈ P, sc.names.lookup x = some .local ∨ sc.names.lookup x = some .cell
  nofree : ∀ y ∈ sc.names, y.2 ≠ .free

theorem bindL_out {kindOf : Str → Option NameKind} {x : Str} : ∀ {binds : List (Str × Value)} {m : Str → Option Value}, (∀ v, (x, v) ∉ binds) → bindL kindOf binds m x = m x
  | [], _, _ => rfl
  | (n, v) :: r, m, h => by
    unfold bindL
    rw [bindL_out fun w hw => h w (List.mem_cons_of_mem _ hw)]
    split
    · have : x ≠ n := by rintro rfl; exact h v List.mem_cons_self
      simp [this]
    · rfl
theorem bindC_out {kindOf : Str → Option NameKind} {x : Str} : ∀ {binds : List (Str × Value)} {m : Str → Option Value}, (∀ v, (x, v) ∉ binds) → bindC kindOf binds m x = m x
  | [], _, _ => rfl
  | (n, v) :: r, m, h => by
    unfold bindC
    rw [bindC_out fun w hw => h w (List.mem_cons_of_mem _ hw)]
    split
    · rfl
    · have : x ≠ n := by rintro rfl; exact h v List.mem_cons_self
      simp [this]
theorem bindL_get {kindOf : Str → Option NameKind} {x : Str} {v : Value} : ∀ {P : List Str} {vs : List Value} {i : Nat} {m : Str → Option Value}, P.Nodup → P[i]? = some x → vs[i]? = some v → kindOf x = some .local →
    bindL kindOf (P.zip vs) m x = some v
  | [], _, _, _, _, h, _, _ => by simp at h
  | _ :: _, [], _, _, _, _, h, _ => by simp at h
  | p :: P, w :: vs, 0, m, nd, h1, h2, hk => by
    simp at h1 h2; subst h1; subst h2
    show bindL kindOf ((p, w) :: P.zip vs) m p = _
    unfold bindL
    rw [bindL_out fun v hv => (List.nodup_cons.mp nd).1 (List.of_mem_zip hv).1, if_pos hk]
    simp
  | p :: P, w :: vs, i + 1, m, nd, h1, h2, hk => by
    show bindL kindOf ((p, w) :: P.zip vs) m x = _
    unfold bindL
    exact bindL_get (i := i) (List.nodup_cons.mp nd).2 (by simpa using h1) (by simpa using h2) hk
theorem bindC_get {kindOf : Str → Option NameKind} {x : Str} {v : Value} : ∀ {P : List Str} {vs : List Value} {i : Nat} {m : Str → Option Value}, P.Nodup → P[i]? = some x → vs[i]? = some v → kindOf x ≠ some .local →
    bindC kindOf (P.zip vs) m x = some v
  | [], _, _, _, _, h, _, _ => by simp at h
  | _ :: _, [], _, _, _, _, h, _ => by simp at h
  | p :: P, w :: vs, 0, m, nd, h1, h2, hk => by
    simp at h1 h2; subst h1; subst h2
    show bindC kindOf ((p, w) :: P.zip vs) m p = _
    unfold bindC
    rw [bindC_out fun v hv => (List.nodup_cons.mp nd).1 (List.of_mem_zip hv).1, if_neg hk]
    simp
  | p :: P, w :: vs, i + 1, m, nd, h1, h2, hk => by
    show bindC kindOf ((p, w) :: P.zip vs) m x = _
    unfold bindC
    exact bindC_get (i := i) (List.nodup_cons.mp nd).2 (by simpa using h1) (by simpa using h2) hk

def start (N : List Str) (vs : List V) : St := vs.map some ++ List.replicate (N.length - vs.length) none

def cxOf (CX : CXT) (P : Program) (w : World) (K : PySem.W.Frag) (mg : Str → Option Value) (base : Heap) (N : List Str) (qual : Str) (scope : Scope) (f : Addr) (cd : Value) (A : Around) (outer : List Env) (s : Shared) (H : Hp) (E : XK) : Cx where
  prog := P
  w := w
  K := K
  mg := mg
  base := base
  A := A.deeper (envOfC qual scope s.heap.objs.size f cd)
  N := N
  s₀ := s
  H₀ := H
  env := envOfC qual scope s.heap.objs.size f cd
  outer := outer
  stack := envOfC qual scope s.heap.objs.size f cd :: outer
  ex := []
  calm := true
  fn := fun _ => true
  pn := []
  xe := fun e s' => wpAny (model P w) (A.deeper (envOfC qual scope s.heap.objs.size f cd)) (leaving (envOfC qual scope s.heap.objs.size f cd) e) (fun _ s'' => CX outer H s E e s'') (fun e' s'' => CX outer H s E e' s'') s'

theorem cell_has {sc : Scope} {n : Nat} {x : Str} (h : sc.names.lookup x = some .cell) : ∃ c, (cellsFrom n sc.names []).lookup x = some c := by
  have q := PySem.W.cellsFrom_some sc.names n [] (.inl h)
  exact Option.isSome_iff_exists.mp q

theorem inv_start {CX : CXT} {P : Program} {w : World} {K : PySem.W.Frag} {mg : Str → Option Value} {base : Heap} {N ps : List Str} {qual : Str} {scope : Scope} {f : Addr} {cd : Value} {A : Around} {outer : List Env} {s s1 : Shared} {H : Hp} {E : XK} {us : List Value} {vs : List V}
    (S : FnScope N ps scope) (hd : A.handled = none) (e0 : Env0 P w K mg base A outer s H) (hl : vs.length = ps.length) (r : Vals vs us)
    (x : InCallC s s.heap.objs.size (bindL (envOfC qual scope s.heap.objs.size f cd).kindOf (ps.zip us) fun _ => none) (cellsFrom (s.heap.objs.size + 1) scope.names []) (bindC (envOfC qual scope s.heap.objs.size f cd).kindOf (ps.zip us) fun _ => none) s1) :
    Inv (cxOf CX P w K mg base N qual scope f cd A outer s H E) [] (start N vs) H s1 := by
  have hpl : ps.length ≤ N.length := by have := congrArg List.length S.pre; rw [List.length_take] at this; (first | lia | omega)
  obtain ⟨h1, tk, rfl, hk⟩ := x.done
  have noA : ∀ b : Addr, b ∉ (cxOf CX P w K mg base N qual scope f cd A outer s H E).ex := fun b z => absurd (show b ∈ ([] : List Addr) from z) (by simp)
  refine ⟨⟨e0.mod, S.kind, rfl, rfl, Nat.le_refl _, fun y z c h1 h2 => ?_, fun y hy => ?_, fun y c _ h => ?_, fun _ => hd, Around.frames_deeper e0.frames, .inr ⟨rfl, rfl⟩, fun b z => absurd z (noA b), e0.bs, e0.bsz, fun b _ _ => noA b, fun b z => absurd z (noA b), e0.funs, e0.frf⟩,
    rfl, e0.bare, Un.kept hk, ⟨_, x.toInCall.ns, fun i y v h1 h2 h3 => ?_⟩, fun y c h => ⟨_, x.cell y c h⟩, e0.hok.fresh (Nat.le_refl _), fun y c h => ?_, fun p hp => absurd (show p ∈ ([] : List (Addr × Obj)) from hp) (by simp), e0.hok.kept hk, ?_⟩
  · exact name_of_addr x.apart (PySem.mem_of_lookup h1) (PySem.mem_of_lookup h2)
  · have hy : scope.names.lookup y = some .cell ∨ scope.names.lookup y = some .free := hy
    rcases hy with hy | hy
    · exact cell_has hy
    · exact absurd rfl (S.nofree _ (PySem.mem_of_lookup hy))
  · exact Nat.le_of_lt (x.above y c (PySem.mem_of_lookup h))
  · have hi : i < vs.length := by
      unfold start at h2
      by_cases hi : i < vs.length
      · exact hi
      · rw [List.getElem?_append_right (by simpa using hi)] at h2
        rw [List.getElem?_replicate] at h2
        split at h2 <;> cases h2
    have ha : vs[i]? = some v := by
      unfold start at h2
      rw [List.getElem?_append_left (by simpa using hi), List.getElem?_map] at h2
      cases e : vs[i]? with
      | none => rw [e] at h2; cases h2
      | some a => rw [e] at h2; cases h2; rfl
    obtain ⟨u, hu, rv⟩ := r.get ha
    have hp : ps[i]? = some y := by
      rw [← S.pre, List.getElem?_take_of_lt (by (first | lia | omega))]; exact h1
    have ndP : ps.Nodup := by rw [← S.pre]; exact S.nd.sublist (List.take_sublist _ _)
    refine ⟨u, rv, ?_⟩
    rcases S.par y (List.mem_of_getElem? hp) with k | k
    · exact .inl ⟨k, bindL_get ndP hp hu k⟩
    · obtain ⟨c, e⟩ := cell_has (n := s.heap.objs.size + 1) k
      refine .inr ⟨.inl k, c, e, ?_⟩
      have q := x.cell y c e
      rw [bindC_get ndP hp hu (by show scope.names.lookup y ≠ _; rw [k]; decide)] at q
      exact q
  · exact e0.hok.fresh (Nat.le_of_lt (x.above y c (PySem.mem_of_lookup h)))
  · unfold start
    show _ = N.length
    rw [List.length_append, List.length_map, List.length_replicate]
    (first | lia | omega)

theorem fn_of {CX : CXT} {P : Program} {w : World} {K : PySem.W.Frag} {mg : Str → Option Value} {base : Heap} {k : Nat} {f : Addr} {name qual : Str} {params : Arguments} {body : List Stmt} {scope : Scope} {dV kV doc pm cdv ct oc : Value} {an od : Option Addr}
    {osl : Array (Option Value)} {N ps : List Str} {sp : Sp} (lk : K.lookup f = some ⟨oc, od, .func (PySem.W.fnOf name qual params body scope dV kV doc pm an cdv ct), osl⟩) (hcd : PySem.W.codeIn K cdv qual = true) (S : FnScope N ps scope)
    (len : ∀ vs H Q E, sp vs H Q E → vs.length = ps.length)
    (hbody : ∀ (A : Around) (outer : List Env) (s : Shared) (H : Hp) (vs : List V) (Q : VK) (E : XK), Room k (A.deeper (envOfC qual scope s.heap.objs.size f cdv)) → sp vs H Q E →
      ∃ t, PSs (cxOf CX P w K mg base N qual scope f cdv A outer s H E) body t ∧ t { nx := fun _ H' => Q .non H', rt := Q } (start N vs) H) :
    FnOk P w K mg base CX (k + 1) f (PySem.W.fnOf name qual params body scope dV kV doc pm an cdv ct) ps sp := by
  refine ⟨len, fun A outer s H args us vs Q E hr e0 hb r hsp => ?_⟩
  have hl := len _ _ _ _ hsp
  have KX : K.In s.heap := e0.mod.kin.keeps fun b o e => (e0.bs b o e).1
  have lim : s.heap.NoLimit := e0.mod.nolimit.keeps fun b o e => (e0.bs b o e).1
  have hkind : ∀ y ∈ ps.zip us, scope.names.lookup y.1 = some .local ∨ (scope.names.lookup y.1 = some .cell ∧ ((cellsFrom (s.heap.objs.size + 1) scope.names []).lookup y.1).isSome = true) := fun ⟨n, v⟩ hy => by
    rcases S.par n (List.of_mem_zip hy).1 with q | q
    · exact .inl q
    · exact .inr ⟨q, PySem.W.cellsFrom_some _ _ _ (.inl q)⟩
  refine codeAny_call_function hr.depth (KX _ _ lk) rfl S.co S.gen rfl (PySem.W.codeRec_of KX hcd) (hb _ _ _ _ ?_)
  refine wpAny_newFunctionEnv_cells S.kind hkind fun env he s1 x => ?_
  subst he
  refine ⟨lim.keeps x.toInCall.keep, codeAny_func ?_⟩
  obtain ⟨t, ht, hq⟩ := hbody A outer s H vs Q E (hr.deeper _) hsp
  have I : Inv (cxOf CX P w K mg base N qual scope f cdv A outer s H E) [] (start N vs) H s1 := inv_start S hr.hd e0 hl r x
  refine wpAny_mono (ht [] s1 (start N vs) H _ I hq) (fun fl s' hs => ?_) fun e s' hs => hs
  have fin : ∀ {σ' : St} {H' : Hp} {v : V} {u : Value}, Inv (cxOf CX P w K mg base N qual scope f cdv A outer s H E) [] σ' H' s' → RelV v u → Q v H' → CE outer P w H s Q u s' :=
    fun {σ' H' v u} J rv q => ⟨v, H', J.os, J.bare, J.base, J.hok, rv, q⟩
  cases fl with
  | ret u =>
    obtain ⟨v, σ', H', J, rv, q⟩ := hs
    exact fin J rv q
  | next =>
    obtain ⟨σ', H', J, q⟩ := hs
    exact fin (v := V.non) (u := Value.none) J rfl q
  | brk =>
    obtain ⟨_, _, _, q⟩ := hs
    exact False.elim q
  | cont =>
    obtain ⟨_, _, _, q⟩ := hs
    exact False.elim q
end L2

namespace L2
open PySem PySem.Spec PyProof.Rows
section
variable {X : Cx} {x : Str} {p pos : Pos} {e : Expr} {es : List Expr} {t : TA} {id T : String} {r : List V → Hp → VK → Prop}

def tCB (r : List V → Hp → VK → Prop) (t : TA) : TE := fun σ H Q => t σ H fun vs H1 => r vs H1 Q
theorem pe_callB (hc : CallR X (.builtin id) r) (hg : Gl X x) (hm : X.mg x = none) (hv : bootBuiltins x = some (.builtin id)) (ha : PA X (e :: es) t) (hn : x ≠ "__name__" := by decide) (hdb : (x == ("__debug__" : Str)) = false := by decide)
    (he : starEach (e :: es) X.env = (false, eval e X.env) :: starEach es X.env := by rfl) (hpl : (backTo pos (starEach es X.env)).any (·.1) = false := by rfl) : PE X (.Call (.Name x p) (e :: es) [] pos) (tCB r t) := by
  intro pins s σ H Q I h
  refine wpAny_Call_Name_kw (ld_blt I hg hm hv ?_ hn hdb)
  exact PyProof.Rows.callWith_builtin1 (thn (ha pos pins s σ H _ I h) fun us s1 ⟨vs, H1, I1, r1, q1⟩ => hc pins s1 σ H1 vs us Q I1 r1 q1) he hpl
theorem pe_callTy (hc : CallR X (.type T) r) (hg : Gl X x) (hm : X.mg x = none) (hv : bootBuiltins x = some (.type T)) (ha : PA X (e :: es) t) (hn : x ≠ "__name__" := by decide) (hdb : (x == ("__debug__" : Str)) = false := by decide)
    (he : starEach (e :: es) X.env = (false, eval e X.env) :: starEach es X.env := by rfl) (hpl : (backTo pos (starEach es X.env)).any (·.1) = false := by rfl) : PE X (.Call (.Name x p) (e :: es) [] pos) (tCB r t) := by
  intro pins s σ H Q I h
  refine wpAny_Call_Name_kw (ld_blt I hg hm hv ?_ hn hdb)
  exact PyProof.Rows.callWith_type1 (thn (ha pos pins s σ H _ I h) fun us s1 ⟨vs, H1, I1, r1, q1⟩ => hc pins s1 σ H1 vs us Q I1 r1 q1) he hpl
end
end L2

namespace HT
open PySem PyProof.Rows

section
open PySem.SeqAt
open PySem.AutoSeq1 (wpAny_loadPart')
open PySem.MeetsSeq PySem.MeetsSeq2 PySem.MeetsSeq3

end

section
variable {prog : Program} {w : World} {A : Around} {E : Value → Shared → Prop} {s : Shared}

def sIx (n d : Nat) : Option Int → Nat
  | none => d
  | some v => if v < 0 then (v + (n : Int)).toNat else min v.toNat n
theorem sIx_nat (n d k : Nat) : sIx n d (some (k : Int)) = min k n := by
  show (if (k : Int) < 0 then ((k : Int) + (n : Int)).toNat else min (k : Int).toNat n) = min k n
  rw [if_neg (by (first | lia | omega)), Int.toNat_natCast]
theorem sIx_le (n d : Nat) (hd : d ≤ n) (o : Option Int) : sIx n d o ≤ n := by
  cases o with
  | none => exact hd
  | some v =>
    show (if v < 0 then (v + (n : Int)).toNat else min v.toNat n) ≤ n
    by_cases hv : v < 0
    · rw [if_pos hv]; (first | lia | omega)
    · rw [if_neg hv]; exact Nat.min_le_right _ _
theorem clip_eq (v : Int) (n d : Nat) : (if v < 0 then max (v + (n : Int)) 0 else min v (n : Int)) = ((sIx n d (some v) : Nat) : Int) := by
  show (if v < 0 then max (v + (n : Int)) 0 else min v (n : Int)) = (((if v < 0 then (v + (n : Int)).toNat else min v.toNat n) : Nat) : Int)
  by_cases hv : v < 0
  · simp only [if_pos hv]; (first | lia | omega)
  · simp only [if_neg hv]; (first | lia | omega)
theorem adjust_gen (lo hi : Option Int) (n : Nat) : Builtin.Slice.sliceAdjust lo hi 1 (n : Int) = (((sIx n 0 lo : Nat) : Int), ((sIx n n hi : Nat) : Int)) := by
  have h1 : ¬ ((1 : Int) < 0) := by (first | lia | omega)
  unfold Builtin.Slice.sliceAdjust
  simp only [h1, if_false]
  refine Prod.ext ?_ ?_
  · cases lo with
    | none => rfl
    | some v => exact clip_eq v n 0
  · cases hi with
    | none => rfl
    | some v => exact clip_eq v n n
theorem places_gen (i j : Nat) : Builtin.Slice.slicePlaces (i : Int) (j : Int) 1 = j - i := by
  unfold Builtin.Slice.slicePlaces
  have h1 : (1 : Int) > 0 := by (first | lia | omega)
  simp only [h1, if_true, Int.ediv_one]
  split <;> (first | lia | omega)
theorem slicePart_ {v : Value} {o : Option Int} {Q : Option Int → Shared → Prop} (p : IsPart v o) (h : Q o s) : wpAny (model prog w) A (Builtin.Slice.slicePartIndex v) Q E s := by
  cases p with
  | none => exact slicePart_none h
  | int i t => exact slicePart_int h
theorem sliceApplied_gen {sl : Addr} {vl vu : Value} {lo hi : Option Int} {n : Nat} {Q : Int × Int × Nat → Shared → Prop} (hs : s.heap.IsSliceOf sl vl vu .none) (pl : IsPart vl lo) (pu : IsPart vu hi)
    (h : Q (((sIx n 0 lo : Nat) : Int), 1, sIx n n hi - sIx n 0 lo) s) : wpAny (model prog w) A (Builtin.Slice.sliceApplied (.ref sl) (pure (n : Int))) Q E s := by
  obtain ⟨os, hos, hcs, hds⟩ := id hs
  unfold Builtin.Slice.sliceApplied Builtin.Slice.sliceFields
  refine wpAny_bind (wpAny_bind (wpAny_field hos hds (x := vl) rfl (wpAny_bind (wpAny_field hos hds (x := vu) rfl (wpAny_bind (wpAny_field hos hds (x := .none) rfl (wpAny_pure ?_)))))))
  refine wpAny_bind (slicePart_none ?_)
  show wpAny _ _ (if ((1 : Int) == 0) = true then _ else _) _ _ s
  rw [if_neg (by decide)]
  refine wpAny_bind (slicePart_ pl (wpAny_bind (slicePart_ pu (wpAny_bind (wpAny_pure ?_)))))
  show wpAny _ _ (match Builtin.Slice.sliceAdjust lo hi 1 (n : Int) with | (lo, hi) => pure (lo, (1 : Int), Builtin.Slice.slicePlaces lo hi 1)) _ _ s
  rw [adjust_gen lo hi n]
  show wpAny _ _ (pure (((sIx n 0 lo : Nat) : Int), (1 : Int), Builtin.Slice.slicePlaces ((sIx n 0 lo : Nat) : Int) ((sIx n n hi : Nat) : Int) 1)) _ _ s
  rw [places_gen]
  exact wpAny_pure h
theorem pick_gen (xs : Array Value) (i k : Nat) : ((List.range k).filterMap fun (m : Nat) => xs[((i : Int) + (m : Int) * 1).toNat]?).toArray = ((xs.toList.drop i).take k).toArray := by
  have e : (fun (m : Nat) => xs[((i : Int) + (m : Int) * 1).toNat]?) = fun m => xs[i + m]? := by
    funext m
    have : ((i : Int) + (m : Int) * 1).toNat = i + m := by (first | lia | omega)
    rw [this]
  rw [e]
  have := pick_run xs i k
  rw [List.filterMap_map] at this
  have e2 : ((fun x => xs[x]?) ∘ fun x => i + x) = fun m => xs[i + m]? := rfl
  rw [e2] at this
  rw [this]

theorem getItem_tuple_cut {t sl : Addr} {items : Array Value} {vl vu : Value} {lo hi : Option Int} {Q : Value → Shared → Prop} (ht : IsTup s.heap t items) (hs : s.heap.IsSliceOf sl vl vu .none) (pl : IsPart vl lo) (pu : IsPart vu hi)
    (hw : ¬ (sIx items.size 0 lo = 0 ∧ sIx items.size items.size hi = items.size))
    (h : Q (.ref s.heap.objs.size) { s with heap := s.heap.push { cls := .type "tuple", data := .seq ((items.toList.drop (sIx items.size 0 lo)).take (sIx items.size items.size hi - sIx items.size 0 lo)).toArray } })
    (hsz : items.size ≤ sizeLine) : wpAny (model prog w) A (getItem (.ref t) (.ref sl)) Q E s := by
  have htake : sizeOk (.seq ((items.toList.drop (sIx items.size 0 lo)).take (sIx items.size items.size hi - sIx items.size 0 lo)).toArray) := by
    show ((items.toList.drop (sIx items.size 0 lo)).take (sIx items.size items.size hi - sIx items.size 0 lo)).toArray.size ≤ sizeLine
    rw [List.size_toArray, List.length_take, List.length_drop, Array.length_toList]
    (first | lia | omega)
  have hj : sIx items.size items.size hi ≤ items.size := sIx_le _ _ (Nat.le_refl _) hi
  obtain ⟨os, hos, hcs, hds⟩ := id hs
  have hTs : s.TypeIs (.ref sl) "slice" := ⟨os, hos, hcs⟩
  unfold getItem
  try with_reducible refine wpAny_holding ?_
  first | refine wpAny_bind (wpAny_pure ?_) | skip
  refine wpAny_bind (wpAny_sequenceKey ht.typeIs (by decide) ?_)
  refine wpAny_bind (wpAny_callSpecial?_slot (name := Str.ofString "__getitem__") ht.typeIs PyProof.Rows.slot_tuple_getitem
    (wpAny_call_entry PyProof.Rows.slot_tuple_getitem ht.typeIs entry_tuple_getitem ?_ (args_tuple_getitem _ _)))
  show wpAny _ _ (Builtin.Tuple.tupleItemsOf (.ref t) >>= _) _ _ s
  refine wpAny_bind (tupleItemsOf_ ht ?_)
  refine wpAny_bind (wpAny_typeOf hTs ?_)
  rw [if_pos (by decide)]
  refine wpAny_bind (sliceApplied_gen hs pl pu ?_)
  have hno : ¬ ((((sIx items.size 0 lo : Nat) : Int) == 0 && (1 : Int) == 1 && (sIx items.size items.size hi - sIx items.size 0 lo) == items.size) = true) := by
    intro q
    rw [Bool.and_eq_true, Bool.and_eq_true] at q
    have q1 : ((sIx items.size 0 lo : Nat) : Int) = 0 := eq_of_beq q.1.1
    have q2 : sIx items.size items.size hi - sIx items.size 0 lo = items.size := eq_of_beq q.2
    exact hw ⟨by (first | lia | omega), by (first | lia | omega)⟩
  show wpAny _ _ (if (((sIx items.size 0 lo : Nat) : Int) == 0 && (1 : Int) == 1 && (sIx items.size items.size hi - sIx items.size 0 lo) == items.size) = true then _ else _) _ _ s
  rw [if_neg hno, pick_gen]
  first
    | exact wpAny_bind (m := Builtin.Tuple.tupleExact _) (wpAny_newObj_type (wpAny_pure ⟨_, rfl, wpAny_pure h⟩) htake)
    | exact wpAny_bind (m := Builtin.Tuple.tupleExact _) (wpAny_newObj_type (wpAny_bind (wpAny_pure (wpAny_pure ⟨_, rfl, wpAny_pure h⟩))) htake)
    | exact wpAny_bind (wpAny_bind (m := Builtin.Tuple.tupleExact _) (wpAny_newObj_type (wpAny_pure (wpAny_pure ⟨_, rfl, wpAny_pure h⟩)) htake))
    | exact wpAny_bind (wpAny_bind (m := Builtin.Tuple.tupleExact _) (wpAny_newObj_type (wpAny_pure ⟨_, rfl, wpAny_pure h⟩) htake))
end
end HT

namespace L2
open PySem PySem.Spec PyProof.Rows

abbrev TO := St → Hp → (Option Int → Hp → Prop) → Prop
def PO (X : Cx) (e : Option Expr) (t : TO) : Prop :=
  ∀ (pins : List (Addr × Obj)) (s : Shared) (σ : St) (H : Hp) (Q : Option Int → Hp → Prop), Inv X pins σ H s → t σ H Q →
    wpAny (model X.prog X.w) X.A (evalPart e X.env) (fun u s' => ∃ o H', Inv X pins σ H' s' ∧ IsPart u o ∧ Q o H') X.xe s
def tNoPart : TO := fun _ H Q => Q none H
def tPart (t : TE) : TO := fun σ H Q => t σ H fun x H1 => ∃ i, x = .int i ∧ Q (some i) H1

theorem intsAre_of {ns : List Int} : ∀ {us : List Value}, Vals (ns.map V.int) us → IntsAre us ns := by
  induction ns with
  | nil => intro us r; rw [List.map_nil] at r; cases r; exact .nil
  | cons n ns ih =>
    intro us r
    rw [List.map_cons] at r
    cases r with
    | cons r1 r2 =>
      obtain ⟨t, e⟩ := r1
      subst e
      exact .cons n t (ih r2)

section
variable {X : Cx} {e : Expr} {te : TE} {lo hi : Option Expr} {tl th : TO} {pos p2 : Pos}

theorem po_none : PO X none tNoPart := by
  intro pins s σ H Q I h
  rw [evalPart_none]
  exact wpAny_pure ⟨none, H, I, .none, h⟩
theorem po_some (h : PE X e te) : PO X (some e) (tPart te) := by
  intro pins s σ H Q I hw
  rw [evalPart_some]
  refine thn (h pins s σ H _ I hw) fun u s1 ⟨x, H1, I1, r1, q1⟩ => ?_
  obtain ⟨i, rfl, q⟩ := q1
  obtain ⟨t, rfl⟩ := r1
  exact ⟨some i, H1, I1, .int i t, q⟩

def SlR (X : Cx) (r : V → Option Int → Option Int → Hp → VK → Prop) : Prop :=
  ∀ (pins : List (Addr × Obj)) (s : Shared) (σ : St) (H : Hp) (x : V) (v vl vu : Value) (lo hi : Option Int) (sl : Addr) (Q : VK), Inv X pins σ H s → RelV x v → s.heap.IsSliceOf sl vl vu .none → IsPart vl lo → IsPart vu hi → r x lo hi H Q →
    ∃ T id, typeLookup (.type T) "__getitem__" = pure (some (.builtin id)) ∧ s.TypeIs v T ∧ wpAny (model X.prog X.w) X.A (getItem v (.ref sl)) (EP X pins σ Q) X.xe s
def tSl (r : V → Option Int → Option Int → Hp → VK → Prop) (te : TE) (tl th : TO) : TE := fun σ H Q => te σ H fun x H1 => tl σ H1 fun l H2 => th σ H2 fun u H3 => r x l u H3 Q
theorem pe_slice {r : V → Option Int → Option Int → Hp → VK → Prop} (hr : SlR X r) (he : PE X e te) (hl : PO X lo tl) (hu : PO X hi th) : PE X (.Subscript e (.Slice lo hi none p2) pos) (tSl r te tl th) := by
  intro pins s σ H Q I h
  refine Subscript_ (thn (he pins s σ H _ I h) fun v s1 ⟨x, H1, I1, r1, q1⟩ => ?_)
  refine wpAny_Slice (thn (hl pins s1 σ H1 _ I1 q1) fun vl s2 ⟨l, H2, I2, pl, q2⟩ => thn (hu pins s2 σ H2 _ I2 q2) fun vu s3 ⟨u, H3, I3, pu, q3⟩ => ?_)
  rw [evalPart_none]
  refine wpAny_pure ?_
  have I4 : Inv X pins σ H3 { s3 with heap := s3.heap.push { cls := .type "slice", data := .fields #[vl, vu, .none] } } := I3.kept (t' := s3.toks) fun b ob q => Heap.get?_push_of_some _ q
  obtain ⟨T, id, hT, ht, hg⟩ := hr pins { s3 with heap := s3.heap.push { cls := .type "slice", data := .fields #[vl, vu, .none] } } σ H3 x v vl vu l u s3.heap.objs.size Q I4 r1 (Heap.IsSliceOf.new ..) pl pu q3
  show wpAny (model X.prog X.w) X.A (subscriptTail e (.Slice lo hi none p2) v (.ref s3.heap.objs.size)) (EP X pins σ Q) X.xe { s3 with heap := s3.heap.push { cls := .type "slice", data := .fields #[vl, vu, .none] } }
  exact tail_any (ops := [.ref s3.heap.objs.size, v]) ht hT hg (by with_unfolding_all rfl)

def cutV (xs : List V) (lo hi : Option Int) : List V := (xs.drop (HT.sIx xs.length 0 lo)).take (HT.sIx xs.length xs.length hi - HT.sIx xs.length 0 lo)
theorem cutV_length (xs : List V) (lo hi : Option Int) : (cutV xs lo hi).length ≤ xs.length := by
  unfold cutV
  rw [List.length_take, List.length_drop]
  (first | lia | omega)
def rSlT (K : PySem.W.Frag) : V → Option Int → Option Int → Hp → VK → Prop := fun x lo hi H Q => ∃ a xs, x = .ref a ∧ SqT K H a xs ∧
  ¬ (HT.sIx xs.length 0 lo = 0 ∧ HT.sIx xs.length xs.length hi = xs.length) ∧ ∀ p, H p = none → Q (.ref p) (upd H p (.tup (cutV xs lo hi)))
theorem sl_tup : SlR X (rSlT X.K) := by
  intro pins s σ H x v vl vu lo hi sl Q I rx hs pl pu h
  obtain ⟨a, xs, rfl, hx, hw, q⟩ := h
  cases rx
  obtain ⟨its, r, ht, hz⟩ := I.tuple hx
  have hlen : its.toArray.size = xs.length := by rw [List.size_toArray]; exact r.length.symm
  refine ⟨"tuple", _, PyProof.Rows.slot_tuple_getitem.lookup, ht.typeIs, ?_⟩
  refine HT.getItem_tuple_cut ht hs pl pu (by rw [hlen]; exact hw) ?_ (by rw [hlen]; exact hz)
  rw [hlen]
  refine ⟨.ref s.heap.objs.size, _, I.laid (t' := s.toks) (o := .tup (cutV xs lo hi)) (fun b ob q => Heap.get?_push_of_some _ q) (Nat.le_refl _) ?_, rfl, q _ (I.hok.fresh (Nat.le_refl _))⟩
  exact ⟨Nat.le_trans (cutV_length xs lo hi) hz, _, (r.drop (HT.sIx xs.length 0 lo)).take (HT.sIx xs.length xs.length hi - HT.sIx xs.length 0 lo), IsTup.new _ _⟩

end
end L2

namespace L2
open PySem PySem.Spec PyProof.Rows

def ixN (n : Nat) (i : Int) : Option Nat := if 0 ≤ i then (if i < n then some i.toNat else none) else if -(n : Int) ≤ i then some (i + n).toNat else none
def atI {α : Type} (xs : List α) (i : Int) : Option α := (ixN xs.length i).bind fun j => xs[j]?
theorem ixN_seq {n : Nat} {i : Int} {j : Nat} (h : ixN n i = some j) : seqIndex? i n = some j ∧ j < n ∧ -(n : Int) ≤ i ∧ i < n := by
  unfold ixN at h
  by_cases h0 : 0 ≤ i
  · rw [if_pos h0] at h
    by_cases h1 : i < n
    · rw [if_pos h1] at h
      have e : i.toNat = j := Option.some.inj h
      exact ⟨by rw [seqIndex_of h0 h1, e], by (first | lia | omega), by (first | lia | omega), h1⟩
    · rw [if_neg h1] at h; cases h
  · rw [if_neg h0] at h
    by_cases h1 : -(n : Int) ≤ i
    · rw [if_pos h1] at h
      have e : (i + n).toNat = j := Option.some.inj h
      exact ⟨by rw [seqIndex_neg (by (first | lia | omega)) h1, e], by (first | lia | omega), h1, by (first | lia | omega)⟩
    · rw [if_neg h1] at h; cases h
theorem atI_get {α : Type} {xs : List α} {i : Int} {v : α} (h : atI xs i = some v) : ∃ j, seqIndex? i xs.length = some j ∧ xs[j]? = some v ∧ j < xs.length ∧ -(xs.length : Int) ≤ i ∧ i < xs.length := by
  unfold atI at h
  cases e : ixN xs.length i with
  | none => rw [e] at h; cases h
  | some j =>
    rw [e] at h
    obtain ⟨h1, h2, h3, h4⟩ := ixN_seq e
    exact ⟨j, h1, h, h2, h3, h4⟩
theorem atI_nat {α : Type} {xs : List α} {j : Nat} {v : α} (h : xs[j]? = some v) : atI xs (j : Int) = some v := by
  have hj : j < xs.length := (List.getElem?_eq_some_iff.mp h).1
  have e : ixN xs.length (j : Int) = some j := by
    unfold ixN
    rw [if_pos (by (first | lia | omega)), if_pos (by (first | lia | omega))]; simp
  unfold atI; rw [e]; exact h
def PlainIx (b : Expr) : Prop := ∀ o i, subscripted b false o i = operate [o, i] (getItem o i)
def IxR (X : Cx) (r : R2) : Prop :=
  ∀ (value slice : Expr) (pins : List (Addr × Obj)) (s : Shared) (σ : St) (H : Hp) (x y : V) (v u : Value) (Q : VK), Inv X pins σ H s → RelV x v → RelV y u → r x y H Q →
    subscripted slice false v u = operate [v, u] (getItem v u) → wpAny (model X.prog X.w) X.A (subscriptTail value slice v u) (EP X pins σ Q) X.xe s
def MtR (X : Cx) (id : String) (r : V → List V → Hp → VK → Prop) : Prop :=
  ∀ (pins : List (Addr × Obj)) (s : Shared) (σ : St) (H : Hp) (x : V) (xs : List V) (v : Value) (us : List Value) (Q : VK), Inv X pins σ H s → RelV x v → Vals xs us → r x xs H Q →
    wpAny (model X.prog X.w) X.A (call (.builtin id) (v :: us)) (EP X pins σ Q) X.xe s
section
variable {X : Cx} {a b : Expr} {ta tb : TE} {pos : Pos}
theorem pe_ix {r : R2} (hr : IxR X r) (ha : PE X a ta) (hb : PE X b tb) (hs : PlainIx b) : PE X (.Subscript a b pos) (tOp r ta tb) := by
  intro pins s σ H Q I h
  exact Subscript_ (binT ha hb I h fun v u s2 x y H2 I2 rx ry q => hr a b pins s2 σ H2 x y v u Q I2 rx ry q (hs _ _))

def rIxL (K : PySem.W.Frag) : R2 := fun x y H Q => ∃ p xs i v, x = .ref p ∧ y = .int i ∧ SqL K H p xs ∧ atI xs i = some v ∧ Q v H
def rIxT (K : PySem.W.Frag) : R2 := fun x y H Q => ∃ p xs i v, x = .ref p ∧ y = .int i ∧ SqT K H p xs ∧ atI xs i = some v ∧ Q v H
theorem ix_list : IxR X (rIxL X.K) := by
  intro value slice pins s σ H x y v u Q I rx ry h hs
  obtain ⟨p, xs, i, z, rfl, rfl, hq, he, q⟩ := h
  cases rx
  obtain ⟨t, rfl⟩ := ry
  obtain ⟨its, r, pl, hz⟩ := I.list hq
  obtain ⟨j, h1, h2, h3, h4, h5⟩ := atI_get he
  obtain ⟨w, ew, rw'⟩ := r.get h2
  have hl := r.length
  have hn := line63
  have fin : EP X pins σ Q w s := ⟨z, H, I, rw', q⟩
  by_cases h0 : 0 ≤ i
  · have hj : i.toNat = j := by
      rw [seqIndex_of h0 h5] at h1
      exact Option.some.inj h1
    exact item_listR pl.isList h0 (by (first | lia | omega)) (by rw [hj]; simpa using ew) fin hs
  · have hj : (i + (its.toArray.size : Int)).toNat = j := by
      rw [seqIndex_neg (by (first | lia | omega)) h4] at h1
      rw [List.size_toArray, ← hl]
      exact Option.some.inj h1
    exact subscriptTail_builtinR (x := w) pl.isList.typeIs slot_list_getitem.lookup
      (wpAny_getItem_list_neg (Q := fun r s' => r = w ∧ EP X pins σ Q r s') pl.isList (by (first | lia | omega)) (by rw [List.size_toArray] <;> (first | lia | omega)) (by (first | lia | omega)) (by rw [hj]; simpa using ew) ⟨rfl, fin⟩) hs
theorem ix_tup : IxR X (rIxT X.K) := by
  intro value slice pins s σ H x y v u Q I rx ry h hs
  obtain ⟨p, xs, i, z, rfl, rfl, hq, he, q⟩ := h
  cases rx
  obtain ⟨t, rfl⟩ := ry
  obtain ⟨its, r, pl, hz⟩ := I.tuple hq
  obtain ⟨j, h1, h2, h3, h4, h5⟩ := atI_get he
  obtain ⟨w, ew, rw'⟩ := r.get h2
  have hl := r.length
  have hn := line63
  have fin : EP X pins σ Q w s := ⟨z, H, I, rw', q⟩
  exact subscriptTail_builtinR (x := w) pl.typeIs slot_tuple_getitem.lookup
    (getItem_tuple (j := j) (Q := fun r s' => r = w ∧ EP X pins σ Q r s') pl (by (first | lia | omega)) (by (first | lia | omega)) (by rw [List.size_toArray, ← hl]; exact h1) (by simpa using ew) ⟨rfl, fin⟩) hs
theorem mapSeq_set (its : List Value) (n j : Nat) (u : Value) : Obj.mapSeq (·.setIfInBounds j u) { cls := .type "list", data := .seq its.toArray n } = { cls := .type "list", data := .seq (its.set j u).toArray n } := by
  simp [Obj.mapSeq]
theorem Inv.lst {pins : List (Addr × Obj)} {σ : St} {H : Hp} {s : Shared} {p : Addr} {xs : List V} (I : Inv X pins σ H s) (h : H p = some (.lst xs)) :
    ∃ (its : List Value) (n : Nat), Vals xs its ∧ s.heap.get? p = some { cls := .type "list", data := .seq its.toArray n } ∧ xs.length ≤ sizeLine := by
  obtain ⟨z, its, n, r, e⟩ := I.hok p _ h
  exact ⟨its, n, r, e, z⟩
theorem Inv.lstUpd {pins : List (Addr × Obj)} {σ : St} {H : Hp} {s : Shared} {p : Addr} {xs ys : List V} {its its' : List Value} {n n' : Nat} {f : Obj → Obj} (I : Inv X pins σ H s) (h : H p = some (.lst xs))
    (ho : s.heap.get? p = some { cls := .type "list", data := .seq its.toArray n }) (hf : f { cls := .type "list", data := .seq its.toArray n } = { cls := .type "list", data := .seq its'.toArray n' }) (r : Vals ys its') (hz : ys.length ≤ sizeLine) (t : Nat) :
    Inv X pins σ (upd H p (.lst ys)) { s with heap := s.heap.update p f, toks := t } := by
  have e : (s.heap.update p f).get? p = some { cls := .type "list", data := .seq its'.toArray n' } := by
    rw [Heap.get?_update_self f ho (by rw [hf] <;> rfl), hf]
  refine I.write (x := p) (e := p) (by rw [h]; trivial) (.inl rfl) (fun b u hb q => (Heap.get?_update_other _ _ (Ne.symm hb)).trans q) ⟨_, e⟩ ?_
  exact ⟨hz, its', n', r, e⟩
def rSetL : V → V → V → Hp → (Hp → Prop) → Prop := fun o i v H Q => ∃ p xs k j, o = .ref p ∧ i = .int k ∧ H p = some (.lst xs) ∧ ixN xs.length k = some j ∧ Q (upd H p (.lst (xs.set j v)))
theorem set_list : PSet X rSetL := by
  intro pins s σ H o i v ov iv u Q I ro ri rv h
  obtain ⟨p, xs, k, j, rfl, rfl, hp, hj, q⟩ := h
  cases ro
  obtain ⟨t, rfl⟩ := ri
  obtain ⟨its, n, r, ho, hz⟩ := I.lst hp
  obtain ⟨h1, h2, h3, h4⟩ := ixN_seq hj
  have hl := r.length
  have hn := line63
  have I' : Inv X pins σ (upd H p (.lst (xs.set j v))) { s with heap := s.heap.update p (Obj.mapSeq (·.setIfInBounds j u)) } :=
    I.lstUpd hp ho (mapSeq_set its n j u) (r.set rv j) (by rw [List.length_set]; exact hz) s.toks
  by_cases h0 : 0 ≤ k
  · have hk : k.toNat = j := by
      rw [seqIndex_of h0 h4] at h1
      exact Option.some.inj h1
    exact PySem.W.ki_setAt ho h0 (by (first | lia | omega)) (by rw [List.size_toArray, ← hl]; exact h4) (by rw [hk]; exact ⟨_, I', q⟩)
  · have hk : (k + (its.toArray.size : Int)).toNat = j := by
      rw [seqIndex_neg (by (first | lia | omega)) h3] at h1
      rw [List.size_toArray, ← hl]
      exact Option.some.inj h1
    exact PySem.W.ki_setBack ho (by (first | lia | omega)) (by rw [List.size_toArray, ← hl]; exact h3) (by (first | lia | omega)) (by rw [hk]; exact ⟨_, I', q⟩)

theorem slice_bounds (lo hi : Option Int) (n : Nat) : (sliceBounds lo hi none n).1 = ((HT.sIx n 0 lo : Nat) : Int) ∧ (sliceBounds lo hi none n).2.1 = ((HT.sIx n n hi : Nat) : Int) ∧ (sliceBounds lo hi none n).2.2 = 1 := by
  refine ⟨?_, ?_, rfl⟩
  · cases lo with
    | none => simp [sliceBounds, HT.sIx]
    | some i =>
      simp only [sliceBounds, HT.sIx, Option.getD_none, show (1 : Int) > 0 by decide, if_true]
      by_cases h : i < 0
      · simp only [h, if_true] <;> (first | lia | omega)
      · simp only [h, if_false] <;> (first | lia | omega)
  · cases hi with
    | none => simp [sliceBounds, HT.sIx]
    | some i =>
      simp only [sliceBounds, HT.sIx, Option.getD_none, show (1 : Int) > 0 by decide, if_true]
      by_cases h : i < 0
      · simp only [h, if_true] <;> (first | lia | omega)
      · simp only [h, if_false] <;> (first | lia | omega)
theorem slicePick_cut (its : List Value) (lo hi : Option Int) : slicePick its.toArray lo hi none = ((its.drop (HT.sIx its.length 0 lo)).take (HT.sIx its.length its.length hi - HT.sIx its.length 0 lo)).toArray := by
  obtain ⟨h1, h2, h3⟩ := slice_bounds lo hi its.toArray.size
  unfold slicePick
  rw [h1, h2, h3]
  simp only [sliceRange_one, pick_run, List.size_toArray] <;> rfl
def rSlL (K : PySem.W.Frag) : V → Option Int → Option Int → Hp → VK → Prop := fun x lo hi H Q => ∃ a xs, x = .ref a ∧ SqL K H a xs ∧ ∀ p, H p = none → Q (.ref p) (upd H p (.lst (cutV xs lo hi)))
theorem sl_list : SlR X (rSlL X.K) := by
  intro pins s σ H x v vl vu lo hi sl Q I rx hs pl pu h
  obtain ⟨a, xs, rfl, hx, q⟩ := h
  cases rx
  obtain ⟨its, r, ht, hz⟩ := I.list hx
  have hlen := r.length
  refine ⟨"list", _, slot_list_getitem.lookup, ht.isList.typeIs, ?_⟩
  refine wpAny_getItem_list_slice ht.isList hs pl pu .none (by simp) ?_ (by rw [List.size_toArray] <;> (first | lia | omega))
  rw [slicePick_cut, ← hlen]
  refine ⟨.ref s.heap.objs.size, _, I.laid (t' := s.toks) (o := .lst (cutV xs lo hi)) (fun b ob q => Heap.get?_push_of_some _ q) (Nat.le_refl _) ?_, rfl, q _ (I.hok.fresh (Nat.le_refl _))⟩
  exact ⟨Nat.le_trans (cutV_length xs lo hi) hz, _, 0, (r.drop (HT.sIx xs.length 0 lo)).take (HT.sIx xs.length xs.length hi - HT.sIx xs.length 0 lo), Heap.get?_push_size _ rfl⟩

def flatV : V → Bool
  | .non => true
  | .bl _ => true
  | .int _ => true
  | .str _ => true
  | _ => false
def eqV : V → V → Bool
  | .non, .non => true
  | .bl a, .bl b => a == b
  | .bl a, .int b => (if a then 1 else 0) == b
  | .int a, .bl b => a == (if b then 1 else 0)
  | .int a, .int b => a == b
  | .str a, .str b => a == b
  | _, _ => false
theorem eqAt_V {A : Around} {s : Shared} {y x : V} {u v : Value} (ry : RelV y u) (rx : RelV x v) (fy : flatV y = true) (fx : flatV x = true) : SeqAt.EqAt A s u v (eqV y x) := by
  cases y with
  | non =>
    cases ry
    cases x with
    | non => cases rx; exact SeqAt.EqAt.same _
    | bl b => cases rx; exact SeqAt.EqAt.none_bool b
    | int b => obtain ⟨t, rfl⟩ := rx; exact SeqAt.EqAt.none_int b t
    | str b => obtain ⟨t, rfl⟩ := rx; exact SeqAt.EqAt.none_str b t
    | _ => exact absurd (show false = true from fx) Bool.false_ne_true
  | bl a =>
    cases ry
    cases x with
    | non => cases rx; exact SeqAt.EqAt.bool_none a
    | bl b => cases rx; exact SeqAt.EqAt.bool_bool a b
    | int b => obtain ⟨t, rfl⟩ := rx; exact SeqAt.EqAt.bool_int a b t
    | str b => obtain ⟨t, rfl⟩ := rx; exact SeqAt.EqAt.bool_str a b t
    | _ => exact absurd (show false = true from fx) Bool.false_ne_true
  | int a =>
    obtain ⟨t', rfl⟩ := ry
    cases x with
    | non => cases rx; exact SeqAt.EqAt.int_none a t'
    | bl b => cases rx; exact SeqAt.EqAt.int_bool a t' b
    | int b => obtain ⟨t, rfl⟩ := rx; exact SeqAt.EqAt.int_int a t' b t
    | str b => obtain ⟨t, rfl⟩ := rx; exact SeqAt.EqAt.int_str a t' b t
    | _ => exact absurd (show false = true from fx) Bool.false_ne_true
  | str a =>
    obtain ⟨t', rfl⟩ := ry
    cases x with
    | non => cases rx; exact SeqAt.EqAt.str_none a t'
    | bl b => cases rx; exact SeqAt.EqAt.str_bool a t' b
    | int b => obtain ⟨t, rfl⟩ := rx; exact SeqAt.EqAt.str_int a t' b t
    | str b => obtain ⟨t, rfl⟩ := rx; exact SeqAt.EqAt.str_str a t' b t
    | _ => exact absurd (show false = true from fx) Bool.false_ne_true
  | _ => exact absurd (show false = true from fy) Bool.false_ne_true
def eqU (x : V) (u : Value) : Bool := match u with
  | .none => eqV .non x
  | .bool b => eqV (.bl b) x
  | .int i _ => eqV (.int i) x
  | .str z _ => eqV (.str z) x
  | _ => false
theorem eqU_of {x y : V} {u : Value} (r : RelV y u) (f : flatV y = true) : eqU x u = eqV y x := by
  cases y with
  | non => cases r; rfl
  | bl b => cases r; rfl
  | int i => obtain ⟨t, rfl⟩ := r; rfl
  | str z => obtain ⟨t, rfl⟩ := r; rfl
  | _ => exact absurd (show false = true from f) Bool.false_ne_true
theorem any_eqU {x : V} : ∀ {xs : List V} {us : List Value}, Vals xs us → xs.all flatV = true → us.any (eqU x) = xs.any fun y => eqV y x
  | _, _, .nil, _ => rfl
  | y :: xs, u :: us, .cons r t, f => by
    rw [List.all_cons, Bool.and_eq_true] at f
    rw [List.any_cons, List.any_cons, eqU_of r f.1, any_eqU t f.2]
theorem mem_eqAt {A : Around} {s : Shared} {x : V} {v : Value} (rx : RelV x v) (fx : flatV x = true) : ∀ {xs : List V} {us : List Value}, Vals xs us → xs.all flatV = true → ∀ u ∈ us, SeqAt.EqAt A s u v (eqU x u)
  | _, _, .nil, _ => fun u hu => by cases hu
  | y :: xs, u :: us, .cons r t, f => fun u' hu => by
    rw [List.all_cons, Bool.and_eq_true] at f
    rcases List.mem_cons.mp hu with rfl | hu
    · rw [eqU_of r f.1]; exact eqAt_V r rx f.1 fx
    · exact mem_eqAt rx fx t f.2 u' hu
def inV (x : V) (xs : List V) : Bool := xs.any fun y => eqV y x
def rIn (K : PySem.W.Frag) (neg : Bool) : R2 := fun x y H Q => ∃ p xs, y = .ref p ∧ (SqL K H p xs ∨ SqT K H p xs) ∧ flatV x = true ∧ xs.all flatV = true ∧ Q (.bl (if neg then !inV x xs else inV x xs)) H
theorem op_in_seq : OpR X (compareOp .In) (rIn X.K false) := by
  intro pins s σ H x y v u Q I rx ry h
  obtain ⟨p, xs, rfl, hq, fx, fs, q⟩ := h
  cases ry
  rcases hq with hq | hq
  · obtain ⟨its, r, pl, hz⟩ := I.list hq
    refine SeqAt.in_listAt (eqU x) pl.isList (fun w hw => mem_eqAt rx fx r fs w (by simpa using hw)) ⟨.bl _, H, I, rfl, ?_⟩
    rw [show its.toArray.any (eqU x) = its.any (eqU x) by simp, any_eqU r fs]
    exact q
  · obtain ⟨its, r, pl, hz⟩ := I.tuple hq
    refine SeqAt.in_tupleAt (eqU x) pl (fun w hw => mem_eqAt rx fx r fs w (by simpa using hw)) ⟨.bl _, H, I, rfl, ?_⟩
    rw [show its.toArray.any (eqU x) = its.any (eqU x) by simp, any_eqU r fs]
    exact q
theorem op_notIn_seq : OpR X (compareOp .NotIn) (rIn X.K true) := by
  intro pins s σ H x y v u Q I rx ry h
  obtain ⟨p, xs, rfl, hq, fx, fs, q⟩ := h
  cases ry
  rcases hq with hq | hq
  · obtain ⟨its, r, pl, hz⟩ := I.list hq
    refine SeqAt.notIn_listAt (eqU x) pl.isList (fun w hw => mem_eqAt rx fx r fs w (by simpa using hw)) ⟨.bl _, H, I, rfl, ?_⟩
    rw [show its.toArray.any (eqU x) = its.any (eqU x) by simp, any_eqU r fs]
    exact q
  · obtain ⟨its, r, pl, hz⟩ := I.tuple hq
    refine SeqAt.notIn_tupleAt (eqU x) pl (fun w hw => mem_eqAt rx fx r fs w (by simpa using hw)) ⟨.bl _, H, I, rfl, ?_⟩
    rw [show its.toArray.any (eqU x) = its.any (eqU x) by simp, any_eqU r fs]
    exact q
theorem call_len_seq : CallR X (.builtin "len") (fun xs H Q => ∃ p ys, xs = [.ref p] ∧ (SqL X.K H p ys ∨ SqT X.K H p ys) ∧ Q (.int ys.length) H) := by
  intro pins s σ H xs us Q I r h
  obtain ⟨p, ys, rfl, hq, q⟩ := h
  obtain ⟨u, rfl, rx⟩ := vals1 r
  cases rx
  have hn := line63
  rcases hq with hq | hq
  · obtain ⟨its, r', pl, hz⟩ := I.list hq
    have hlen := r'.length
    exact Calls.call_len_list pl.isList (by simp only [List.size_toArray] <;> (first | lia | omega)) ⟨.int ys.length, H, I.tok _, ⟨s.toks + 1, by rw [List.size_toArray, hlen]⟩, q⟩
  · obtain ⟨its, r', pl, hz⟩ := I.tuple hq
    have hlen := r'.length
    exact len_tuple pl (by simp only [List.size_toArray] <;> (first | lia | omega)) ⟨.int ys.length, H, I.tok _, ⟨s.toks + 1, by rw [List.size_toArray, hlen]⟩, q⟩
theorem call_list_of : CallR X (.type "list") (fun xs H Q => ∃ p ys, xs = [.ref p] ∧ (SqL X.K H p ys ∨ SqT X.K H p ys) ∧ ∀ l, H l = none → Q (.ref l) (upd H l (.lst ys))) := by
  intro pins s σ H xs us Q I r h
  obtain ⟨p, ys, rfl, hq, q⟩ := h
  obtain ⟨u, rfl, rx⟩ := vals1 r
  cases rx
  have fin : ∀ (its : List Value), Vals ys its → ys.length ≤ sizeLine → ∀ (h' : Heap) (c' : Nat), (∀ b o', s.heap.get? b = some o' → h'.get? b = some o') →
      h'.get? s.heap.objs.size = some { cls := .type "list", dict := none, data := .seq its.toArray c', slots := #[] } → EP X pins σ Q (.ref s.heap.objs.size) { s with heap := h' } := fun its r' hz h' c' kp e =>
    ⟨.ref s.heap.objs.size, _, I.laid (t' := s.toks) kp (Nat.le_refl _) (show ObjOk X.prog X.w _ h' _ (.lst ys) from ⟨hz, its, c', r', e⟩), rfl, q _ (I.hok.fresh (Nat.le_refl _))⟩
  rcases hq with hq | hq
  · obtain ⟨its, r', pl, hz⟩ := I.list hq
    have hlen := r'.length
    obtain ⟨o, ho, hc, n, hd⟩ := pl.isList
    exact call_list_seq p (.inl rfl) ho hc hd (fun h' c' kp e => fin its r' hz h' c' kp e) (by simp only [List.size_toArray] <;> (first | lia | omega))
  · obtain ⟨its, r', pl, hz⟩ := I.tuple hq
    have hlen := r'.length
    obtain ⟨o, ho, hc, n, hd⟩ := pl
    exact call_list_seq p (.inr rfl) ho hc hd (fun h' c' kp e => fin its r' hz h' c' kp e) (by simp only [List.size_toArray] <;> (first | lia | omega))
theorem call_tuple_of : CallR X (.type "tuple") (fun xs H Q => ∃ p ys, xs = [.ref p] ∧ ((SqL X.K H p ys ∧ ∀ l, H l = none → Q (.ref l) (upd H l (.tup ys))) ∨ (SqT X.K H p ys ∧ Q (.ref p) H))) := by
  intro pins s σ H xs us Q I r h
  obtain ⟨p, ys, rfl, h⟩ := h
  obtain ⟨u, rfl, rx⟩ := vals1 r
  cases rx
  rcases h with ⟨hq, q⟩ | ⟨hq, q⟩
  · obtain ⟨its, r', pl, hz⟩ := I.list hq
    have hlen := r'.length
    refine call_tuple_list pl.isList (fun h' kp => ?_) (by simp only [List.size_toArray] <;> (first | lia | omega))
    have I1 : Inv X pins σ H { s with heap := h' } := I.kept (t' := s.toks) kp
    have I2 : Inv X pins σ (upd H h'.objs.size (.tup ys)) { s with heap := h'.push { cls := .type "tuple", data := .seq its.toArray } } :=
      I1.laid (t' := s.toks) (fun b o e => Heap.get?_push_of_some _ e) (Nat.le_refl _) (show ObjOk X.prog X.w _ _ _ (.tup ys) from ⟨hz, its, r', IsTup.new _ _⟩)
    exact ⟨.ref h'.objs.size, _, I2, rfl, q _ (I1.hok.fresh (Nat.le_refl _))⟩
  · obtain ⟨its, r', pl, hz⟩ := I.tuple hq
    exact call_tuple_same pl ⟨.ref p, H, I, rfl, q⟩

def tyV (K : PySem.W.Frag) (T : String) (x : V) (H : Hp) : Prop := match x with
  | .str _ => T = "str"
  | .int _ => T = "int"
  | .ref p => (T = "list" ∧ ∃ xs, SqL K H p xs) ∨ (T = "tuple" ∧ ∃ o, K.lookup p = some o ∧ o.cls = .type "tuple" ∧ o.dict = none) ∨
      (T = "dict" ∧ ((∃ kvs, H p = some (.dK kvs)) ∨ ∃ kvs, H p = some (.dT kvs))) ∨ (T = "set" ∧ ∃ S n, H p = some (.set S n))
  | _ => False
theorem tyV_is {pins : List (Addr × Obj)} {σ : St} {H : Hp} {s : Shared} {T : String} {x : V} {v : Value} (I : Inv X pins σ H s) (r : RelV x v) (ty : tyV X.K T x H) :
    s.TypeIs v T ∧ ∀ a, v = .ref a → ∃ ob, s.heap.get? a = some ob ∧ ob.dict = none := by
  cases x with
  | str z =>
    obtain ⟨t, rfl⟩ := r
    cases (show T = "str" from ty)
    exact ⟨typeIs_str s z t, fun _ e => nomatch e⟩
  | int i =>
    obtain ⟨t, rfl⟩ := r
    cases (show T = "int" from ty)
    exact ⟨typeIs_int s i t, fun _ e => nomatch e⟩
  | ref p =>
    cases r
    rcases ty with ⟨rfl, xs, hq⟩ | ⟨rfl, o, hk, hc, hd⟩ | ⟨rfl, hk⟩ | ⟨rfl, S, n, hk⟩
    · obtain ⟨its, _, pl, _⟩ := I.list hq
      refine ⟨pl.isList.typeIs, fun a e => ?_⟩
      cases e
      obtain ⟨o, n, e, c, hd, _⟩ := pl
      exact ⟨o, e, hd⟩
    · refine ⟨⟨o, I.kIn p o hk, hc⟩, fun a e => ?_⟩
      cases e
      exact ⟨o, I.kIn _ o hk, hd⟩
    · have z : ∃ o, s.heap.get? p = some o ∧ o.ExactDict := by
        rcases hk with ⟨kvs, hk⟩ | ⟨kvs, hk⟩
        · obtain ⟨_, _, _, _, o, _, _, e, ex, _⟩ := I.hok p _ hk
          exact ⟨o, e, ex⟩
        · obtain ⟨_, _, _, _, o, _, _, e, ex, _⟩ := I.hok p _ hk
          exact ⟨o, e, ex⟩
      obtain ⟨o, e, ex⟩ := z
      refine ⟨⟨o, e, ex.1⟩, fun a e2 => ?_⟩
      cases e2
      exact ⟨o, e, ex.2.1⟩
    · obtain ⟨o, _, _, _, e, ex, _⟩ := I.hok p _ hk
      refine ⟨⟨o, e, ex.1⟩, fun a e2 => ?_⟩
      cases e2
      exact ⟨o, e, ex.2.1⟩
  | _ => exact False.elim ty
def tBM0 (K : PySem.W.Frag) (T : String) (r : V → List V → Hp → VK → Prop) (to : TE) : TE := fun σ H Q => to σ H fun x H1 => tyV K T x H1 ∧ r x [] H1 Q
def tBM (K : PySem.W.Frag) (T : String) (r : V → List V → Hp → VK → Prop) (to : TE) (t : TA) : TE := fun σ H Q => to σ H fun x H1 => tyV K T x H1 ∧ t σ H1 fun xs H2 => r x xs H2 Q
variable {o e : Expr} {es : List Expr} {to : TE} {t : TA} {name : Str} {apos cpos : Pos} {T id : String} {r : V → List V → Hp → VK → Prop}
theorem pe_bm0 (pa : PlainAttrs T) (slot : Slot T name id) (hty : typeOf (.builtin id) = pure (.type "method_descriptor")) (hm : MtR X id r) (ho : PE X o to)
    (hbase : attributeBase o name X.env (eval o X.env) = eval o X.env := by rfl) (hline : (apos.endLine == cpos.line) = true := by rfl) : PE X (.Call (.Attribute o name apos) [] [] cpos) (tBM0 X.K T r to) := by
  intro pins s σ H Q I h
  refine wpAny_Call_method0_late hbase hline (thn (ho pins s σ H _ I h) fun v s1 ⟨x, H1, I1, r1, ty, q1⟩ => ?_)
  obtain ⟨h1, h2⟩ := tyV_is I1 r1 ty
  exact ⟨T, id, pa, slot, hty, h1, h2, Calls.callWith_builtin rfl (PySem.evalArgs_none (hm pins s1 σ H1 x [] v [] Q I1 r1 .nil q1))⟩
theorem pe_bm (pa : PlainAttrs T) (slot : Slot T name id) (hty : typeOf (.builtin id) = pure (.type "method_descriptor")) (hm : MtR X id r) (ho : PE X o to) (ha : PA X (e :: es) t)
    (hbase : attributeBase o name X.env (eval o X.env) = eval o X.env := by rfl)
    (hfew : ((backTo cpos (starEach (e :: es) X.env)).all (fun x => !x.1) && (backToKw cpos (keywordEach [] X.env)).all (fun x => x.1.isSome)
      && decide ((e :: es).length + ([] : List Keyword).length + (if ([] : List Keyword).isEmpty then 0 else 1) < 30)) = true := by rfl)
    (hline : (apos.endLine == cpos.line) = true := by rfl) (hs : starEach (e :: es) X.env = (false, eval e X.env) :: starEach es X.env := by rfl) (hplain : (backTo cpos (starEach es X.env)).any (·.1) = false := by rfl) :
    PE X (.Call (.Attribute o name apos) (e :: es) [] cpos) (tBM X.K T r to t) := by
  intro pins s σ H Q I h
  refine wpAny_Call_method_late hbase hfew hline rfl (thn (ho pins s σ H _ I h) fun v s1 ⟨x, H1, I1, r1, ty, q1⟩ => ?_)
  obtain ⟨h1, h2⟩ := tyV_is I1 r1 ty
  refine ⟨T, id, pa, slot, hty, h1, h2, ?_⟩
  have hA := ha cpos pins s1 σ H1 _ I1 q1
  rw [hs] at hA ⊢
  refine Calls.callWith_builtin (by show (false || (backTo cpos (starEach es X.env)).any (·.1)) = false; rw [hplain] <;> rfl) (Calls.evalArgs_plain ?_)
  exact thn hA fun us s2 ⟨vs, H2, I2, r2, q2⟩ => hm pins s2 σ H2 x vs v us Q I2 r1 r2 q2
/- xs.append(e), list.index on a module's tuple .. are MtR facts of 06m -/
end
end L2

namespace L2
open PySem PySem.Spec PyProof.Rows

def MtM (X : Cx) (id : String) (r : V → List V → Hp → VK → Prop) : Prop :=
  ∀ (pins : List (Addr × Obj)) (s : Shared) (σ : St) (H : Hp) (x : V) (xs : List V) (v : Value) (us : List Value) (Q : VK), Inv X pins σ H s → RelV x v → Vals xs us → r x xs H Q →
    wpAny (model X.prog X.w) X.A (call (.builtin id) (v :: us)) (EP X pins σ Q) X.xe s

theorem Vals.one : ∀ {x : V} {us : List Value}, Vals [x] us → ∃ u, us = [u] ∧ RelV x u
  | _, _, .cons r .nil => ⟨_, rfl, r⟩
theorem Vals.rep {xs : List V} {us : List Value} (h : Vals xs us) : ∀ k : Nat, Vals (List.replicate k xs).flatten (List.replicate k us).flatten
  | 0 => .nil
  | k + 1 => by
    rw [List.replicate_succ, List.replicate_succ, List.flatten_cons, List.flatten_cons]
    exact Vals.append h (Vals.rep h k)
theorem foldl_rep (its : List Value) : ∀ (k : Nat) (acc : List Value),
    List.foldl (fun x1 x2 => x1 ++ x2) acc.toArray (List.replicate k its.toArray) = (acc ++ (List.replicate k its).flatten).toArray
  | 0, acc => by simp
  | k + 1, acc => by
    have e : acc.toArray ++ its.toArray = (acc ++ its).toArray := by simp
    have e2 : (acc ++ its) ++ (List.replicate k its).flatten = acc ++ (List.replicate (k + 1) its).flatten := by
      rw [List.replicate_succ, List.flatten_cons, List.append_assoc]
    rw [← e2, ← foldl_rep its k (acc ++ its), ← e, List.replicate_succ, List.foldl_cons]

section
variable {X : Cx} {pins : List (Addr × Obj)} {σ : St} {H : Hp} {s : Shared} {l b : Addr} {xs ys zs : List V}

theorem Inv.lset {its its' : List Value} {n : Nat} {f : Array Value → Array Value} {t' : Nat} (I : Inv X pins σ H s) (hH : H l = some (.lst xs))
    (e : s.heap.get? l = some { cls := .type "list", data := .seq its.toArray n }) (hf : f its.toArray = its'.toArray) (hv : Vals ys its') (hz : ys.length ≤ sizeLine) :
    Inv X pins σ (upd H l (.lst ys)) { s with heap := s.heap.update l (Obj.mapSeq f), toks := t' } := by
  have q := PySem.IsL.update e f
  rw [hf] at q
  refine I.write (x := l) (e := l) (by rw [hH]; exact trivial) (.inl rfl) (fun b' u hb hu => (Heap.get?_update_other s.heap (Obj.mapSeq f) (Ne.symm hb)).trans hu) ⟨_, q⟩ ?_
  exact ⟨hz, its', _, hv, q⟩
theorem Inv.lnew {its : List Value} {t' : Nat} (I : Inv X pins σ H s) (hv : Vals ys its) (hz : ys.length ≤ sizeLine) :
    Inv X pins σ (upd H s.heap.objs.size (.lst ys)) { s with heap := s.heap.push { cls := .type "list", data := .seq its.toArray }, toks := t' } :=
  I.laid (fun _ _ q => Heap.get?_push_of_some _ q) (Nat.le_refl _) ⟨hz, its, 0, hv, Heap.get?_push_size _ rfl⟩
theorem Inv.fresh (I : Inv X pins σ H s) : H s.heap.objs.size = none := I.hok.fresh (Nat.le_refl _)
theorem Inv.lstM (I : Inv X pins σ H s) (hH : H l = some (.lst xs)) : xs.length ≤ sizeLine ∧ ∃ (its : List Value) (n : Nat), Vals xs its ∧ xs.length = its.length ∧ s.heap.get? l = some { cls := .type "list", data := .seq its.toArray n } := by
  obtain ⟨z, its, n, r, e⟩ := I.hok l _ hH
  exact ⟨z, its, n, r, r.length, e⟩

theorem notLongL {n : Nat} (h : n ≤ sizeLine) : Builtin.List.listTooLong n = false := by
  unfold Builtin.List.listTooLong
  exact decide_eq_false (by (first | lia | omega))
end

section
variable {X : Cx}

def rAppend : V → List V → Hp → VK → Prop := fun x vs H Q => ∃ l xs y, x = .ref l ∧ vs = [y] ∧ H l = some (.lst xs) ∧ xs.length < sizeLine ∧ Q .non (upd H l (.lst (xs ++ [y])))
theorem mt_append : MtM X "list.append" rAppend := by
  intro pins s σ H x vs v us Q I rx rv h
  obtain ⟨l, xs, y, rfl, rfl, hH, hz, q⟩ := h
  cases rx
  obtain ⟨u, rfl, ru⟩ := rv.one
  obtain ⟨z, its, n, r, hl, e⟩ := I.lstM hH
  refine call_meets F.slot_list_append ⟨_, e, rfl⟩ F.entry_list_append (F.args_list_append_2 _ _) (PySem.list_append l its.toArray n u (by rw [List.size_toArray]; (first | lia | omega))) ⟨e, ?_⟩
  refine ⟨.non, _, I.lset (its' := its ++ [u]) hH e (by simp) (r.append (.cons ru .nil)) ?_, rfl, q⟩
  rw [List.length_append, List.length_singleton]
  (first | lia | omega)

def rExtend : V → List V → Hp → VK → Prop := fun x vs H Q => ∃ l b xs zs, x = .ref l ∧ vs = [.ref b] ∧ H l = some (.lst xs) ∧ H b = some (.lst zs) ∧ xs.length + zs.length ≤ sizeLine ∧ Q .non (upd H l (.lst (xs ++ zs)))
theorem mt_extend : MtM X "list.extend" rExtend := by
  intro pins s σ H x vs v us Q I rx rv h
  obtain ⟨l, b, xs, zs, rfl, rfl, hH, hB, hz, q⟩ := h
  cases rx
  obtain ⟨u, rfl, ru⟩ := rv.one
  cases ru
  obtain ⟨z, its, n, r, hl, e⟩ := I.lstM hH
  obtain ⟨z2, its2, n2, r2, hl2, e2⟩ := I.lstM hB
  have hsz : its.toArray.size + its2.toArray.size ≤ sizeLine := by rw [List.size_toArray, List.size_toArray]; (first | lia | omega)
  have hlong : ¬ (!its.toArray.isEmpty && Builtin.List.listTooLong (its.toArray.size + its2.toArray.size)) = true := by
    rw [notLongL hsz, Bool.and_false]
    exact Bool.false_ne_true
  refine call_meets F.slot_list_extend ⟨_, e, rfl⟩ F.entry_list_extend (F.args_list_extend_2 _ _)
    (AutoSeq1.list_extend_list_list_0 l its.toArray n b its2.toArray n2 hlong (by rw [List.size_toArray]; (first | lia | omega)) (by (first | lia | omega))) ⟨e, e2, ?_⟩
  refine ⟨.non, _, I.lset (its' := its ++ its2) hH e (by simp) (r.append r2) ?_, rfl, q⟩
  rw [List.length_append]
  (first | lia | omega)

def rRep : R2 := fun x y H Q => ∃ l k xs, x = .ref l ∧ y = .int k ∧ H l = some (.lst xs) ∧ -(2 ^ 63) ≤ k ∧ k < 2 ^ 63 ∧ xs.length * k.toNat ≤ sizeLine ∧
  ∀ p, H p = none → Q (.ref p) (upd H p (.lst (List.replicate k.toNat xs).flatten))
theorem len_rep {α : Type} (xs : List α) (k : Nat) : (List.replicate k xs).flatten.length = k * xs.length := by
  induction k with
  | zero => simp
  | succ k ih => rw [List.replicate_succ, List.flatten_cons, List.length_append, ih, Nat.succ_mul, Nat.add_comm]
theorem op_rep : OpR X (binaryOp .Mult) rRep := by
  intro pins s σ H x y v u Q I rx ry h
  obtain ⟨l, k, xs, rfl, rfl, hH, h1, h2, hz, q⟩ := h
  cases rx
  obtain ⟨t, rfl⟩ := ry
  obtain ⟨z, its, n, r, hl, e⟩ := I.lstM hH
  have hlen : its.toArray.size * k.toNat ≤ sizeLine := by rw [List.size_toArray, ← hl]; exact hz
  have hcap : ¬ its.toArray.size * k.toNat > (2 ^ 63 - 1) / 8 := by
    have : (sizeLine : Nat) ≤ (2 ^ 63 - 1) / 8 := by decide
    (first | lia | omega)
  have hfit : ¬ (!Builtin.List.listFitsIndex k) = true := by
    rw [fitsIndex_both h1 h2]
    exact Bool.false_ne_true
  have hlong : ¬ Builtin.List.listTooLong (its.toArray.size * k.toNat) = true := by
    rw [notLongL hlen]
    exact Bool.false_ne_true
  have hnew : List.foldl (fun x1 x2 => x1 ++ x2) #[] (List.replicate (if its.toArray.isEmpty = true then 0 else k.toNat) its.toArray) = (List.replicate k.toNat its).flatten.toArray := by
    have f0 : ∀ m : Nat, List.foldl (fun x1 x2 => x1 ++ x2) #[] (List.replicate m its.toArray) = (List.replicate m its).flatten.toArray := fun m => by
      have := foldl_rep its m []
      rw [List.nil_append] at this
      exact this
    rw [f0]
    cases its with
    | nil => simp
    | cons a r' => rw [if_neg (by simp)]
  refine wpAny_binaryOp_repeat_ref (T := "list") (U := "int") (by decide) ⟨_, e, rfl⟩ (fun s' => typeIs_int s' k t) noFill_list_mul F.fills_int_mul F.slot_int_rmul repeat_list F.slot_int_index.lookup
    (call_meets F.slot_int_rmul (typeIs_int s k t) F.entry_int_rmul (F.args_int_rmul_2 _ _) (int___rmul___int_list k t l its.toArray n)
      ⟨e, rfl, ⟨_, e, rfl⟩, call_meets F.slot_list_mul ⟨_, e, rfl⟩ F.entry_list_mul (F.args_list_mul_2 _ _) (AutoListH.list___mul___list_int_3 l its.toArray n k t hfit hcap hlong) ⟨e, ?_⟩⟩)
  rw [hnew]
  exact ⟨.ref _, _, I.lnew (t' := s.toks) (r.rep k.toNat) (by rw [len_rep, Nat.mul_comm]; exact hz), rfl, q _ I.fresh⟩

end

section
variable {prog : Program} {w : World} {A : Around} {E : Value → Shared → Prop} {s : Shared}
end

section
variable {X : Cx}
end
end L2

namespace Att
open PySem PySem.W PySem.Calls PyProof.Rows

theorem ints_of_wellAll {P : Params} {h : Heap} : ∀ (ns : List Int) (vs : List Value), WellAll P h vs (ns.map WData.int) → IntsAre vs ns := by
  intro ns
  induction ns with
  | nil =>
    intro vs w
    rw [List.map_nil] at w
    cases w
    exact .nil
  | cons n ns ih =>
    intro vs w
    rw [List.map_cons] at w
    cases w with
    | cons a b =>
      cases a
      exact .cons _ _ (ih _ b)

theorem script_of {l : OpenLaw} {n : Nat} (hn : l.most = some n) {P : Params} {h : Heap} {args : List WData} {vals : List Value}
    (hpre : l.row.toRowW.claim.pre args = true) (hwl : WellAll P h vals args) :
    ∃ a vs ns, vals = [Value.ref a] ∧ args = [WData.list (ns.map WData.int)] ∧ h.get? a = some { cls := .type "list", data := .seq vs.toArray } ∧ IntsAre vs ns ∧ ns.length ≤ n := by
  have hsh : WShape.hasAll [] args [.list .int] = true := (pre_splitW hpre).1
  have hc : l.pre.holds [] { args := args } = true := (pre_splitW hpre).2
  obtain ⟨d, r, rfl, h1, h2⟩ := hasAllW_cons hsh
  obtain rfl := hasAllW_nil h2
  obtain ⟨xs, rfl, h3⟩ := hasW_list h1
  obtain ⟨ns, rfl⟩ := items_int h3
  have hlen : ns.length ≤ n := by
    unfold OpenLaw.pre at hc
    have h4 : (WTm.not (.lt (.lit (.int (n : Int))) (.len (.arg 0)))).holds [] { args := [.list (ns.map .int)] } = true := by
      have h4 := (holds_andW hc).1
      rw [hn] at h4
      exact h4
    have h5 := condW_of h4 (w_not (w_lt w_lit (w_len_list (w_arg rfl))))
    rw [List.length_map] at h5
    refine Nat.le_of_not_lt fun q => ?_
    have q' : (n : Int) < ((ns.length : Nat) : Int) := by (first | lia | omega)
    first
      | (rw [decide_eq_true q'] at h5; exact absurd h5 (by decide))
      | (simp at h5; (first | lia | omega))
  cases hwl with
  | cons w1 w2 =>
    cases w2
    cases w1 with
    | list ho hall => exact ⟨_, _, ns, rfl, rfl, ho, ints_of_wellAll ns _ hall, hlen⟩

theorem post_true (l : OpenLaw) (args : List WData) : l.row.toRowW.claim.post args (.bool true) args = true :=
  postW_of (r := l.row.toRowW) (X := (true == true))
    (show WShape.has [] (.bool true) .bool = true by first | rfl | decide | simp [WShape.has, WShape.arms, WShape.armsAll])
    (show (WTm.eq .res (.lit (.bool true))).value [] { args := args, res := some (.bool true), after := args } = some (.bool (true == true)) from w_eq_bool (w_res rfl) w_lit) rfl

theorem attach_call {l : OpenLaw} {n : Nat} {q : Program} {loose : List Str} {XP : (Str → Option Value) → Heap → Prop} {YP : World → Heap → Prop} {d : DefRec}
    (hn : l.most = some n) (hdf : d.params.defaults = [])
    (call : ∀ (w : World) (s₀ s₁ : Shared) (mg mb : Str → Option Value) (fa : Addr) (o : Obj) (pm cd doc : Value) (a : Addr) (vs : List Value) (ns : List Int),
      Ground q loose [] XP w s₀ mg mb s₁.heap → YP w s₁.heap →
      s₁.heap.get? fa = some o → o.data = .func (docDef d.name d.params d.body d.scope pm cd doc) → s₁.heap.CodeRec cd d.name → mg d.name = some (.ref fa) →
      s₁.heap.get? a = some { cls := .type "list", data := .seq vs.toArray } → IntsAre vs ns → ns.length ≤ n → s₁.gens = #[] →
      codeAny (model l.prog w) callerA (.call (.ref fa) ⟨[.ref a], []⟩) (fun r s' => r = .ok (.ret (.bool true)) ∧ OldK s₁.heap s'.heap ∧ s'.os = s₁.os ∧ AllBare s'.gens) s₁) :
    WalkO q loose XP YP l.row.toRowW d [] (fun f vs => PySem.call f vs) := by
  intro w s₀ s₁ mg mb G Y fa o pm cd doc dV kV ho hd hcd hD hmg hg args vals as hpre hlay hrd hwl hlo
  obtain rfl : dV = .none := Dflts.none hD hdf
  obtain rfl : kV = .none := Dflts.noKw hD
  obtain ⟨a, vs, ns, rfl, rfl, hobj, hints, hlen⟩ := script_of hn hpre hwl
  refine enter_call (codeAny_mono (call w s₀ s₁ mg mb fa o pm cd doc a vs ns G Y ho (fd_plain hd) hcd hmg hobj hints hlen hg) fun r s' hq => ?_)
  obtain ⟨rfl, h2, h3, h4⟩ := hq
  exact ⟨.inl ⟨.bool true, .bool true, [], rfl, fun _ => rfl, .bool true, post_true l _, fun _ => ⟨List.Pairwise.nil, fun _ hm => (nomatch hm)⟩⟩, h2, h3, h4⟩

section
variable {prog : Program} {w : World} {A : Around} {E : Value → Shared → Prop} {s : Shared} {K : Frag}

end
end Att

namespace L2
open PySem PySem.Spec PyProof.Rows

theorem vals_ints : ∀ {vs : List Value} {ns : List Int}, IntsAre vs ns → Vals (ns.map V.int) vs
  | _, _, .nil => .nil
  | _, _, .cons n t h => .cons ⟨t, rfl⟩ (vals_ints h)

def Only (H : Hp) : Prop := ∀ b, H b = none ∨ ∃ o xs, H b = some (.frz o (.lst xs))

theorem law_call {P : Program} {w : World} {K : PySem.W.Frag} {mg mb : Str → Option Value} {CX : CXT} {k : Nat} {fa a : Addr} {fd : FuncData} {x : Str} {sp : Sp} {s₁ : Shared} {vs : List Value} {ns : List Int}
    (KX : K.In s₁.heap) (hns : s₁.heap.Ns mainGlobals mg) (hb : s₁.heap.Ns builtinsNs mb) (hbb : ∀ x : Str, x ≠ "__name__" → mb x = bootBuiltins x) (hlim : s₁.heap.NoLimit) (hg : s₁.gens = #[])
    (ha : s₁.heap.get? a = some { cls := .type "list", data := .seq vs.toArray }) (hi : IntsAre vs ns) (hl : ns.length ≤ sizeLine) (hr : Room k callerA)
    (F : ∀ base : Heap, K.In base → base.Ns mainGlobals mg → FnOk P w K mg base CX k fa fd [x] sp) (hbind : ∀ (s : Shared) (u : Value), BindsTo s fd ⟨[u], []⟩ [(x, u)])
    (hsp : ∀ H : Hp, Only H → SqL K H a (ns.map V.int) → sp [.ref a] H (fun v _ => v = .bl true) fun _ _ _ => False)
    (hCX : ∀ H e s', CX [] H s₁ (fun _ _ _ => False) e s' → False) :
    codeAny (model P w) callerA (.call (.ref fa) ⟨[.ref a], []⟩) (fun r s' => r = .ok (.ret (.bool true)) ∧ OldK s₁.heap s'.heap ∧ s'.os = s₁.os ∧ AllBare s'.gens) s₁ := by
  have rv := vals_ints hi
  have lenV := hi.length
  -- from an abstract heap in which nothing but the script may be tracked
  have core : ∀ H : Hp, Only H → SqL K H a (ns.map V.int) → HOk P w H s₁.heap → (∀ b, H b ≠ none → b = a) → (H a ≠ none → K.lookup a = none) →
      codeAny (model P w) callerA (.call (.ref fa) ⟨[.ref a], []⟩) (fun r s' => r = .ok (.ret (.bool true)) ∧ OldK s₁.heap s'.heap ∧ s'.os = s₁.os ∧ AllBare s'.gens) s₁ := by
    intro H hO hS hok hA hK
    have base_of : ∀ {b : Addr} {o : Obj}, s₁.heap.get? b = some o → H b = none → (hidT s₁.heap H).get? b = some o := fun e n => hidT_get e n
    have noA : ∀ {b : Addr} {o : Obj} {es : Array DictEntry} {ep : Nat}, s₁.heap.get? b = some o → o.data = .dict es ep → H b = none := fun {b o es ep} e d => by
      cases q : H b with
      | none => rfl
      | some u =>
        have e' : b = a := hA b (by rw [q]; simp)
        subst e'
        rw [ha] at e; cases e
        have d' : Data.seq vs.toArray _ = Data.dict es ep := d
        cases d'
    have nsK : ∀ {b : Addr} {m : Str → Option Value}, s₁.heap.Ns b m → (hidT s₁.heap H).Ns b m := fun {b m} ⟨o, es, ep, e, d, r⟩ => ⟨o, es, ep, base_of e (noA e d), d, r⟩
    have hKb : K.In (hidT s₁.heap H) := fun b o e => base_of (KX b o e) (by
      cases q : H b with
      | none => rfl
      | some u =>
        have e' : b = a := hA b (by rw [q]; simp)
        subst e'
        rw [hK (by rw [q]; simp)] at e; cases e)
    have hM : Mod K mg (hidT s₁.heap H) := ⟨hKb, nsK hns, ⟨mb, nsK hb, hbb⟩, let ⟨mc, h1, h2⟩ := hlim; ⟨mc, nsK h1, h2⟩⟩
    have e0 : Env0 P w K mg (hidT s₁.heap H) callerA [] s₁ H := ⟨rfl, hM, fun b o e => of_hidT e, Nat.le_of_eq (hidT_size _ _), trivial, fun b hb => absurd (show b ∈ ([] : List Addr) from hb) (by simp), hok, .of_eq hg⟩
    refine codeAny_mono ((F _ hKb (nsK hns)).run callerA [] s₁ H ⟨[.ref a], []⟩ [.ref a] [.ref a] _ _ hr e0 (hbind s₁ (.ref a)) (.cons rfl .nil) (hsp H hO hS)) fun r s' h => ?_
    cases r with
    | error e => exact (hCX H e s' h).elim
    | ok fl =>
      cases fl with
      | next => exact False.elim h
      | brk => exact False.elim h
      | cont => exact False.elim h
      | ret u =>
        obtain ⟨v, H', os, bare, un, hok', r', q⟩ := h
        have q' : v = .bl true := q
        subst q'
        obtain rfl : u = Value.bool true := r'
        refine ⟨rfl, OldK.of_keep fun b o e => ?_, os, bare⟩
        cases q : H b with
        | none => exact un.keep b o e q (by intro z; exact absurd (show b ∈ ([] : List Addr) from z) (by simp)) (by simp)
        | some u =>
          rcases hO b with z | ⟨ob, xs, z⟩
          · rw [q] at z; cases z
          · have z2 := un.frzs b ob _ z
            obtain ⟨e1, _⟩ := hok b _ z
            obtain ⟨e2, _⟩ := hok' b _ z2
            rw [e] at e1; cases e1
            exact e2
  cases hk : K.lookup a with
  | some o =>
    -- the script is one of the module's own objects
    have e := KX a o hk
    rw [ha] at e
    cases e
    refine core (fun _ => none) (fun _ => .inl rfl) (.inr ⟨_, vs.toArray, _, hk, rfl, rfl, rfl, by rw [List.size_toArray, lenV]; exact hl, by simpa using rv⟩) (fun b u z => by have z' : (none : Option HO) = some u := z; cases z') (fun b z => absurd rfl z) fun z => absurd rfl z
  | none =>
    refine core (fun b => if b = a then some (.frz { cls := .type "list", data := .seq vs.toArray } (.lst (ns.map V.int))) else none) (fun b => ?_) (.inl (.inr ⟨{ cls := .type "list", data := .seq vs.toArray }, if_pos rfl⟩)) (fun b u z => ?_) (fun b z => ?_) fun _ => hk
    · by_cases hb : b = a
      · exact .inr ⟨_, _, if_pos hb⟩
      · exact .inl (if_neg hb)
    · by_cases hb : b = a
      · have z' := (if_pos hb).symm.trans z
        cases z'
        subst hb
        exact ⟨ha, by rw [List.length_map]; exact hl, vs, _, rv, ha⟩
      · have z' := (if_neg hb).symm.trans z
        cases z'
    · by_cases hb : b = a
      · exact hb
      · exact absurd (if_neg hb) z
end L2

namespace L2
open PySem PySem.Spec PyProof.Rows

theorem walk_of {l : PySem.W.OpenLaw} {n k : Nat} {q : Program} {loose : List Str} {XP : (Str → Option Value) → Heap → Prop} {YP : World → Heap → Prop} {d : DefRec} {K : Params → PySem.W.Frag} {CX : World → CXT} {sp : World → Sp} {x : Str}
    (hn : l.most = some n) (hn2 : n ≤ sizeLine) (hdf : d.params.defaults = []) (hr : Room k callerA)
    (hY : ∀ (w : World) (h : Heap), YP w h → (K w.params).In h)
    (F : ∀ (w : World) (mg : Str → Option Value) (fa : Addr) (h : Heap), (K w.params).In h → h.Ns mainGlobals mg → mg d.name = some (.ref fa) →
      ∃ fd : FuncData, (∀ (s : Shared) (u : Value), BindsTo s fd ⟨[u], []⟩ [(x, u)]) ∧
        ∀ base : Heap, (K w.params).In base → base.Ns mainGlobals mg → FnOk l.prog w (K w.params) mg base (CX w) k fa fd [x] (sp w))
    (hsp : ∀ (w : World) (H : Hp) (a : Addr) (ns : List Int), ns.length ≤ n → Only H → SqL (K w.params) H a (ns.map V.int) → sp w [.ref a] H (fun v _ => v = .bl true) fun _ _ _ => False)
    (hCX : ∀ (w : World) (H : Hp) (s : Shared) (e : Value) (s' : Shared), CX w [] H s (fun _ _ _ => False) e s' → False) :
    PySem.W.WalkO q loose XP YP l.row.toRowW d [] (fun f vs => PySem.call f vs) := by
  refine Att.attach_call hn hdf fun w s₀ s₁ mg mb fa o pm cd doc a vs ns G Y ho hd hcd hmg hobj hints hlen hg => ?_
  have KX := hY w _ Y
  obtain ⟨fd, hb, hF⟩ := F w mg fa _ KX G.T.g hmg
  exact law_call KX G.T.g G.T.b G.T.builtins G.T.nolimit hg hobj hints (Nat.le_trans hlen hn2) hr hF hb (fun H hO hS => hsp w H a ns hlen hO hS) fun H e s' => hCX w H s₁ e s'
end L2

/- THE LAST THEOREM (shape; LID, My.* are yours):
   My.Adr: a structure of the addresses that your layer names (classes, functions); My.Txt K t: a structure (Prop) of the equations over K;
   My.txt_mk : {K} {implicit addresses ..} (e1 : nsIn K mainGlobals "law" = some (some (.ref f))) (e2 : K.lookup f = some ⟨oc, od, .func (fnOf "law" "law" params body scope dV kV doc pm an cdv ct), sl⟩) (e3 : codeIn K cdv "law" = true) .. : ∃ t, My.Txt K t

set_option maxRecDepth 100000 in
set_option maxHeartbeats 0 in
theorem PySem.Challenge.cw_LID_holds : PySem.Challenge.rw_LID.Holds := by
  w_on; o_law; k_head; (case hw => w_witness2)
  k_fill
  refine L2.walk_of (l := PySem.Challenge.rw_LID) (n := 63) (k := 40) (x := "script") (CX := fun w => ..) (sp := fun _ => My.sp_law) rfl (by decide) rfl ⟨rfl, by decide, by decide⟩ (fun w h Y => PySem.W.kIn_of Y) ?F ?S ?C
  case F =>
    intro w mg fa h KX G hmg
    have T : ∃ t, My.Txt (L2.KOf KX) t := by
      dsimp only [L2.KOf]                          -- K must stand as «<heap const> w.params» for k_is
      refine' My.txt_mk ?e1 ?e2 ?e3 ..
      (case e1 => PySem.W.k_is)                    -- in the order: a name -> its address -> its object -> its parts
      (case e2 => PySem.W.k_is)
      ..
    obtain ⟨t, T⟩ := T
    have e0 := hmg.symm.trans (PySem.W.mg_of KX G T.law)
    cases e0                                       -- fa is the law's own address
    exact ⟨_, fun s u => .of_eq rfl, fun base kb nb => My.law_fn T kb nb⟩     -- if «.of_eq rfl» comes too early: refine' ⟨_, ?b, fun base kb nb => My.law_fn T kb nb⟩; exact fun s u => .of_eq rfl
  case S => exact fun w H a ns hl hO hS => ..
  case C => exact ..
(the tactic k_is has no namespace: write k_is) -/

namespace L2
open PySem PySem.Spec PyProof.Rows

def defArgs (s : Stmt) : Arguments := match s with
  | .FunctionDef _ a _ _ _ _ _ _ _ _ => a
  | _ => { posonlyargs := [], args := [], vararg := none, kwonlyargs := [], kw_defaults := [], kwarg := none, defaults := [] }
def defBody (s : Stmt) : List Stmt := match s with
  | .FunctionDef _ _ b _ _ _ _ _ _ _ => b
  | _ => []
def defScope (s : Stmt) : Scope := match s with
  | .FunctionDef _ _ _ _ _ _ sc _ _ _ => sc
  | _ => { kind := .function, names := [], isGenerator := false, isCoroutine := false }

abbrev CX0 : CXT := fun _ _ _ _ _ _ => False
abbrev E0 : XK := fun _ _ _ => False
theorem pass0 {X : Cx} : Passes CX0 X E0 := fun _ _ _ _ _ _ _ h => h.elim

structure Fun (K : PySem.W.Frag) (x qual : Str) (st : Stmt) (f : Addr) (fd : FuncData) : Prop where
  ex : ∃ (oc : Value) (od : Option Addr) (kV doc pm : Value) (an : Option Addr) (cdv ct : Value) (osl : Array (Option Value)),
    fd = PySem.W.fnOf x qual (defArgs st) (defBody st) (defScope st) .none kV doc pm an cdv ct ∧ K.lookup f = some ⟨oc, od, .func fd, osl⟩ ∧ PySem.W.codeIn K cdv qual = true
  kp : PySem.W.keepIn K (.ref f) = true
section
variable {P : Program} {w : World} {K : PySem.W.Frag} {mg : Str → Option Value} {base : Heap}
theorem Fun.ok {x qual : Str} {st : Stmt} {f : Addr} {fd : FuncData} {N ps : List Str} {k : Nat} {sp : Sp} (F : Fun K x qual st f fd) (S : FnScope N ps (defScope st)) (len : ∀ vs H Q E, sp vs H Q E → vs.length = ps.length)
    (hbody : ∀ (cdv : Value) (A : Around) (outer : List Env) (s : Shared) (H : Hp) (vs : List V) (Q : VK) (E : XK), Room k (A.deeper (envOfC qual (defScope st) s.heap.objs.size f cdv)) → sp vs H Q E →
      ∃ t, PSs (cxOf CX0 P w K mg base N qual (defScope st) f cdv A outer s H E).nox (defBody st) t ∧ t { nx := fun _ H' => Q .non H', rt := Q } (start N vs) H) : FnOk P w K mg base CX0 (k + 1) f fd ps sp := by
  obtain ⟨oc, od, kV, doc, pm, an, cdv, ct, osl, rfl, lk, hcd⟩ := F.ex
  refine fn_of lk hcd S len fun A outer s H vs Q E hr hsp => ?_
  obtain ⟨t, h, q⟩ := hbody cdv A outer s H vs Q E hr hsp
  exact ⟨t, h.nox, q⟩
theorem Fun.binds {x qual : Str} {st : Stmt} {f : Addr} {fd : FuncData} {ps : List Str} (F : Fun K x qual st f fd)
    (h : ∀ (kV doc pm : Value) (an : Option Addr) (cdv ct : Value) (us : List Value), us.length = ps.length → bindArgs (PySem.W.fnOf x qual (defArgs st) (defBody st) (defScope st) .none kV doc pm an cdv ct) ⟨us, []⟩ = pure (ps.zip us)) : Binds K fd ps [] := by
  obtain ⟨oc, od, kV, doc, pm, an, cdv, ct, osl, rfl, lk, hcd⟩ := F.ex
  exact .all (h kV doc pm an cdv ct)
theorem fun_mk {x qual : Str} {st : Stmt} {f : Addr} {oc : Value} {od an : Option Addr} {osl : Array (Option Value)} {kV doc pm cdv ct : Value} (l : K.lookup f = some ⟨oc, od, .func (PySem.W.fnOf x qual (defArgs st) (defBody st) (defScope st) .none kV doc pm an cdv ct), osl⟩)
    (c : PySem.W.codeIn K cdv qual = true) (k : PySem.W.keepIn K (.ref f) = true) : Fun K x qual st f (PySem.W.fnOf x qual (defArgs st) (defBody st) (defScope st) .none kV doc pm an cdv ct) := ⟨⟨oc, od, kV, doc, pm, an, cdv, ct, osl, rfl, l, c⟩, k⟩
end
theorem hu_of {A : Around} {k : Nat} (hr : Room k A) : A.units + 1 < cLine := Nat.lt_of_le_of_lt (Nat.add_le_add_left (by decide : 1 ≤ 64) _) hr.units
theorem small1000 {n : Nat} (h : n ≤ 1000) : n < sizeLine := Nat.lt_of_le_of_lt h (by decide)

section
variable {X : Cx}
theorem pv (i : Nat) {x : Str} {pos : Pos} (hN : X.N[i]? = some x := by rfl) (hv : Vis X.env.scope x := by first | exact Or.inl rfl | exact Or.inr (Or.inl rfl) | exact Or.inr (Or.inr rfl)) (hd : (x == ("__debug__" : Str)) = false := by decide)
    (hcd : (x == ("__classdict__" : Str)) = false := by decide) : PE X (.Name x pos) (tVar i) := pe_var hN hv hd hcd
end

theorem iteF {A B : Prop} (h : B) : if false = true then A else B := by
  rw [if_neg Bool.false_ne_true]
  exact h
theorem iteT {A B : Prop} (h : A) : if true = true then A else B := by
  rw [if_pos rfl]
  exact h
theorem ite2 {c A B : Prop} [Decidable c] (h1 : c → A) (h2 : ¬ c → B) : if c then A else B := by
  by_cases h : c
  · rw [if_pos h]
    exact h1 h
  · rw [if_neg h]
    exact h2 h
theorem iteNS {c A B : Prop} [Decidable c] (hc : c) (h : B) : if (!decide c) = true then A else B := by
  rw [decide_eq_true hc]
  exact iteF h

def Same (H H' : Hp) : Prop := ∀ b o, H b = some o → H' b = some o
theorem Same.refl (H : Hp) : Same H H := fun _ _ h => h
theorem Same.trans {H H1 H2 : Hp} (a : Same H H1) (b : Same H1 H2) : Same H H2 := fun c o h => b c o (a c o h)
theorem Same.free {H H' : Hp} (e : Same H H') {l : Addr} (h : H' l = Option.none) : H l = Option.none := by
  cases q : H l with
  | none => rfl
  | some o =>
    rw [e l o q] at h
    cases h
theorem Same.seq {K : PySem.W.Frag} {H H' : Hp} {a : Addr} {xs : List V} (e : Same H H') (h : SqL K H a xs) : SqL K H' a xs := by
  rcases h with (h | ⟨o, h⟩) | h
  · exact .inl (.inl (e _ _ h))
  · exact .inl (.inr ⟨o, e _ _ h⟩)
  · exact .inr h

end L2

namespace L2
open PySem PySem.Spec PyProof.Rows

def closOf (cells : List (Str × Addr)) : List (Str × NameKind) → List (Str × Addr) → List (Str × Addr)
  | [], cs => cs
  | (n, k) :: r, cs => closOf cells r (if (k == NameKind.free) = true then (n, (cells.lookup n).getD 0) :: cs else cs)
theorem closure_go {env : Env} {f : Str × NameKind → List (Str × Addr) → Sem (ForInStep (List (Str × Addr)))}
    (hf1 : ∀ n k cs c, (k == NameKind.free) = true → env.cells.lookup n = some c → f (n, k) cs = pure (.yield ((n, c) :: cs)))
    (hf2 : ∀ n k cs, (k == NameKind.free) = false → f (n, k) cs = pure (.yield cs)) :
    ∀ (names : List (Str × NameKind)) (cs : List (Str × Addr)), (∀ n k, (n, k) ∈ names → (k == NameKind.free) = true → ∃ c, env.cells.lookup n = some c) →
      forIn names cs f = (pure (closOf env.cells names cs) : Sem (List (Str × Addr)))
  | [], cs, _ => by rw [List.forIn_nil]; rfl
  | (n, k) :: r, cs, h => by
    have ih := fun cs => closure_go hf1 hf2 r cs fun m j hm => h m j (List.mem_cons_of_mem _ hm)
    rw [List.forIn_cons]
    cases e : (k == NameKind.free) with
    | true =>
      obtain ⟨c, hc⟩ := h n k List.mem_cons_self e
      rw [hf1 n k cs c e hc, pure_bind]
      show forIn r ((n, c) :: cs) f = _
      rw [ih]
      conv => rhs; unfold closOf
      rw [if_pos e, hc]
      rfl
    | false =>
      rw [hf2 n k cs e, pure_bind]
      show forIn r cs f = _
      rw [ih]
      conv => rhs; unfold closOf
      rw [if_neg (by rw [e]; exact Bool.false_ne_true)]
theorem closure_is {scope : Scope} {env : Env} (h : ∀ n k, (n, k) ∈ scope.names → (k == NameKind.free) = true → ∃ c, env.cells.lookup n = some c) : closureFor scope env = pure (closOf env.cells scope.names []) := by
  simp only [closureFor]
  rw [closure_go (env := env) ?_ ?_ scope.names [] h]
  · rfl
  · intro n k cs c e hc
    show (if (k == NameKind.free) = true then _ else _) = _
    rw [if_pos e]
    unfold cellOf
    rw [hc]
    rfl
  · intro n k cs e
    show (if (k == NameKind.free) = true then _ else _) = _
    rw [if_neg (by rw [e]; exact Bool.false_ne_true)]
theorem closOf_look {cells : List (Str × Addr)} {x : Str} {c : Addr} : ∀ {names : List (Str × NameKind)} {cs : List (Str × Addr)}, (closOf cells names cs).lookup x = some c → cs.lookup x = some c ∨ ((x, NameKind.free) ∈ names ∧ (cells.lookup x).getD 0 = c)
  | [], cs, h => .inl h
  | (n, k) :: r, cs, h => by
    unfold closOf at h
    rcases closOf_look h with q | ⟨q1, q2⟩
    · by_cases e : (k == NameKind.free) = true
      · rw [if_pos e] at q
        by_cases hx : x = n
        · subst hx
          rw [List.lookup_cons_self] at q
          have hk : k = NameKind.free := eq_of_beq e
          exact .inr ⟨by rw [hk]; exact List.mem_cons_self, Option.some.inj q⟩
        · have hb : (x == n) = false := beq_eq_false_iff_ne.mpr hx
          simp only [List.lookup_cons, hb] at q
          exact .inl q
      · rw [if_neg e] at q
        exact .inl q
    · exact .inr ⟨List.mem_cons_of_mem _ q1, q2⟩
theorem closOf_has {cells : List (Str × Addr)} {x : Str} : ∀ {names : List (Str × NameKind)} {cs : List (Str × Addr)}, ((x, NameKind.free) ∈ names ∨ ∃ c, cs.lookup x = some c) → ∃ c, (closOf cells names cs).lookup x = some c
  | [], cs, h => by
    rcases h with h | h
    · cases h
    · exact h
  | (n, k) :: r, cs, h => by
    unfold closOf
    apply closOf_has
    rcases h with h | ⟨c, h⟩
    · rcases List.mem_cons.mp h with h | h
      · cases h
        right
        rw [if_pos (by rfl)]
        exact ⟨_, List.lookup_cons_self⟩
      · exact .inl h
    · right
      by_cases e : (k == NameKind.free) = true
      · rw [if_pos e]
        by_cases hx : x = n
        · subst hx
          exact ⟨_, List.lookup_cons_self⟩
        · have hb : (x == n) = false := beq_eq_false_iff_ne.mpr hx
          exact ⟨c, by simp only [List.lookup_cons, hb]; exact h⟩
      · rw [if_neg e]
        exact ⟨c, h⟩
theorem relabel_look {env : Env} {x : Str} {k : NameKind} : ∀ {names : List (Str × NameKind)},
    (names.map fun (n, k) => if (k == NameKind.free && env.scope.kind == .function && env.kindOf n == some .cell) then (n, NameKind.cell) else (n, k)).lookup x = some k →
      ∃ k0, names.lookup x = some k0 ∧ (k = k0 ∨ (k0 = .free ∧ k = .cell))
  | [], h => by cases h
  | (n, j) :: r, h => by
    have ih := @relabel_look env x k r
    replace h : List.lookup x ((if (j == NameKind.free && env.scope.kind == .function && env.kindOf n == some .cell) = true then (n, NameKind.cell) else (n, j)) :: _) = some k := h
    cases hx : x == n with
    | true =>
      by_cases hc : (j == NameKind.free && env.scope.kind == .function && env.kindOf n == some .cell) = true
      · rw [if_pos hc] at h
        simp only [List.lookup_cons, hx] at h ⊢
        have hj : j = NameKind.free := by
          rw [Bool.and_eq_true, Bool.and_eq_true] at hc
          exact eq_of_beq hc.1.1
        exact ⟨j, rfl, .inr ⟨hj, (Option.some.inj h).symm⟩⟩
      · rw [if_neg hc] at h
        simp only [List.lookup_cons, hx] at h ⊢
        exact ⟨j, rfl, .inl (Option.some.inj h).symm⟩
    | false =>
      by_cases hc : (j == NameKind.free && env.scope.kind == .function && env.kindOf n == some .cell) = true
      · rw [if_pos hc] at h
        simp only [List.lookup_cons, hx] at h ⊢
        exact ih h
      · rw [if_neg hc] at h
        simp only [List.lookup_cons, hx] at h ⊢
        exact ih h
theorem relabel_free {env : Env} {x : Str} : ∀ {names : List (Str × NameKind)}, names.lookup x = some .free →
    (names.map fun (n, k) => if (k == NameKind.free && env.scope.kind == .function && env.kindOf n == some .cell) then (n, NameKind.cell) else (n, k)).lookup x = some .cell ∨
    (names.map fun (n, k) => if (k == NameKind.free && env.scope.kind == .function && env.kindOf n == some .cell) then (n, NameKind.cell) else (n, k)).lookup x = some .free
  | [], h => by cases h
  | (n, j) :: r, h => by
    have ih := @relabel_free env x r
    show List.lookup x ((if (j == NameKind.free && env.scope.kind == .function && env.kindOf n == some .cell) = true then (n, NameKind.cell) else (n, j)) :: _) = _ ∨
      List.lookup x ((if (j == NameKind.free && env.scope.kind == .function && env.kindOf n == some .cell) = true then (n, NameKind.cell) else (n, j)) :: _) = _
    cases hx : x == n with
    | true =>
      simp only [List.lookup_cons, hx] at h
      cases h
      by_cases hc : (NameKind.free == NameKind.free && env.scope.kind == .function && env.kindOf n == some .cell) = true
      · rw [if_pos hc]
        simp only [List.lookup_cons, hx]
        exact .inl trivial
      · rw [if_neg hc]
        simp only [List.lookup_cons, hx]
        exact .inr trivial
    | false =>
      simp only [List.lookup_cons, hx] at h
      by_cases hc : (j == NameKind.free && env.scope.kind == .function && env.kindOf n == some .cell) = true
      · rw [if_pos hc]
        simp only [List.lookup_cons, hx]
        exact ih h
      · rw [if_neg hc]
        simp only [List.lookup_cons, hx]
        exact ih h

def cxComp (X : Cx) (N : List Str) (scope : Scope) (xe : Value → Shared → Prop) (C : Addr) (s : Shared) (H : Hp) (fp : List Addr) : Cx where
  prog := X.prog
  w := X.w
  K := X.K
  mg := X.mg
  base := X.base
  A := X.A
  N := N
  s₀ := s
  H₀ := H
  env := compEnvC scope (closOf X.env.cells scope.names []) C X.env
  outer := X.stack
  stack := X.stack
  ex := fp
  fn := fun _ => false
  calm := X.calm
  pn := []
  xe := xe
def takeSt (σ : St) (js : List Nat) : St := js.map fun j => (σ[j]?).getD none
structure CompText (X : Cx) (scope : Scope) (own frees : List Str) (js : List Nat) : Prop where
  kind : scope.kind = .function
  nocell : ∀ y ∈ scope.names, y.2 ≠ .cell
  names : ∀ y ∈ scope.names, y.2 = .local → scope.names.lookup y.1 = some .local
  free : ∀ y ∈ scope.names, y.2 = .free → X.env.scope.names.lookup y.1 = some .cell ∨ X.env.scope.names.lookup y.1 = some .free
  at_ : js.map (fun j => X.N[j]?) = frees.map some
  fr : ∀ x ∈ frees, scope.names.lookup x = some .free
theorem takeSt_get {σ : St} {js : List Nat} {i : Nat} {v : V} (h : (takeSt σ js)[i]? = some (some v)) : ∃ j, js[i]? = some j ∧ σ[j]? = some (some v) := by
  unfold takeSt at h
  rw [List.getElem?_map] at h
  cases e : js[i]? with
  | none => rw [e] at h; cases h
  | some j =>
    rw [e] at h
    have h' : (σ[j]?).getD none = some v := Option.some.inj h
    refine ⟨j, rfl, ?_⟩
    cases q : σ[j]? with
    | none => rw [q] at h'; cases h'
    | some o => rw [q] at h'; rw [show o = some v from h']

section
variable {X : Cx}
theorem closure_ok {pins : List (Addr × Obj)} {σ : St} {H : Hp} {s : Shared} {scope : Scope} {own frees : List Str} {js : List Nat} (I : Inv X pins σ H s) (T : CompText X scope own frees js) :
    ∀ n k, (n, k) ∈ scope.names → (k == NameKind.free) = true → ∃ c, X.env.cells.lookup n = some c := fun n k hm e => by
  have hk : k = NameKind.free := eq_of_beq e
  exact I.ok.has n (T.free (n, k) hm hk)
theorem inv_comp {pins : List (Addr × Obj)} {σ : St} {H : Hp} {s : Shared} {scope : Scope} {own frees : List Str} {js : List Nat} {fp : List Addr} {D C : Addr} {h1 : Heap} {t1 : Nat} {m : Str → Option Value} {xe : Value → Shared → Prop}
    (I : Inv X pins σ H s) (T : CompText X scope own frees js) (hf : ∀ b ∈ fp, FpOk X pins H b) (hfo : ∀ b ∈ fp, ∃ o, s.heap.get? b = some o) (hD : s.heap.objs.size ≤ D) (hC : s.heap.objs.size ≤ C) (hDC : D ≠ C)
    (old : ∀ b o, s.heap.get? b = some o → h1.get? b = some o) (hl : h1.get? D = some { cls := .type "list", data := .seq ([] : List Value).toArray 0 }) (hn : h1.Ns C m) :
    Inv (cxComp X (own ++ frees) scope xe C s H fp) [] (List.replicate own.length none ++ takeSt σ js) (upd H D (.lst [])) { s with heap := h1, toks := t1 } := by
  have cells : ∀ x c, (closOf X.env.cells scope.names []).lookup x = some c → X.env.cells.lookup x = some c := fun x c h => by
    rcases closOf_look h with q | ⟨q1, q2⟩
    · cases q
    · obtain ⟨c', hc'⟩ := closure_ok I T x .free q1 rfl
      rw [hc'] at q2
      rw [hc']
      exact congrArg some q2
  have lt_of : ∀ b o, s.heap.get? b = some o → b < s.heap.objs.size := fun b o e => Heap.lt_size e
  have hcl : ∀ x c, X.env.cells.lookup x = some c → c < s.heap.objs.size := fun x c e => by
    obtain ⟨v, q⟩ := I.cell x c e
    exact q.lt
  have frlt : ∀ b ∈ frs X.stack, b < s.heap.objs.size := fun b hb => by
    obtain ⟨_, o, ho, _⟩ := I.stack.mem hb
    exact Heap.lt_size ho
  have hHD : H D = none := I.hok.fresh hD
  have hHC : H C = none := I.hok.fresh hC
  refine ⟨⟨I.ok.mod, T.kind, I.ok.glob, I.ok.blt, hC, fun x y c a b => I.ok.inj x y c (cells x c a) (cells y c b), fun x hx => ?_, fun x c z _ => (nomatch z), I.ok.hd, I.ok.frames, .inl rfl, fun b hb => ⟨?_, fun x c e z => ?_⟩,
      fun b o e => I.bs b o e, Nat.le_trans I.ok.bsz I.sz, fun b o e hb => ?_, fun b hb z => ?_, I.stack, I.stkFree⟩,
    rfl, I.bare, Un.laid old hD hHD, ⟨m, hn, fun i x v e1 e2 e3 => ?_⟩, fun x c e => ?_, ?_, fun x c e => ?_, fun p hp => absurd (show p ∈ ([] : List (Addr × Obj)) from hp) (by simp), ?_, ?_⟩
  · -- has
    have hx : (relabel scope X.env).names.lookup x = some .cell ∨ (relabel scope X.env).names.lookup x = some .free := hx
    have hf0 : (x, NameKind.free) ∈ scope.names := by
      rcases hx with hx | hx
      · obtain ⟨k0, q, r⟩ := relabel_look hx
        have hm := PySem.mem_of_lookup q
        rcases r with r | ⟨r, _⟩
        · exact absurd r.symm (T.nocell _ hm)
        · rw [r] at hm; exact hm
      · obtain ⟨k0, q, r⟩ := relabel_look hx
        have hm := PySem.mem_of_lookup q
        rcases r with r | ⟨_, r⟩
        · rw [← r] at hm; exact hm
        · cases r
    exact closOf_has (.inl hf0)
  · -- b ≠ C
    obtain ⟨o, ho⟩ := hfo b hb
    exact Nat.ne_of_lt (Nat.lt_of_lt_of_le (lt_of b o ho) hC)
  · exact (hf b hb).2.2.2.2.1 x c (cells x c e) z
  · -- noex
    obtain ⟨_, _, _, f3, _, _⟩ := hf b hb
    rcases f3 with z | z
    · exact I.ok.noex b o e z
    · exact absurd (Nat.lt_of_lt_of_le (Heap.lt_size (I.ok.bs b o e).1) z) (Nat.lt_irrefl _)
  · -- exfs
    obtain ⟨_, f1, f2, _⟩ := hf b hb
    rcases List.mem_cons.mp (I.stkSub b z) with q | q
    · exact f1 q
    · exact f2 q
  · -- loc
    by_cases hi : i < own.length
    · rw [List.getElem?_append_left (by simpa using hi), List.getElem?_replicate, if_pos hi] at e2
      cases e2
    · rw [List.getElem?_append_right (by simpa using hi), List.length_replicate] at e2
      replace e1 : (own ++ frees)[i]? = some x := e1
      rw [List.getElem?_append_right (by (first | lia | omega))] at e1
      obtain ⟨j, hj, hσ⟩ := takeSt_get e2
      have hN : X.N[j]? = some x := by
        have q := congrArg (fun l => l[i - own.length]?) T.at_
        simp only [List.getElem?_map, hj, e1, Option.map_some] at q
        exact Option.some.inj q
      have hfx := T.fr x (List.mem_of_getElem? e1)
      have hm := PySem.mem_of_lookup hfx
      have hk := T.free (x, .free) hm rfl
      obtain ⟨m0, hn0, hl0⟩ := I.loc
      obtain ⟨u, r, l⟩ := hl0 j x v hN hσ (by rcases hk with k | k; exact .inr (.inl k); exact .inr (.inr k))
      refine ⟨u, r, .inr ⟨relabel_free hfx, ?_⟩⟩
      rcases l with ⟨hkl, _⟩ | ⟨_, c, hc, hcell⟩
      · have hkl : X.env.scope.names.lookup x = some .local := hkl
        rcases hk with k | k <;> (rw [hkl] at k; cases k)
      · obtain ⟨c', hc'⟩ := closOf_has (cells := X.env.cells) (names := scope.names) (cs := []) (x := x) (.inl hm)
        have q := cells x c' hc'
        rw [hc] at q
        cases q
        exact ⟨c, hc', hcell.keeps old⟩
  · -- cell
    obtain ⟨v, q⟩ := I.cell x c (cells x c e)
    exact ⟨v, q.keeps old⟩
  · -- free
    show upd H D (.lst []) C = none
    rw [upd_ne (Ne.symm hDC)]
    exact hHC
  · show upd H D (.lst []) c = none
    have e := cells x c e
    rw [upd_ne (Nat.ne_of_lt (Nat.lt_of_lt_of_le (hcl x c e) hD))]
    exact I.freeC x c e
  · exact I.hok.laid old hD ⟨Nat.zero_le _, [], 0, .nil, hl⟩
  · show _ = (own ++ frees).length
    have q := congrArg List.length T.at_
    rw [List.length_map, List.length_map] at q
    rw [List.length_append, List.length_append, List.length_replicate]
    unfold takeSt
    rw [List.length_map, q]

theorem inv_comp_back {pins : List (Addr × Obj)} {σ σ' : St} {H H' : Hp} {s s' : Shared} {scope : Scope} {N : List Str} {fp : List Addr} {C : Addr} {h' : Heap} {xe : Value → Shared → Prop}
    (I : Inv X pins σ H s) (hf : ∀ b ∈ fp, FpOk X pins H b) (hC : s.heap.objs.size ≤ C) (J : Inv (cxComp X N scope xe C s H fp) [] σ' H' s') (sb : Heap.SameBut C s'.heap h') : Inv X pins σ H' { s' with heap := h' } := by
  have hHC : H' C = none := J.free
  refine I.call' (ch := fp) J.os ?_ ?_ J.bare (fun b hb => ?_)
  · have u : Un (frs X.stack) fp H H' s.heap s'.heap := J.base
    have ne : ∀ b o, s.heap.get? b = some o → b ≠ C := fun b o e => Nat.ne_of_lt (Nat.lt_of_lt_of_le (Heap.lt_size e) hC)
    refine ⟨fun b o e n hb hx => (sb.2 b (ne b o e)).trans (u.keep b o e n hb hx), fun b o e n hb hx => ?_, u.free, fun b o e hx => ?_, u.tups, u.frzs, u.tbls⟩
    · obtain ⟨sl, q⟩ := u.slot b o e n hb hx
      exact ⟨sl, (sb.2 b (ne b o e)).trans q⟩
    · obtain ⟨o', q⟩ := u.there b o e hx
      exact ⟨o', (sb.2 b (ne b o e)).trans q⟩
  · intro b ob e
    refine (J.hok b ob e).stay (fun c w' hc q => (sb.2 c ?_).trans q) (fun _ q => q) fun _ _ q => q
    rintro rfl
    rcases hc with rfl | hc
    · rw [hHC] at e; cases e
    · rw [hHC] at hc; cases hc
  · obtain ⟨_, f1, _, f3, f4, f5⟩ := hf b hb
    exact ⟨f3, f1, f4, f5⟩
end

section
variable {prog : Program} {w : World} {A : Around} {R : Result → Shared → Prop} {s : Shared}
abbrev testsOf (ifs : List Expr) (env : Env) : Sem Bool := forIn ifs true fun c r => if r = true then do let ok ← isTrue c env (eval c env); pure (ForInStep.yield ok) else pure (ForInStep.yield r)
theorem compLoop_any {elt target iter : Expr} {ifs : List Expr} {scope : Scope} {pos : Pos} {it acc : Value} {env : Env} (I : Nat → Shared → Prop)
    (turn : ∀ n s, I n s → wpAny (model prog w) A (pyNext it) (fun r s₁ => match r with
      | none => R (.ok .next) s₁
      | some v => wpAny (model prog w) A (letOwnedTupleGo target it v) (fun _ s₀ => wpAny (model prog w) A (assign target env v) (fun _ s₂ =>
          wpAny (model prog w) A (testsOf ifs env) (fun ok s₃ =>
            if ok = true then wpAny (model prog w) A (eval elt env) (fun x s₄ =>
              wpAny (model prog w) A (call (.builtin "list.append") [acc, x]) (fun _ s₅ => ∃ m, m < n ∧ I m s₅) (notedBy (model prog w) A env fun e s' => R (.error e) s') s₄) (notedBy (model prog w) A env fun e s' => R (.error e) s') s₃
            else ∃ m, m < n ∧ I m s₃) (notedBy (model prog w) A env fun e s' => R (.error e) s') s₂) (notedBy (model prog w) A env fun e s' => R (.error e) s') s₀) (notedBy (model prog w) A env fun e s' => R (.error e) s') s₁) (notedBy (model prog w) A env fun e s' => R (.error e) s') s)
    (n : Nat) (h : I n s) :
    codeAny (model prog w) A (.compLoop (.ListComp elt [⟨target, iter, ifs, 0⟩] scope pos) 0 it acc env) R s := by
  refine codeAny_loop rfl I (fun n s hI => ?_) n h
  show wpAny _ A ((compTurn (.ListComp elt [⟨target, iter, ifs, 0⟩] scope pos) 0 it acc env).onRaise (fun x => do noteFrame x env; theTreesLotGoes x)) _ _ s
  refine wpAny_noted ?_
  rw [compTurn_list]
  refine wpAny_bind (wpAny_standAt (wpAny_bind (wpAny_mono (turn n s hI) (fun r s₁ h₁ => ?_) fun _ _ h' => h')))
  cases r with
  | none => exact wpAny_pure h₁
  | some v =>
    refine wpAny_bind (wpAny_mono h₁ (fun _ s₀ h₀ => ?_) fun _ _ h' => h')
    refine wpAny_bind (wpAny_mono h₀ (fun _ s₂ h₂ => wpAny_bind (wpAny_mono h₂ (fun ok s₃ h₃ => ?_) fun _ _ h' => h')) fun _ _ h' => h')
    cases ok with
    | false => exact wpAny_pure ⟨rfl, h₃⟩
    | true =>
      exact wpAny_bind (wpAny_bind (wpAny_mono h₃ (fun x s₄ h₄ => wpAny_bind (wpAny_mono h₄ (fun _ s₅ h₅ => wpAny_pure (wpAny_pure ⟨rfl, h₅⟩)) fun _ _ h' => h')) fun _ _ h' => h'))
end

def PTs (X : Cx) (ifs : List Expr) (t : TT) : Prop :=
  ∀ (pins : List (Addr × Obj)) (s : Shared) (σ : St) (H : Hp) (Q : Bool → Hp → Prop), Inv X pins σ H s → t σ H Q → wpAny (model X.prog X.w) X.A (testsOf ifs X.env) (TP X pins σ Q) X.xe s
def tTrue : TT := fun _ H Q => Q true H
theorem pts_nil {X : Cx} : PTs X [] tTrue := fun _ _ _ H _ I h => wpAny_tests_nil ⟨H, I, h⟩
theorem pts_one {X : Cx} {c : Expr} {t : TT} (h : PT X c t) : PTs X [c] t := fun pins s σ H Q I q => wpAny_tests_one (h pins s σ H Q I q)

def CompLoop (J : It) (g : TG) (tt : TT) (te : TE) (n : Nat) (fr : St) (D : Addr) (Q : Hp → Prop) (H1 : Hp) : Prop :=
  ∃ W : Nat → Nat → List V → Hp → Prop, (∃ m, W 0 m [] H1) ∧ ∀ i m acc H, W i m acc H → H D = some (.lst acc) ∧
    ((J.stop i H ∧ Q H) ∨ (J.go i H ∧ acc.length < sizeLine ∧ ∃ N : List V → Hp → Prop, (∀ acc' H', N acc' H' → ∃ m', m' < m ∧ W (i + 1) m' acc' H') ∧
      ∀ x H', J.yld i H x H' → g x (List.replicate n none ++ fr) H' fun σ2 H2 => σ2.drop n = fr ∧ tt σ2 H2 fun b H3 =>
      if b = true then te σ2 H3 fun v H4 => H4 D = some (.lst acc) ∧ N (acc ++ [v]) (upd H4 D (.lst (acc ++ [v])))
      else N acc H3))
def tComp (wi : TI) (g : TG) (tt : TT) (te : TE) (n : Nat) (js : List Nat) : TE := fun σ H Q => wi σ H fun J H1 => ∀ D, H1 D = none → CompLoop J g tt te n (takeSt σ js) D (fun H2 => Q (.ref D) H2) (upd H1 D (.lst []))

structure TurnX (A : Around) (cm : Bool) (P : Program) (w : World) (K : PySem.W.Frag) (tg : Expr) (J : It) (fp : List Addr) (it : Addr) (tn : Nat → Heap → Prop) : Prop where
  mem : it ∈ fp
  obj : ∀ i h, tn i h → ∀ b ∈ fp, ∃ o, h.get? b = some o ∧ ∀ v, o.data ≠ .cell v
  keep : ∀ i h h', tn i h → (∀ b ∈ fp, ∀ o, h.get? b = some o → h'.get? b = some o) → tn i h'
  item : ∀ (X : Cx), X.prog = P → X.w = w → X.K = K → X.A = A → X.calm = cm → ∀ (i : Nat) (pins : List (Addr × Obj)) (s : Shared) (σ : St) (H : Hp) (E : Value → Shared → Prop), Inv X pins σ H s → (∀ b ∈ fp, FpOk X pins H b) → tn i s.heap → J.go i H →
    wpAny (model P w) X.A (pyNext (.ref it)) (fun r s1 => ∃ u, r = some u ∧
      wpAny (model P w) X.A (letOwnedTupleGo tg (.ref it) u) (fun _ s2 => ∃ x H', Inv X pins σ H' s2 ∧ RelV x u ∧ J.yld i H x H' ∧ tn (i + 1) s2.heap ∧ ∀ b ∈ fp, H' b = none) E s1) E s
  done : ∀ (X : Cx), X.prog = P → X.w = w → X.K = K → X.A = A → X.calm = cm → ∀ (i : Nat) (pins : List (Addr × Obj)) (s : Shared) (σ : St) (H : Hp) (E : Value → Shared → Prop), Inv X pins σ H s → (∀ b ∈ fp, FpOk X pins H b) → tn i s.heap → J.stop i H →
    wpAny (model P w) X.A (pyNext (.ref it)) (fun r s1 => r = none ∧ Inv X pins σ H s1) E s
  self : ∀ (A : Around) (i : Nat) (s : Shared) (Q : Value → Shared → Prop) (E : Value → Shared → Prop), tn i s.heap → Q (.ref it) s → wpAny (model P w) A (pyIter (.ref it)) Q E s
theorem Turn.x {A : Around} {cm : Bool} {P : Program} {w : World} {K : PySem.W.Frag} {tg : Expr} {J : It} {fp : List Addr} {it : Addr} {tn : Nat → Heap → Prop} (T : Turn P w K tg J fp it tn) (hc : cm = true) : TurnX A cm P w K tg J fp it tn :=
  ⟨T.mem, T.obj, T.keep, fun X a b c _ d => T.item X a b c (d.trans hc), fun X a b c _ d => T.done X a b c (d.trans hc), T.self⟩
section
variable {X : Cx} {elt iter tg : Expr} {ifs : List Expr} {scope : Scope} {pos : Pos} {own frees : List Str} {js : List Nat} {wi : TI} {g : TG} {tt : TT} {te : TE}
theorem comp_block {pins : List (Addr × Obj)} {σ : St} {H2 : Hp} {s2 : Shared} {it : Addr} {fp : List Addr} {tn : Nat → Heap → Prop} {J : It} {E : Value → Shared → Prop} {RR : Value → Addr → Result → Shared → Prop} {QQ : Addr → Hp → Prop}
    (T : CompText X scope own frees js)
    (hg : ∀ C s H fp, PG (cxComp X (own ++ frees) scope (fun _ _ => False) C s H fp) tg g)
    (ht : ∀ C s H fp, PTs (cxComp X (own ++ frees) scope (fun _ _ => False) C s H fp) ifs tt)
    (he : ∀ C s H fp, PE (cxComp X (own ++ frees) scope (fun _ _ => False) C s H fp) elt te)
    (I2 : Inv X pins σ H2 s2) (TT' : TurnX X.A X.calm X.prog X.w X.K tg J fp it tn) (st2 : tn 0 s2.heap) (f2 : ∀ b ∈ fp, FpOk X pins H2 b)
    (hl : ∀ D, H2 D = none → CompLoop J g tt te own.length (takeSt σ js) D (QQ D) (upd H2 D (.lst [])))
    (hRR : ∀ D C σ' H' s', s2.heap.objs.size ≤ C → Inv (cxComp X (own ++ frees) scope (fun _ _ => False) C s2 H2 fp) [] σ' H' s' → QQ D H' → RR (.ref D) C (.ok .next) s') :
    wpAny (model X.prog X.w) X.A (newList []) (fun acc s₃ => wpAny (model X.prog X.w) X.A (newFunctionEnv scope X.env.globals (closOf X.env.cells scope.names []) [] X.env.qual none .none (some X.env)) (fun cenv s₄ =>
      codeAny (model X.prog X.w) X.A (.compStart (.ListComp elt [⟨tg, iter, ifs, 0⟩] scope pos) 0 (.ref it) acc { cenv with scope := relabel scope X.env }) (RR acc cenv.locals) s₄) E s₃) E s2 := by
  refine wpAny_newObj_type (wpAny_newFunctionEnv T.nocell (by intro y hy; simp at hy) (fun h₁ hns₁ hsb₁ => ?_) T.kind)
  dsimp only at hns₁ hsb₁ ⊢
  generalize hH2 : s2.heap.push { cls := .type "list", dict := none, data := .seq ([] : List Value).toArray } = G2 at hns₁ hsb₁ ⊢
  have hC : G2.objs.size = s2.heap.objs.size + 1 := by rw [← hH2, Heap.size_push]
  have hDC : s2.heap.objs.size ≠ G2.objs.size := by rw [hC]; exact Nat.ne_of_lt (Nat.lt_succ_self _)
  have hCle : s2.heap.objs.size ≤ G2.objs.size := by rw [hC]; exact Nat.le_succ _
  have below : ∀ b, b < s2.heap.objs.size → b ≠ G2.objs.size := fun b hb => by rw [hC]; exact Nat.ne_of_lt (Nat.lt_succ_of_lt hb)
  have old : ∀ b o, s2.heap.get? b = some o → h₁.get? b = some o := fun b o e => hsb₁.extBut b o (below b (Heap.lt_size e)) (Heap.get?_push_of_some _ (hH2 ▸ Heap.get?_push_of_some _ e))
  have hacc : h₁.get? s2.heap.objs.size = some { cls := .type "list", data := .seq ([] : List Value).toArray 0 } := hsb₁.extBut _ _ hDC (Heap.get?_push_of_some _ (hH2 ▸ Heap.get?_push_size _ rfl))
  have fpo : ∀ b ∈ fp, ∃ o, s2.heap.get? b = some o := fun b hb => let ⟨o, e, _⟩ := TT'.obj _ _ st2 b hb; ⟨o, e⟩
  have st1 : tn 0 h₁ := TT'.keep _ _ _ st2 fun b _ o e => old b o e
  obtain ⟨W, ⟨m0, w0⟩, turn⟩ := hl s2.heap.objs.size (I2.hok.fresh (Nat.le_refl _))
  have hfx : ∀ {H' : Hp}, (∀ b ∈ fp, H' b = none) → ∀ b ∈ fp, FpOk (cxComp X (own ++ frees) scope (fun _ _ => False) G2.objs.size s2 H2 fp) [] H' b := fun {H'} hn b hb => by
    obtain ⟨_, f1, f2', _, f4, _⟩ := f2 b hb
    obtain ⟨o, ho⟩ := fpo b hb
    refine ⟨hn b hb, below b (Heap.lt_size ho), fun z => ?_, .inl hb, fun x c e => ?_, fun p hp => absurd (show p ∈ ([] : List (Addr × Obj)) from hp) (by simp)⟩
    · rcases List.mem_cons.mp (I2.stkSub b z) with q | q
      · exact f1 q
      · exact f2' q
    · rcases closOf_look (show (closOf X.env.cells scope.names []).lookup x = some c from e) with q | ⟨q1, q2⟩
      · cases q
      · obtain ⟨c', hc'⟩ := closure_ok I2 T x .free q1 rfl
        rw [hc'] at q2
        have q2 : c' = c := q2
        rw [← q2]
        exact f4 x c' hc'
  have fp0 : ∀ b ∈ fp, upd H2 s2.heap.objs.size (.lst []) b = none := fun b hb => by
    obtain ⟨o, ho⟩ := fpo b hb
    rw [upd_ne (Nat.ne_of_lt (Heap.lt_size ho))]
    exact (f2 b hb).1
  have back : ∀ {σ6 : St} {p6 : List (Addr × Obj)} {H6 : Hp} {s6 : Shared}, Inv (cxComp X (own ++ frees) scope (fun _ _ => False) G2.objs.size s2 H2 fp) p6 σ6 H6 s6 → σ6.drop own.length = takeSt σ js →
      Inv (cxComp X (own ++ frees) scope (fun _ _ => False) G2.objs.size s2 H2 fp) [] (List.replicate own.length none ++ takeSt σ js) H6 s6 := fun {σ6 p6 H6 s6} I6 hd => by
    have hl6 : σ6.length = (own ++ frees).length := I6.len
    have J6 := I6.pins_of (pins' := []) fun p hp => absurd hp (by simp)
    refine J6.weak ?_ fun i v e => ?_
    · have q := congrArg List.length hd
      rw [List.length_drop] at q
      rw [List.length_append] at hl6
      rw [List.length_append, List.length_replicate]
      (first | lia | omega)
    · by_cases hi : i < own.length
      · rw [List.getElem?_append_left (by simpa using hi), List.getElem?_replicate, if_pos hi] at e
        cases e
      · rw [List.getElem?_append_right (by simpa using hi), List.length_replicate, ← hd, List.getElem?_drop] at e
        rw [show own.length + (i - own.length) = i by (first | lia | omega)] at e
        exact e
  have loop : ∀ s₃ : Shared, s₃ = { s2 with heap := h₁, toks := s2.toks + ([] : List (Str × Value)).length } →
      codeAny (model X.prog X.w) X.A (.compLoop (.ListComp elt [⟨tg, iter, ifs, 0⟩] scope pos) 0 (.ref it) (.ref s2.heap.objs.size) (compEnvC scope (closOf X.env.cells scope.names []) G2.objs.size X.env))
        (RR (.ref s2.heap.objs.size) G2.objs.size) s₃ := by
    rintro s₃ rfl
    refine compLoop_any (fun n s' => ∃ i acc H', Inv (cxComp X (own ++ frees) scope (fun _ _ => False) G2.objs.size s2 H2 fp) [] (List.replicate own.length none ++ takeSt σ js) H' s' ∧ tn i s'.heap ∧ (∀ b ∈ fp, H' b = none) ∧ W i n acc H') ?_ m0
      ⟨0, [], upd H2 s2.heap.objs.size (.lst []), inv_comp I2 T f2 fpo (Nat.le_refl _) hCle hDC old hacc hns₁, st1, fp0, w0⟩
    rintro n s3 ⟨i, acc, H3, I3, st3, fr3, w3⟩
    obtain ⟨hD3, hcase⟩ := turn i n acc H3 w3
    rcases hcase with ⟨stop, qn⟩ | ⟨go, hz, NN, hNN, step⟩
    · refine wpAny_mono (TT'.done (cxComp X (own ++ frees) scope (fun _ _ => False) G2.objs.size s2 H2 fp) rfl rfl rfl rfl rfl i [] s3 _ H3 (fun _ _ => False) I3 (hfx fr3) st3 stop) (fun r s4 ⟨hr, I4⟩ => ?_) fun _ _ z => z.elim
      subst hr
      exact hRR _ _ _ H3 s4 hCle I4 qn
    · refine wpAny_mono (TT'.item (cxComp X (own ++ frees) scope (fun _ _ => False) G2.objs.size s2 H2 fp) rfl rfl rfl rfl rfl i [] s3 _ H3 (fun _ _ => False) I3 (hfx fr3) st3 go) (fun r s4 ⟨u, hr, h4⟩ => ?_) fun _ _ z => z.elim
      subst hr
      refine wpAny_mono h4 (fun _ s5 ⟨x, H5, I5, r5, y5, st5, fr5⟩ => ?_) fun _ _ z => z.elim
      have I5' := I5.pinned (hfx fr5) (TT'.obj _ _ st5)
      refine wpAny_mono (hg _ _ _ _ _ s5 _ H5 x u _ I5' r5 (step x H5 y5)) (fun _ s6 ⟨σ6, H6, I6, hd6, q6⟩ => ?_) fun _ _ z => z.elim
      refine wpAny_mono (ht _ _ _ _ _ s6 σ6 H6 _ I6 q6) (fun ok s7 ⟨H7, I7, q7⟩ => ?_) fun _ _ z => z.elim
      have again : ∀ {H8 : Hp} {s8 : Shared}, Inv (cxComp X (own ++ frees) scope (fun _ _ => False) G2.objs.size s2 H2 fp) ([] ++ pinsAt fp s5.heap) σ6 H8 s8 → tn (i + 1) s8.heap ∧ ∀ b ∈ fp, H8 b = none := fun {H8 s8} I8 => by
        refine ⟨TT'.keep _ _ _ st5 fun b hb o e => (I8.pin (b, o) (List.mem_append_right _ (List.mem_append_right _ (mem_pinsAt hb e)))).1, fun b hb => ?_⟩
        obtain ⟨o, e, d⟩ := TT'.obj _ _ st5 b hb
        exact (I8.pin (b, o) (List.mem_append_right _ (List.mem_append_right _ (mem_pinsAt hb e)))).2.1
      cases ok with
      | false =>
        rw [if_neg Bool.false_ne_true]
        obtain ⟨m', hm, w7⟩ := hNN _ _ q7
        obtain ⟨t7, n7⟩ := again I7
        exact ⟨m', hm, i + 1, acc, H7, back I7 hd6, t7, n7, w7⟩
      | true =>
        rw [if_pos rfl]
        refine wpAny_mono (he _ _ _ _ _ s7 σ6 H7 _ I7 q7) (fun xv s8 ⟨v, H8, I8, r8, hD8, q8⟩ => ?_) fun _ _ z => z.elim
        obtain ⟨m', hm, w8⟩ := hNN _ _ q8
        refine wpAny_mono (mt_append (X := cxComp X (own ++ frees) scope (fun _ _ => False) G2.objs.size s2 H2 fp) _ s8 σ6 H8 (.ref s2.heap.objs.size) [v] (.ref s2.heap.objs.size) [xv] (fun y H9 => y = .non ∧ H9 = upd H8 s2.heap.objs.size (.lst (acc ++ [v]))) I8 rfl (.cons r8 .nil) ⟨_, acc, v, rfl, rfl, hD8, hz, rfl, rfl⟩)
          (fun _ s9 ⟨y, H9, I9, _, _, e9⟩ => ?_) fun _ _ z => z.elim
        subst e9
        obtain ⟨t9, n9⟩ := again I9
        exact ⟨m', hm, i + 1, acc ++ [v], _, back I9 hd6, t9, n9, w8⟩
  exact codeAny_compStart_list (loop _ rfl) (TT'.self _ 0 _ _ _ st1 (loop _ rfl))

theorem pe_comp (T : CompText X scope own frees js) (hc : X.calm = true) (hi : PI X tg iter wi)
    (hg : ∀ C s H fp, PG (cxComp X (own ++ frees) scope (fun _ _ => False) C s H fp) tg g)
    (ht : ∀ C s H fp, PTs (cxComp X (own ++ frees) scope (fun _ _ => False) C s H fp) ifs tt)
    (he : ∀ C s H fp, PE (cxComp X (own ++ frees) scope (fun _ _ => False) C s H fp) elt te)
    (hs : ∀ x, foldedSetIterable iter X.env x = pure x := by intro _; rfl) :
    PE X (.ListComp elt [⟨tg, iter, ifs, 0⟩] scope pos) (tComp wi g tt te own.length js) := by
  intro pins s σ H Q I h
  rw [eval_ListComp]
  refine wpAny_comprehension_free (use := none) rfl hs (closure_is (closure_ok I T)) T.kind T.names ?_
  refine wpAny_mono (hi pins s σ H _ I h) (fun v s1 h1 => wpAny_mono h1 (fun itv s2 h2 => ?_) fun _ _ z => z) fun _ _ z => z
  obtain ⟨it, fp, tn, J, H2, e, I2, TT', st2, f2, hl⟩ := h2
  subst e
  refine comp_block (QQ := fun D H' => Q (.ref D) H') T hg ht he I2 (TT'.x hc) st2 f2 hl fun D C σ' H' s' hC J' q => ?_
  obtain ⟨m, hn, _⟩ := J'.loc
  exact ⟨m, hn, fun h' sb => ⟨.ref D, H', inv_comp_back I2 f2 hC J' sb, rfl, q⟩⟩
def tSetComp (i : Nat) (wi : TI) (g : TG) (tt : TT) (te : TE) (n : Nat) (js : List Nat) : TS := fun D σ H => tComp wi g tt te n js σ H fun v H1 => D.nx (σ.set i (some v)) H1
theorem ps_comp {i : Nat} {x : Str} {pos' spos : Pos} (hN : X.N.Nodup) (hix : X.N[i]? = some x) (hx : X.env.scope.names.lookup x = some .local) (T : CompText X scope own frees js) (hc : X.calm = true) (hi : PI X tg iter wi)
    (hg : ∀ C s H fp, PG (cxComp X (own ++ frees) scope (fun _ _ => False) C s H fp) tg g)
    (ht : ∀ C s H fp, PTs (cxComp X (own ++ frees) scope (fun _ _ => False) C s H fp) ifs tt)
    (he : ∀ C s H fp, PE (cxComp X (own ++ frees) scope (fun _ _ => False) C s H fp) elt te)
    (hsw : swapsWith (.ListComp elt [⟨tg, iter, ifs, 0⟩] scope pos) (some (.Name x pos')) spos.line X.env = pure true := by rfl)
    (hs : ∀ x, foldedSetIterable iter X.env x = pure x := by intro _; rfl) :
    PS X (.Assign [.Name x pos'] (.ListComp elt [⟨tg, iter, ifs, 0⟩] scope pos) spos) (tSetComp i wi g tt te own.length js) := by
  intro pins s σ H D I h
  rw [exec_Assign_Name_used _ _ _ _ hsw]
  refine wpAny_bind (wpAny_standAt (wpAny_bind ?_))
  show wpAny _ X.A (do let _ ← comprehension (.ListComp elt [⟨tg, iter, ifs, 0⟩] scope pos) scope X.env _ (newList []) false (eval iter X.env) (some (assign (.Name x pos') X.env))) _ _ s
  refine wpAny_bind (wpAny_mono (wpAny_comprehension_free (use := some (assign (.Name x pos') X.env)) (Q := fun _ s' => SP X pins D .next s') rfl hs (closure_is (closure_ok I T)) T.kind T.names ?_) (fun _ s' hq => wpAny_pure (wpAny_pure hq)) fun _ _ e => e)
  refine wpAny_mono (hi pins s σ H _ I h) (fun v s1 h1 => wpAny_mono h1 (fun itv s2 h2 => ?_) fun _ _ z => z) fun _ _ z => z
  obtain ⟨it, fp, tn, J, H2, e, I2, TT', st2, f2, hl⟩ := h2
  subst e
  refine comp_block (QQ := fun D' H' => D.nx (σ.set i (some (.ref D'))) H') T hg ht he I2 (TT'.x hc) st2 f2 hl fun D' C σ' H' s' hC J' q => ?_
  have I3 : Inv X pins σ H' s' := by
    obtain ⟨hh, gg, dd, tt', oo⟩ := s'
    exact inv_comp_back I2 f2 hC J' (Heap.SameBut.refl ..)
  obtain ⟨m, hn, _⟩ := J'.loc
  obtain ⟨oC, es, ep, hoC, hdC, rest⟩ := id hn
  have hHC : H' C = none := J'.free
  have hlC : C ≠ X.env.locals := Nat.ne_of_gt (Nat.lt_of_lt_of_le I2.lt hC)
  have hfC : C ∉ X.fs := fun z => by
    obtain ⟨_, o, ho, _⟩ := I2.funs.mem z
    exact absurd (Nat.lt_of_lt_of_le (Heap.lt_size ho) hC) (Nat.lt_irrefl _)
  have I4 : Inv X (pins ++ [(C, oC)]) σ H' s' := I3.pins_of fun p hp => (List.mem_append.mp hp).elim (fun z => I3.pin p (List.mem_append_right _ z)) fun z => by
    have e : p = (C, oC) := by simpa using z
    subst e
    exact ⟨hoC, hHC, hlC, hfC, fun v z => by have z' : oC.data = .cell v := z; rw [hdC] at z'; cases z'⟩
  show wpAny _ X.A (assign (.Name x pos') X.env (.ref D')) _ _ _
  refine wpAny_assign_Name (store_ok (v := .ref D') I4 hN hix (.inl hx) rfl (fun s5 I5 => ?_) (.inr hx))
  have e5 : s5.heap.get? C = some oC := (I5.pin (C, oC) (List.mem_append_right _ (List.mem_append_right _ (by simp)))).1
  refine ⟨m, ⟨oC, es, ep, e5, hdC, rest⟩, fun h' sb => ⟨_, H', ?_, q⟩⟩
  -- the block's names let go
  have I6 : Inv X pins (σ.set i (some (.ref D'))) H' s5 := I5.unpinned
  refine I6.turned (t' := s5.toks) (fun b o hb e => (sb.2 b hb).trans e) hHC hlC (.inr (Nat.le_trans I2.sz hC)) (fun y c e => ?_) (fun p hp z => ?_)
  · obtain ⟨v, qc⟩ := I2.cell y c e
    exact Nat.ne_of_lt (Nat.lt_of_lt_of_le qc.lt hC)
  · have hp2 := (I2.pin p hp).1
    exact absurd (Nat.lt_of_lt_of_le (Heap.lt_size hp2) (by rw [z]; exact hC)) (Nat.lt_irrefl _)
end

section
variable {K : PySem.W.Frag} {a : Addr} {xs : List V} {g : TG} {tt : TT} {te : TE} {n : Nat} {fr : St} {D : Addr} {Q : Hp → Prop} {H1 : Hp}
theorem comp_list (Pv : Nat → List V → Hp → Prop) (h0 : Pv 0 [] H1) (hl : ∀ i acc H, i ≤ xs.length → Pv i acc H → SqL K H a xs ∧ H D = some (.lst acc) ∧ acc.length ≤ i) (hz : xs.length ≤ sizeLine)
    (hs : ∀ i x acc H, xs[i]? = some x → Pv i acc H → g x (List.replicate n none ++ fr) H fun σ2 H2 => σ2.drop n = fr ∧ tt σ2 H2 fun b H3 =>
      if b = true then te σ2 H3 fun v H4 => H4 D = some (.lst acc) ∧ Pv (i + 1) (acc ++ [v]) (upd H4 D (.lst (acc ++ [v]))) else Pv (i + 1) acc H3)
    (hd : ∀ acc H, Pv xs.length acc H → Q H) : CompLoop (Itl K a) g tt te n fr D Q H1 := by
  refine ⟨fun i m acc H => m = xs.length - i ∧ i ≤ xs.length ∧ Pv i acc H, ⟨xs.length, by simp, Nat.zero_le _, h0⟩, ?_⟩
  rintro i m acc H ⟨rfl, hi, p⟩
  obtain ⟨q, hD, ha⟩ := hl i acc H hi p
  refine ⟨hD, ?_⟩
  by_cases hlt : i < xs.length
  · refine .inr ⟨⟨xs, xs[i], q, by simp [hlt]⟩, by (first | lia | omega), Pv (i + 1), fun acc' H' p' => ⟨xs.length - (i + 1), by (first | lia | omega), rfl, hlt, p'⟩, fun x H' y => ?_⟩
    obtain ⟨e, y⟩ := y
    subst e
    exact hs i x acc _ (y xs q) p
  · have e : i = xs.length := by (first | lia | omega)
    subst e
    exact .inl ⟨⟨xs, q, Nat.le_refl _⟩, hd acc H p⟩
theorem comp_range {lo : Int} {m : Nat} (Pv : Nat → List V → Hp → Prop) (h0 : Pv 0 [] H1) (hl : ∀ i acc H, i ≤ m → Pv i acc H → H D = some (.lst acc) ∧ acc.length ≤ i) (hz : m ≤ sizeLine)
    (hs : ∀ i acc H, i < m → Pv i acc H → g (.int (lo + i)) (List.replicate n none ++ fr) H fun σ2 H2 => σ2.drop n = fr ∧ tt σ2 H2 fun b H3 =>
      if b = true then te σ2 H3 fun v H4 => H4 D = some (.lst acc) ∧ Pv (i + 1) (acc ++ [v]) (upd H4 D (.lst (acc ++ [v]))) else Pv (i + 1) acc H3)
    (hd : ∀ acc H, Pv m acc H → Q H) : CompLoop (Itr lo m) g tt te n fr D Q H1 := by
  refine ⟨fun i k acc H => k = m - i ∧ i ≤ m ∧ Pv i acc H, ⟨m, by simp, Nat.zero_le _, h0⟩, ?_⟩
  rintro i k acc H ⟨rfl, hi, p⟩
  obtain ⟨hD, ha⟩ := hl i acc H hi p
  refine ⟨hD, ?_⟩
  by_cases hlt : i < m
  · refine .inr ⟨hlt, by (first | lia | omega), Pv (i + 1), fun acc' H' p' => ⟨m - (i + 1), by (first | lia | omega), rfl, hlt, p'⟩, fun x H' y => ?_⟩
    obtain ⟨e, y⟩ := y
    subst e y
    exact hs i acc _ hlt p
  · have e : i = m := by (first | lia | omega)
    subst e
    exact .inl ⟨Nat.le_refl _, hd acc H p⟩
end
end L2

namespace L2
open PySem PySem.Spec PyProof.Rows

def compLook (scope osc : Scope) (N frees : List Str) (js : List Nat) : Bool :=
  decide (scope.kind = .function) && scope.names.all (fun y => decide (y.2 ≠ .cell)) && scope.names.all (fun y => decide (y.2 = .local → scope.names.lookup y.1 = some .local)) &&
  scope.names.all (fun y => decide (y.2 = .free → osc.names.lookup y.1 = some .cell ∨ osc.names.lookup y.1 = some .free)) && decide (js.map (fun j => N[j]?) = frees.map some) && frees.all (fun x => decide (scope.names.lookup x = some .free))
theorem compText_of {X : Cx} {scope : Scope} {own frees : List Str} {js : List Nat} (osc : Scope) (N : List Str) (h1 : X.env.scope = osc := by rfl) (h2 : X.N = N := by rfl) (h : compLook scope osc N frees js = true := by decide +kernel) : CompText X scope own frees js := by
  unfold compLook at h
  simp only [Bool.and_eq_true, decide_eq_true_eq, List.all_eq_true] at h
  obtain ⟨⟨⟨⟨⟨a, b⟩, c⟩, d⟩, e⟩, f⟩ := h
  exact ⟨a, b, c, by rw [h1]; exact d, by rw [h2]; exact e, f⟩

mutual
inductive DatV (K : PySem.W.Frag) (H : Hp) : V → PyData → Prop
  | non : DatV K H .non .none
  | bl (b : Bool) : DatV K H (.bl b) (.bool b)
  | int (i : Int) : DatV K H (.int i) (.int i)
  | str (x : Str) : DatV K H (.str x) (.str x)
  | lst {a : Addr} {xs : List V} {ds : List PyData} (h : SqL K H a xs) (r : DatVs K H xs ds) : DatV K H (.ref a) (.list ds)
  | tup {a : Addr} {xs : List V} {ds : List PyData} (h : SqT K H a xs) (r : DatVs K H xs ds) : DatV K H (.ref a) (.tuple ds)
inductive DatVs (K : PySem.W.Frag) (H : Hp) : List V → List PyData → Prop
  | nil : DatVs K H [] []
  | cons {x : V} {d : PyData} {xs : List V} {ds : List PyData} (h : DatV K H x d) (r : DatVs K H xs ds) : DatVs K H (x :: xs) (d :: ds)
end
section
variable {X : Cx} {pins : List (Addr × Obj)} {σ : St} {H : Hp} {s : Shared}
mutual
theorem DatV.reads (I : Inv X pins σ H s) : ∀ {v : V} {d : PyData} {u : Value}, DatV X.K H v d → RelV v u → ∃ as, Reads s.heap u d as
  | _, _, u, .non, r => by cases (show u = Value.none from r); exact ⟨_, .none⟩
  | _, _, u, .bl b, r => by cases (show u = Value.bool b from r); exact ⟨_, .bool b⟩
  | _, _, u, .int i, r => by obtain ⟨t, rfl⟩ := (show ∃ t, u = Value.int i t from r); exact ⟨_, .int i t⟩
  | _, _, u, .str x, r => by obtain ⟨t, rfl⟩ := (show ∃ t, u = Value.str x t from r); exact ⟨_, .str x t⟩
  | _, _, u, .lst (a := a) h rs, r => by
    cases (show u = Value.ref a from r)
    obtain ⟨its, rv, ⟨o, n, e, c, _, d⟩, _⟩ := I.list h
    obtain ⟨as, q⟩ := DatVs.reads I rs rv
    exact ⟨_, .list e c d (by simpa using q)⟩
  | _, _, u, .tup (a := a) h rs, r => by
    cases (show u = Value.ref a from r)
    obtain ⟨its, rv, ⟨o, e, c, n, d⟩, _⟩ := I.tuple h
    obtain ⟨as, q⟩ := DatVs.reads I rs rv
    exact ⟨_, .tuple e c d (by simpa using q)⟩
theorem DatVs.reads (I : Inv X pins σ H s) : ∀ {vs : List V} {ds : List PyData} {us : List Value}, DatVs X.K H vs ds → Vals vs us → ∃ as, ReadsAll s.heap us ds as
  | _, _, _, .nil, .nil => ⟨_, .nil⟩
  | _, _, _, .cons h r, .cons rv rr => by
    obtain ⟨as, q⟩ := DatV.reads I h rv
    obtain ⟨bs, q2⟩ := DatVs.reads I r rr
    exact ⟨_, .cons q q2⟩
end
end
section
variable {X : Cx}
def rEqD (K : PySem.W.Frag) : R2 := fun x y H Q => ∃ d e, DatV K H x d ∧ DatV K H y e ∧ SeqAt.shaped d = true ∧ SeqAt.shaped e = true ∧ Q (.bl (PyData.eqv d e)) H
def rNeD (K : PySem.W.Frag) : R2 := fun x y H Q => ∃ d e, DatV K H x d ∧ DatV K H y e ∧ SeqAt.shaped d = true ∧ SeqAt.shaped e = true ∧ Q (.bl (!PyData.eqv d e)) H
theorem op_eqD (hu : X.A.units + 64 < cLine) : OpR X (compareOp .Eq) (rEqD X.K) := by
  intro pins s σ H x y v u Q I rx ry h
  obtain ⟨d, e, h1, h2, s1, s2, q⟩ := h
  obtain ⟨as, ra⟩ := h1.reads I rx
  obtain ⟨bs, rb⟩ := h2.reads I ry
  exact eq_dataH ra rb s1 s2 hu ⟨.bl _, H, I, rfl, q⟩
theorem op_neD (hu : X.A.units + 64 < cLine) : OpR X (compareOp .NotEq) (rNeD X.K) := by
  intro pins s σ H x y v u Q I rx ry h
  obtain ⟨d, e, h1, h2, s1, s2, q⟩ := h
  obtain ⟨as, ra⟩ := h1.reads I rx
  obtain ⟨bs, rb⟩ := h2.reads I ry
  exact ne_dataH ra rb s1 s2 hu ⟨.bl _, H, I, rfl, q⟩
def clsV : V → Option Value
  | .ty n => some (.type n)
  | .ref a => some (.ref a)
  | _ => none
theorem clsV_of {c : V} {u w : Value} (h : clsV c = some u) (r : RelV c w) : w = u := by
  cases c with
  | ty n => exact (show w = Value.type n from r).trans (Option.some.inj h)
  | ref a => exact (show w = Value.ref a from r).trans (Option.some.inj h)
  | _ => cases h
def rIsi (K : PySem.W.Frag) : List V → Hp → VK → Prop := fun xs H Q => ∃ x c t u b, xs = [x, c] ∧ clsV c = some u ∧ TyOf K H x t ∧ PySem.W.kitOne K t u = some b ∧ Q (.bl b) H
theorem call_isi : CallR X (.builtin "isinstance") (rIsi X.K) := by
  intro pins s σ H xs us Q I r h
  obtain ⟨x, c, t, u, b, rfl, rc, ty, e, q⟩ := h
  cases r with
  | cons r1 r2 =>
    cases r2 with
    | cons r2 r3 =>
      cases r3
      cases clsV_of rc r2
      exact isinst_ok I r1 ty e fun tk => ⟨.bl b, H, I.tok tk, rfl, q⟩
theorem kit_ii (K : PySem.W.Frag) : PySem.W.kitOne K (.type "int") (.type "int") = some true := by with_unfolding_all rfl
theorem kit_ib (K : PySem.W.Frag) : PySem.W.kitOne K (.type "int") (.type "bool") = some false := by with_unfolding_all rfl
theorem kit_ll (K : PySem.W.Frag) : PySem.W.kitOne K (.type "list") (.type "list") = some true := by with_unfolding_all rfl
theorem mt_bits : MtR X "int.bit_length" (fun x xs H Q => ∃ i, x = .int i ∧ xs = [] ∧ Q (.int (Builtin.Int.intBits i)) H) := by
  intro pins s σ H x xs v us Q I rx rs h
  obtain ⟨i, rfl, rfl, q⟩ := h
  obtain ⟨t, rfl⟩ := rx
  cases rs
  exact call_int_bit_length ⟨.int _, H, I.tok _, ⟨_, rfl⟩, q⟩
end
end L2
namespace L2
open PySem PySem.Spec PyProof.Rows
section
variable {X : Cx}
end
theorem dl {n : Nat} (h : Nat.ble n 1000 = true) : n ≤ sizeLine := Nat.le_of_lt (small1000 (Nat.le_of_ble_eq_true h))
theorem modC {j : Int} (h : decide (0 < j) = true) : 0 < j := of_decide_eq_true h
theorem iteD {c A B : Prop} [Decidable c] (h : ¬ c) (hb : B) : if decide c = true then A else B := by
  rw [decide_eq_false h]
  exact iteF hb
theorem iteP {c A B : Prop} [Decidable c] (h : c) (ha : A) : if decide c = true then A else B := by
  rw [decide_eq_true h]
  exact iteT ha
theorem Same.new {H : Hp} {p : Addr} {o : HO} (h : H p = none) : Same H (upd H p o) := fun b u e => by
  rw [upd_ne (ne_of_none e h)]
  exact e
theorem Same.put {H H2 : Hp} {D : Addr} {o : HO} (s : Same H H2) (h : H D = none) : Same H (upd H2 D o) := fun b u e => by
  rw [upd_ne (ne_of_none e h)]
  exact s b u e
def Tups (H H' : Hp) : Prop := ∀ b xs, H b = some (.tup xs) → H' b = some (.tup xs)
theorem Same.tups {H H' : Hp} (s : Same H H') : Tups H H' := fun b xs e => s b _ e
theorem Tups.trans {H H1 H2 : Hp} (a : Tups H H1) (b : Tups H1 H2) : Tups H H2 := fun c xs e => b c xs (a c xs e)
theorem Tups.put {H : Hp} {D : Addr} {o : HO} {ys : List V} (h : H D = some (.lst ys)) : Tups H (upd H D o) := fun b xs e => by
  rw [upd_ne (ne_of e h (by intro z; cases z))]
  exact e
theorem Paired.getP {α β : Type} {F : α → β → Prop} : ∀ {l : List α} {r : List β} {i : Nat} {x : α}, Paired F l r → l[i]? = some x → ∃ y, r[i]? = some y ∧ F x y
  | _, _, _, _, .nil, e => by simp at e
  | _, _, 0, _, .cons h _, e => by
    simp at e
    subst e
    exact ⟨_, rfl, h⟩
  | _, _, i + 1, x, .cons _ t, e => by
    obtain ⟨y, h1, h2⟩ := Paired.getP (i := i) (x := x) t (by simpa using e)
    exact ⟨y, by simpa using h1, h2⟩
theorem ints_cut (ns : List Int) (lo hi : Option Int) : cutV (ns.map V.int) lo hi = ((ns.drop (HT.sIx ns.length 0 lo)).take (HT.sIx ns.length ns.length hi - HT.sIx ns.length 0 lo)).map V.int := by
  unfold cutV
  rw [List.length_map, ← List.map_drop, ← List.map_take]
end L2

namespace L2
open PySem PySem.Spec PyProof.Rows
section
variable {X : Cx} {l : Expr} {tl : TE} {tg a b o e : Expr} {ta tb to : TE} {es : List Expr}
theorem op_eqK (K : PySem.W.Frag) (hu : X.A.units + 64 < cLine) (h : X.K = K := by rfl) : OpR X (compareOp .Eq) (rEqD K) := by subst h; exact op_eqD hu
theorem op_neK (K : PySem.W.Frag) (hu : X.A.units + 64 < cLine) (h : X.K = K := by rfl) : OpR X (compareOp .NotEq) (rNeD K) := by subst h; exact op_neD hu
theorem isiK (K : PySem.W.Frag) (h : X.K = K := by rfl) : CallR X (.builtin "isinstance") (rIsi K) := by subst h; exact call_isi
def rLen (K : PySem.W.Frag) : List V → Hp → VK → Prop := fun xs H Q => ∃ p ys, xs = [.ref p] ∧ (SqL K H p ys ∨ SqT K H p ys) ∧ Q (.int ys.length) H
theorem lenK (K : PySem.W.Frag) (h : X.K = K := by rfl) : CallR X (.builtin "len") (rLen K) := by subst h; exact call_len_seq
def rList (K : PySem.W.Frag) : List V → Hp → VK → Prop := fun xs H Q => ∃ p ys, xs = [.ref p] ∧ (SqL K H p ys ∨ SqT K H p ys) ∧ ∀ l, H l = none → Q (.ref l) (upd H l (.lst ys))
theorem listK (K : PySem.W.Frag) (h : X.K = K := by rfl) : CallR X (.type "list") (rList K) := by subst h; exact call_list_of
def rTupl (K : PySem.W.Frag) : List V → Hp → VK → Prop := fun xs H Q => ∃ p ys, xs = [.ref p] ∧ ((SqL K H p ys ∧ ∀ l, H l = none → Q (.ref l) (upd H l (.tup ys))) ∨ (SqT K H p ys ∧ Q (.ref p) H))
theorem tuplK (K : PySem.W.Frag) (h : X.K = K := by rfl) : CallR X (.type "tuple") (rTupl K) := by subst h; exact call_tuple_of
theorem ixL (K : PySem.W.Frag) (h : X.K = K := by rfl) : IxR X (rIxL K) := by subst h; exact ix_list
theorem ixT (K : PySem.W.Frag) (h : X.K = K := by rfl) : IxR X (rIxT K) := by subst h; exact ix_tup
theorem slL (K : PySem.W.Frag) (h : X.K = K := by rfl) : SlR X (rSlL K) := by subst h; exact sl_list
theorem slT (K : PySem.W.Frag) (h : X.K = K := by rfl) : SlR X (rSlT K) := by subst h; exact sl_tup
theorem inK (K : PySem.W.Frag) (h : X.K = K := by rfl) : OpR X (compareOp .In) (rIn K false) := by subst h; exact op_in_seq
theorem notInK (K : PySem.W.Frag) (h : X.K = K := by rfl) : OpR X (compareOp .NotIn) (rIn K true) := by subst h; exact op_notIn_seq
theorem piL (K : PySem.W.Frag) (hl : PE X l tl) (h : X.K = K := by rfl) : PI X tg l (iList K tl) := by subst h; exact pi_list hl
theorem pgT (K : PySem.W.Frag) {k : Nat} {t : TGs} {n : Nat} {pos : Pos} (hc : X.calm = true) (hp : PGs X es t) (hn : (assignEach es X.env).length = n := by rfl) (hst : (assignEach es X.env).findIdx? (·.1) = none := by rfl) (h : X.K = K := by rfl) :
    PG X (.Tuple es k pos) (gTup K n t) := by subst h; exact pg_tup hc hp hn hst
theorem pe_ty {x : Str} {T : String} {pos : Pos} (hg : Gl X x) (hm : X.mg x = none) (hv : bootBuiltins x = some (.type T)) (hn : x ≠ "__name__" := by decide) (hd : (x == ("__debug__" : Str)) = false := by decide) : PE X (.Name x pos) (tC (.ty T)) :=
  pe_bltn hg hm hv rfl hn hd
end
end L2

namespace L2
open PySem PySem.Spec PyProof.Rows

def SecD (od : Option Addr) (c : Value) (e : Addr) (h : Heap) : Prop := ∃ oe vs, h.get? e = some oe ∧ oe.data = .fields vs ∧ vs[2]? = some c ∧ oe.dict = od
theorem dict_map (o : Obj) (f) : (o.mapFields f).dict = o.dict := by
  obtain ⟨c, d, dt, sl⟩ := o
  cases dt <;> rfl
section
variable {M : Model} {A : Around} {E : Value → Shared → Prop} {s : Shared} {B : Heap} {env : Env} {outer l : List Env} {L e : Addr} {cls a0 : Value} {Q : Unit → Shared → Prop} {od : Option Addr} {c : Value}
theorem upd_rec {h : Heap} {T : Addr} {oT : Obj} {ts : Array Value} (f : Obj → Obj) (hT : h.get? T = some oT) (hd : oT.data = .fields ts) : h.UpToSlots (h.update T f) := fun b o hb hn => by
  have ne : T ≠ b := fun z => by
    rw [← z, hT] at hb
    cases hb
    exact hn ts hd
  exact ⟨o.slots, (Heap.get?_update_other h f ne).trans hb⟩
theorem stays_rec {h : Heap} {T : Addr} (f : Obj → Obj) (k : B.StaysIn h) (n : B.get? T = none) : B.StaysIn (h.update T f) := fun b o hb => by
  have ne : T ≠ b := fun z => by
    rw [← z, n] at hb
    cases hb
  exact (Heap.get?_update_other h f ne).trans (k b o hb)
theorem FunFrames_up {h h' : Heap} (x : h.FunFrames B l) (u : h.UpToSlots h') : h'.FunFrames B l := x.of_keeps fun b o hb hn =>
  let ⟨_, q⟩ := u b o hb hn
  ⟨_, q, rfl⟩
theorem land2 {fl : Value} (hk : B.StaysIn s.heap) (hn : B.get? e = none) (hl : s.heap.FunFrames B l) (ht : s.heap.TracedAtW B e cls a0 fl) (h2 : SecD od c e s.heap)
    (q : ∀ h', Heap.FlyingW B l e cls a0 h' → SecD od c e h' → s.heap.UpToSlots h' → Q () { s with heap := h' }) : wpAny M A (setFlight (.ref e) none) Q E s := by
  obtain ⟨oe, vs, T, oT, ts, ge, hc, de, f1, nT, Te, gT, dT, f3⟩ := ht
  have z3 : 3 < ts.size := (Array.getElem?_eq_some_iff.mp f3).1
  rw [setFlight]
  refine wpAny_bind (wpAny_field ge de f1 ?_)
  rw [if_pos (by simp)]
  refine wpAny_setField gT dT z3 ?_
  have up := upd_rec (Obj.mapFields (·.setIfInBounds 3 ((none : Option Addr).elim Value.none fun f => rawInt f))) gT dT
  have ge' := (Heap.get?_update_other s.heap (Obj.mapFields (·.setIfInBounds 3 ((none : Option Addr).elim Value.none fun f => rawInt f))) Te).trans ge
  have dT' := Obj.data_mapFields dT (·.setIfInBounds 3 ((none : Option Addr).elim Value.none fun f => rawInt f))
  refine q _ ⟨stays_rec _ hk nT, hn, FunFrames_up hl up, oe, vs, T, _, _, ge', hc, de, f1, nT, Te, Heap.get?_update_self _ gT (Obj.isFreed_of_fields dT'), dT', by simp [z3]⟩ ?_ up
  obtain ⟨o2, v2, g2, d2, k2, z2⟩ := h2
  rw [ge] at g2
  cases g2
  exact ⟨oe, v2, ge', d2, k2, z2⟩
theorem entry2 {oe : Obj} {vs : Array Value} {head : Value} {hadNext : Bool} (hfr : A.frames = some (env :: outer)) (hl : s.heap.FunFrames B (env :: outer)) (hf : env.frame = some L) (ge : s.heap.get? e = some oe) (hk : B.StaysIn s.heap) (hn : B.get? e = none)
    (de : oe.data = .fields vs) (hz : 1 < vs.size) (h0 : vs[0]? = some a0) (h2 : vs[2]? = some c) (hz2 : oe.dict = od)
    (q : ∀ h', Heap.HeldW B (env :: outer) e oe.cls a0 L h' → SecD od c e h' → s.heap.UpToSlots h' → Q () { s with heap := h' }) :
    wpAny M A (do let a ← frameOf env; let pl ← entryPlaceOf L hadNext; let b ← EntryCells.newEntry head a .none (rawInt L) .none pl; setField (.ref e) 1 b) Q E s := by
  have noFr : e ∉ (env :: outer).filterMap (·.frame) := fun z => by
    obtain ⟨_, o, ho, nf⟩ := hl.mem z
    rw [ge] at ho
    cases ho
    exact nf vs de
  refine wpAny_bind (wpAny_frameOf_fun hfr hl hf fun h1 so => wpAny_bind (wpAny_entryPlaceOf fun pl ip => ?_))
  rw [EntryCells.newEntry, newFields]
  refine wpAny_bind (wpAny_newObj_type ?_ (ip.sizeOk5 _ _ _ _ _))
  generalize hnw : ({ cls := .type "traceback", dict := none, data := .fields ([head, .ref L, .none, rawInt L, .none] ++ (if pl.isEmpty then List.replicate 6 Value.none else pl)).toArray } : Obj) = nw
  have dn : nw.data = .fields ([head, .ref L, .none, rawInt L, .none] ++ (if pl.isEmpty then List.replicate 6 Value.none else pl)).toArray := by rw [← hnw]
  have ge1 : h1.get? e = some oe := (so.2.1 e noFr).trans ge
  have ge2 := Heap.get?_push_of_some (h := h1) nw ge1
  have Te : h1.objs.size ≠ e := Nat.ne_of_gt (Heap.lt_size ge1)
  refine wpAny_setField ge2 de hz ?_
  have de3 := Obj.data_mapFields de (·.setIfInBounds 1 (Value.ref h1.objs.size))
  have ge3 := Heap.get?_update_self (Obj.mapFields (·.setIfInBounds 1 (Value.ref h1.objs.size))) ge2 (Obj.isFreed_of_fields de3)
  have gT3 := (Heap.get?_update_other (h1.push nw) (Obj.mapFields (·.setIfInBounds 1 (Value.ref h1.objs.size))) (Ne.symm Te)).trans (Heap.get?_push_size h1 (by rw [← hnw]; rfl))
  have up : s.heap.UpToSlots ((h1.push nw).update e (Obj.mapFields (·.setIfInBounds 1 (Value.ref h1.objs.size)))) := by
    have u1 : s.heap.UpToSlots h1 := fun b o hb _ => so.2.2 b o hb
    exact (u1.trans (.of_keeps fun b o hb => Heap.get?_push_of_some nw hb)).trans (upd_rec _ ge2 de)
  have k1 : B.StaysIn h1 := fun b o hb => (so.2.1 b fun z => by rw [(hl.mem z).1] at hb; cases hb).trans (hk b o hb)
  have k2 : B.StaysIn (h1.push nw) := fun b o hb => Heap.get?_push_of_some nw (k1 b o hb)
  refine q _ ⟨stays_rec _ k2 hn, hn, FunFrames_up hl up, _, _, h1.objs.size, nw, _, ge3, ⟨Obj.cls_mapFields _ _, by rw [Array.getElem?_setIfInBounds_ne (by decide)]; exact h0⟩, de3, by simp [hz], k1.fresh, Te, gT3, dn, ?_⟩ ?_ up
  · first | (simp; done) | (rcases ip with rfl | ⟨_, _, _, _, _, _, _, rfl⟩ <;> simp)
  · exact ⟨_, _, ge3, de3, by rw [Array.getElem?_setIfInBounds_ne (by decide)]; exact h2, (dict_map _ _).trans hz2⟩
theorem note2 (hfr : A.frames = some (env :: outer)) (hf : env.frame = some L) (fl : Heap.FlyingW B (env :: outer) e cls a0 s.heap) (h2 : SecD od c e s.heap)
    (q : ∀ h', Heap.HeldW B (env :: outer) e cls a0 L h' → SecD od c e h' → s.heap.UpToSlots h' → Q () { s with heap := h' }) : wpAny M A (noteFrame (.ref e) env) Q E s := by
  obtain ⟨hk, hn, hl, oe, vs, T, oT, ts, ge, ⟨hc, h0⟩, de, f1, nT, Te, gT, dT, f3⟩ := fl
  obtain ⟨o2, v2, g2, d2, k2, z2⟩ := h2
  rw [ge] at g2
  cases g2
  rw [de] at d2
  cases d2
  cases hc
  rw [noteFrame]
  simp only [hf]
  refine wpAny_bind (wpAny_field ge de f1 ?_)
  rw [if_pos (by simp)]
  refine wpAny_bind (wpAny_field gT dT f3 ?_)
  rw [if_neg (by simp [rawInt])]
  refine wpAny_bind (wpAny_setField gT dT (Array.getElem?_eq_some_iff.mp f3).1 ?_)
  have up := upd_rec (Obj.mapFields (·.setIfInBounds 3 Value.none)) gT dT
  have ge' := (Heap.get?_update_other s.heap (Obj.mapFields (·.setIfInBounds 3 Value.none)) Te).trans ge
  exact entry2 (s := { s with heap := s.heap.update T (Obj.mapFields (·.setIfInBounds 3 Value.none)) }) hfr (FunFrames_up hl up) hf ge' (stays_rec _ hk nT) hn de (Array.getElem?_eq_some_iff.mp f1).1 h0 k2 z2 fun h' x1 x2 x3 => q h' x1 x2 (up.trans x3)
theorem fly2 (x : Heap.FlyingW B (env :: outer) e cls a0 s.heap) : Heap.FlyingW B outer e cls a0 s.heap :=
  let ⟨k1, k2, ⟨_, _, k3⟩, k4⟩ := x
  ⟨k1, k2, k3, k4⟩
theorem leave_on2 (hfr : A.frames = some (env :: outer)) (hf : env.frame = some L) (fl : Heap.FlyingW B (env :: outer) e cls a0 s.heap) (h2 : SecD od c e s.heap)
    (q : ∀ h', Heap.FlyingW B outer e cls a0 h' → SecD od c e h' → s.heap.UpToSlots h' → Q () { s with heap := h' }) : wpAny M A (leaving env (.ref e)) Q E s := by
  rw [leaving]
  refine wpAny_bind (note2 hfr hf fl h2 fun h' x1 x2 x3 => ?_)
  obtain ⟨y1, y2, y3, y4⟩ := x1
  exact land2 (s := { s with heap := h' }) y1 y2 y3 y4 x2 fun h'' z1 z2 z3 => q h'' (fly2 (s := { s with heap := h'' }) z1) z2 (x3.trans z3)
theorem leave_new {oe : Obj} {vs : Array Value} (hfr : A.frames = some (env :: outer)) (hf : env.frame = some L) (hk : B.StaysIn s.heap) (hn : B.get? e = none) (hl : s.heap.FunFrames B (env :: outer)) (ge : s.heap.get? e = some oe) (de : oe.data = .fields vs)
    (h0 : vs[0]? = some a0) (h1 : vs[1]? = some .none) (h2 : vs[2]? = some c) (hz2 : oe.dict = od)
    (q : ∀ h', Heap.FlyingW B outer e oe.cls a0 h' → SecD od c e h' → s.heap.UpToSlots h' → Q () { s with heap := h' }) : wpAny M A (leaving env (.ref e)) Q E s := by
  rw [leaving, noteFrame]
  simp only [hf]
  refine wpAny_bind (wpAny_bind (wpAny_field ge de h1 ?_))
  rw [if_neg (by decide)]
  refine entry2 (a0 := a0) hfr hl hf ge hk hn de (Array.getElem?_eq_some_iff.mp h1).1 h0 h2 hz2 fun h' x1 x2 x3 => ?_
  obtain ⟨y1, y2, y3, y4⟩ := x1
  exact land2 (s := { s with heap := h' }) y1 y2 y3 y4 x2 fun h'' z1 z2 z3 => q h'' (fly2 (s := { s with heap := h'' }) z1) z2 (x3.trans z3)
end
end L2

namespace L2
open PySem PySem.Spec PyProof.Rows

section
variable {P : Program} {w : World} {H H0 H1 : Hp} {h h0 h1 h2 : Heap} {a : Addr} {o : HO} {fs : List Addr} {B : Heap}
theorem ObjOk.thing (x : ObjOk P w H h a o) : ∃ ob, h.get? a = some ob := by
  cases o with
  | lst xs => obtain ⟨_, _, _, _, e⟩ := x; exact ⟨_, e⟩
  | tup xs => obtain ⟨_, _, _, ob, e, _⟩ := x; exact ⟨ob, e⟩
  | dK kvs => obtain ⟨_, _, _, _, ob, _, _, e, _⟩ := x; exact ⟨ob, e⟩
  | dT kvs => obtain ⟨_, _, _, _, ob, _, _, e, _⟩ := x; exact ⟨ob, e⟩
  | set S n => obtain ⟨ob, _, _, _, e, _⟩ := x; exact ⟨ob, e⟩
  | ins C dx fs => obtain ⟨_, _, _, e, _⟩ := x; exact ⟨_, e⟩
  | own y => exact x
  | xd fs => obtain ⟨_, ⟨ob, _, _, e, _⟩, _⟩ := x; exact ⟨ob, e⟩
  | rng lo hi => obtain ⟨_, _, _, e⟩ := x; exact ⟨_, e⟩
  | frz ob u => obtain ⟨e, _⟩ := x; exact ⟨_, e⟩
  | tbl ps => exact ⟨_, (show h.get? a = some _ from x)⟩
  | met f y => exact ⟨_, (show h.get? a = some _ from x)⟩
  | ext φ => obtain ⟨_, e, _⟩ := x; exact e
def Cov (B : Heap) (fs : List Addr) (h0 : Heap) (H : Hp) (h : Heap) : Prop := ∀ b o, h.get? b = some o → (H b ≠ none ∨ ∃ o', h0.get? b = some o') → b ∉ fs → B.get? b = some o
theorem stays_un (un : Un fs [] H0 H1 h0 h1) (hok : HOk P w H1 h1) (nof : ∀ b ∈ fs, H1 b = none) (fr : ∀ b ∈ fs, ∀ ob, h1.get? b = some ob → ∀ vs, ob.data ≠ .fields vs) (cov : Cov B fs h0 H1 h1)
    (hB : B.StaysIn h2) (up : h1.UpToSlots h2) : Un fs [] H0 H1 h0 h2 ∧ HOk P w H1 h2 ∧ Cov B fs h0 H1 h2 := by
  have inB : ∀ b ob, h1.get? b = some ob → (H1 b ≠ none ∨ ∃ o', h0.get? b = some o') → b ∉ fs → h2.get? b = some ob := fun b ob e c n => hB b ob (cov b ob e c n)
  have trk : ∀ b u, H1 b = some u → b ∉ fs := fun b u e z => by
    rw [nof b z] at e
    cases e
  refine ⟨⟨fun b ob e n hb hx => inB b ob (un.keep b ob e n hb hx) (.inr ⟨ob, e⟩) hb, fun b ob e n hb hx => ?_, un.free, fun b ob e hx => ?_, un.tups, un.frzs, un.tbls⟩, fun b u e => ?_, fun b ob e c n => ?_⟩
  · obtain ⟨sl, q⟩ := un.slot b ob e n hb hx
    obtain ⟨sl', q'⟩ := up b _ q (fr b hb _ q)
    exact ⟨sl', q'⟩
  · obtain ⟨o', q⟩ := un.there b ob e hx
    by_cases hb : b ∈ fs
    · obtain ⟨sl', q'⟩ := up b _ q (fr b hb _ q)
      exact ⟨_, q'⟩
    · exact ⟨o', inB b o' q (.inr ⟨ob, e⟩) hb⟩
  · refine (hok b u e).stay (fun c v hc q => ?_) (fun _ q => q) fun _ _ q => q
    have hct : ∃ z, H1 c = some z := by
      rcases hc with hc | hc
      · rw [hc]
        exact ⟨u, e⟩
      · exact ⟨_, hc⟩
    obtain ⟨z, hz⟩ := hct
    exact inB c v q (.inl (by rw [hz]; simp)) (trk c z hz)
  · have ht : ∃ o1, h1.get? b = some o1 := by
      rcases c with c | ⟨o', c⟩
      · cases hz : H1 b with
        | none => exact absurd hz c
        | some z => exact (hok b z hz).thing
      · exact un.there b o' c (by simp)
    obtain ⟨o1, q⟩ := ht
    have q2 := cov b o1 q c n
    have q3 := hB b o1 q2
    rw [e] at q3
    rw [Option.some.inj q3]
    exact q2
end
def ExcO (ea : Addr) (cls : Value) : HO := .ext fun h => ∃ oe vs, h.get? ea = some oe ∧ oe.cls = cls ∧ oe.data = .fields vs ∧ vs[2]? = some .none
theorem excO_ok {P : Program} {w : World} {H : Hp} {h : Heap} {ea : Addr} {cls : Value} (q : ∃ oe vs, h.get? ea = some oe ∧ oe.cls = cls ∧ oe.data = .fields vs ∧ vs[2]? = some .none) : ObjOk P w H h ea (ExcO ea cls) :=
  ⟨q, let ⟨oe, _, e, _⟩ := q; ⟨oe, e⟩, fun h1 h2 ⟨oe, vs, e, c, d, z⟩ k => ⟨oe, vs, k oe e, c, d, z⟩⟩
def CtxE (E : XK) (cls : Value) (od : Option Addr) (c : Value) (H : Hp) : Prop := (c = .none ∧ (∃ C0 : Addr, cls = .ref C0) ∧ E cls od H) ∨ ∃ C e' C', cls = .ref C ∧ od = none ∧ c = .ref e' ∧ H e' = some (ExcO e' C') ∧ E (.int (C : Int) e') none H
def CX1 (P : Program) (w : World) : CXT := fun outer H s E e s' => ∃ (ea : Addr) (cls a0 : Value) (od : Option Addr) (c : Value) (H' : Hp) (B : Heap), e = .ref ea ∧ s'.os = s.os ∧ AllBare s'.gens ∧ Un (frs outer) [] H H' s.heap s'.heap ∧ HOk P w H' s'.heap ∧ H' ea = none ∧
  Cov B (frs outer) s.heap H' s'.heap ∧ Heap.FlyingW B outer ea cls a0 s'.heap ∧ SecD od c ea s'.heap ∧ CtxE E cls od c H'
structure Out (X : Cx) (E : XK) : Prop where
  stk : X.stack = X.env :: X.outer
  fr : X.env.frame = some X.env.locals
  ex : X.ex = []
  xe : ∀ e s', wpAny (model X.prog X.w) X.A (leaving X.env e) (fun _ s'' => CX1 X.prog X.w X.outer X.H₀ X.s₀ E e s'') (fun e' s'' => CX1 X.prog X.w X.outer X.H₀ X.s₀ E e' s'') s' → X.xe e s'
def Thr (X : Cx) (E : XK) : Prop := ∀ (pins : List (Addr × Obj)) (σ : St) (H : Hp) (s : Shared) (h1 : Heap) (ea C0 : Addr) (vs : List Value), Inv X pins σ H s → Heap.MadeExcOf s.heap h1 ea (.ref C0) vs → E (.ref C0) none H → X.xe (.ref ea) { s with heap := h1 }
section
variable {X : Cx} {E : XK} {pins : List (Addr × Obj)} {σ : St} {H : Hp} {s : Shared}
theorem Inv.fsData (I : Inv X pins σ H s) : ∀ b ∈ X.fs, ∀ ob, s.heap.get? b = some ob → ∀ vs, ob.data ≠ .fields vs := fun b hb ob e => by
  obtain ⟨_, o, ho, hnf⟩ := I.funs.mem hb
  rw [e] at ho
  cases ho
  exact hnf
theorem Inv.fsFree (I : Inv X pins σ H s) (hx : X.ex = []) : ∀ b ∈ X.fs, H b = none := fun b hb => by
  obtain ⟨_, o, ho, _⟩ := I.ok.funs.mem hb
  exact I.base.free b o ho (I.ok.frf b hb) (by rw [hx]; simp)
theorem Cov.outer {B h0 : Heap} {h : Heap} (I : Inv X pins σ H s) (cov : Cov B (frs X.stack) h0 H h) (k : ∀ b o, X.s₀.heap.get? b = some o → ∃ o', h0.get? b = some o') : Cov B X.fs X.s₀.heap H h := fun b o e c n => by
  refine cov b o e (c.imp id fun ⟨o', q⟩ => k b o' q) fun z => ?_
  rcases List.mem_cons.mp (I.stkSub b z) with q | q
  · subst q
    rcases c with c | ⟨o', c⟩
    · exact c I.free
    · exact absurd (Nat.lt_of_lt_of_le (Heap.lt_size c) I.ok.above) (Nat.lt_irrefl _)
  · exact n q
theorem fly_out (O : Out X E) (I : Inv X pins σ H s) {B : Heap} {ea : Addr} {cls a0 : Value} {od : Option Addr} {c : Value} {h2 : Heap} (cov : Cov B X.fs X.s₀.heap H s.heap) (fl : Heap.FlyingW B X.outer ea cls a0 h2) (sc : SecD od c ea h2) (up : s.heap.UpToSlots h2) (hn : H ea = none) (q : CtxE E cls od c H) :
    CX1 X.prog X.w X.outer X.H₀ X.s₀ E (.ref ea) { s with heap := h2 } := by
  have un : Un X.fs [] X.H₀ H X.s₀.heap s.heap := by
    have u := I.base
    rw [O.ex] at u
    exact u
  obtain ⟨u2, ok2, c2⟩ := stays_un un I.hok (I.fsFree O.ex) I.fsData cov fl.1 up
  exact ⟨ea, cls, a0, od, c, H, B, rfl, I.os, I.bare, u2, ok2, hn, c2, fl, sc, q⟩
theorem Out.thrC (O : Out X E) {ea : Addr} {oe : Obj} {vs : Array Value} {a0 c : Value} (I : Inv X pins σ H s) (ge : s.heap.get? ea = some oe) (de : oe.data = .fields vs) (h0 : vs[0]? = some a0) (h1 : vs[1]? = some .none) (h2 : vs[2]? = some c)
    (hn : H ea = none) (new : X.s₀.heap.get? ea = none) (q : CtxE E oe.cls oe.dict c H) : X.xe (.ref ea) s := by
  refine O.xe _ _ ?_
  have hfr : X.A.frames = some (X.env :: X.outer) := by rw [I.ok.frames, O.stk]
  have hl : s.heap.FunFrames (PySem.W.hideAll s.heap (ea :: frs X.stack)) (X.env :: X.outer) := by
    have z := PySem.W.funFrames_hide (as := ea :: frs X.stack) I.stack fun env he b hb => List.mem_cons_of_mem _ (List.mem_filterMap.mpr ⟨env, he, hb⟩)
    rw [O.stk] at z ⊢
    exact z
  refine leave_new hfr O.fr (fun b o e => PySem.W.of_hideAll _ e) (PySem.W.hideAll_none _ (List.mem_cons_self ..)) hl ge de h0 h1 h2 rfl fun h3 fl sc up => ?_
  refine fly_out O I (Cov.outer I (h0 := X.s₀.heap) (fun b o e c n => ?_) fun b o e => ⟨o, e⟩) fl sc up hn q
  refine PySem.W.hideAll_get _ e fun z => ?_
  rcases List.mem_cons.mp z with z | z
  · subst z
    rcases c with c | ⟨o', c⟩
    · exact c hn
    · rw [new] at c
      cases c
  · exact n z
theorem Out.thrG (O : Out X E) {ea : Addr} {oe : Obj} {vs : Array Value} {a0 : Value} (I : Inv X pins σ H s) (ge : s.heap.get? ea = some oe) (de : oe.data = .fields vs) (h0 : vs[0]? = some a0) (h1 : vs[1]? = some .none) (h2 : vs[2]? = some .none)
    (hn : H ea = none) (new : X.s₀.heap.get? ea = none) (hcl : ∃ C0 : Addr, oe.cls = .ref C0) (q : E oe.cls oe.dict H) : X.xe (.ref ea) s := O.thrC I ge de h0 h1 h2 hn new (.inl ⟨rfl, hcl, q⟩)
theorem Out.thr (O : Out X E) : Thr X E := by
  intro pins σ H s h1 ea C0 vs I mk q
  have I1 : Inv X pins σ H { s with heap := h1 } := I.kept (t' := s.toks) mk.keeps
  have hn : H ea = none := by
    cases hz : H ea with
    | none => rfl
    | some z =>
      obtain ⟨ob, e⟩ := (I.hok ea z hz).thing
      rw [mk.new] at e
      cases e
  obtain ⟨t, ge, _, _⟩ := mk.there
  refine O.thrG I1 (a0 := .ref t) ge rfl rfl rfl rfl hn ?_ ⟨_, rfl⟩ q
  cases hz : X.s₀.heap.get? ea with
  | none => rfl
  | some o =>
    obtain ⟨o', e⟩ := I.base.there ea o hz (by rw [O.ex]; simp)
    rw [mk.new] at e
    cases e
theorem Inv.threw {H' : Hp} {s' : Shared} (I : Inv X pins σ H s) (os : s'.os = s.os) (bare : AllBare s'.gens) (un : Un (frs X.stack) [] H H' s.heap s'.heap) (hok : HOk X.prog X.w H' s'.heap) : Inv X pins σ H' s' :=
  I.call' (ch := []) os un hok bare fun b z => absurd z (by simp)
theorem Out.passes (O : Out X E) : Passes (CX1 X.prog X.w) X E := by
  intro pins σ H s e s' I q
  obtain ⟨ea, cls, a0, od, c, H', B, rfl, os, bare, un, hok, hn, cov, fl, sc, qE⟩ := q
  have I1 := I.threw os bare un hok
  refine O.xe _ _ ?_
  have hfr : X.A.frames = some (X.env :: X.outer) := by rw [I.ok.frames, O.stk]
  rw [O.stk] at fl
  refine leave_on2 hfr O.fr fl sc fun h2 fl2 sc2 up => ?_
  exact fly_out O I1 (Cov.outer I1 cov fun b o e => I.base.there b o e (by rw [O.ex]; simp)) fl2 sc2 up hn qE
end
theorem out_of {P : Program} {w : World} {K : PySem.W.Frag} {mg : Str → Option Value} {base : Heap} {N : List Str} {qual : Str} {scope : Scope} {f : Addr} {cd : Value} {A : Around} {outer : List Env} {s : Shared} {H : Hp} {E : XK} :
    Out (cxOf (CX1 P w) P w K mg base N qual scope f cd A outer s H E) E := ⟨rfl, rfl, rfl, fun _ _ h => h⟩
theorem Fun.ok1 {P : Program} {w : World} {K : PySem.W.Frag} {mg : Str → Option Value} {base : Heap} {x qual : Str} {st : Stmt} {f : Addr} {fd : FuncData} {N ps : List Str} {k : Nat} {sp : Sp} (F : Fun K x qual st f fd) (S : FnScope N ps (defScope st))
    (len : ∀ vs H Q E, sp vs H Q E → vs.length = ps.length)
    (hbody : ∀ (cdv : Value) (A : Around) (outer : List Env) (s : Shared) (H : Hp) (vs : List V) (Q : VK) (E : XK), Room k (A.deeper (envOfC qual (defScope st) s.heap.objs.size f cdv)) → sp vs H Q E →
      ∃ t, PSs (cxOf (CX1 P w) P w K mg base N qual (defScope st) f cdv A outer s H E) (defBody st) t ∧ t { nx := fun _ H' => Q .non H', rt := Q } (start N vs) H) : FnOk P w K mg base (CX1 P w) (k + 1) f fd ps sp := by
  obtain ⟨oc, od, kV, doc, pm, an, cdv, ct, osl, rfl, lk, hcd⟩ := F.ex
  exact fn_of lk hcd S len fun A outer s H vs Q E hr hsp => hbody cdv A outer s H vs Q E hr hsp
section
variable {X : Cx} {E : XK}
def tRaise (C : Addr) (E : XK) (t : TA) : TS := fun _ σ H => t σ H fun vs H1 => vs.length ≤ sizeLine ∧ E (.ref C) none H1
theorem ps_raise {x : Str} {C : Addr} {bm : List Value} {B newId initId : String} {e : Expr} {es : List Expr} {ta : TA} {np cpos pos : Pos} (th : Thr X E) (hc : X.calm = true) (hg : Gl X x) (O : ∀ h, X.K.In h → h.Ns mainGlobals X.mg → OwnCls x C bm newId X.mg h)
    (FB : ExcBaseFacts B newId initId bm) (ha : PA X (e :: es) ta) (he : starEach (e :: es) X.env = (false, eval e X.env) :: starEach es X.env := by rfl) (hpl : (backTo cpos (starEach es X.env)).any (·.1) = false := by rfl)
    (hd : (x == ("__debug__" : Str)) = false := by decide) : PS X (.Raise (some (.Call (.Name x np) (e :: es) [] cpos)) none pos) (tRaise C E ta) := by
  intro pins s σ H D I h
  have OC := O _ I.mod.kin I.mod.glob
  obtain ⟨tl, N, nm, q, bs, hdct, sn, sub, ab, col, dd, k0, k1, k2, k3, k5, mN, hC, hN, hni, T⟩ := OC.obj
  refine wpAny_Raise_call_subT (C := C) (nm := nm) (q := q) (N := N) (bs := bs) (bm := tl) (hdct := hdct) (sn := sn) (sub := sub) (ab := ab) (col := col) (dd := dd) (k0 := k0) (k1 := k1) (k2 := k2) (k3 := k3) (k5 := k5)
    FB (mN := mN) (T.hasType FB.hasBase) (I.ok.hd hc) (by rw [he]; show (false || (backTo cpos (starEach es X.env)).any (·.1)) = false; rw [hpl]; rfl) hni (ld_glob I hg OC.bound ⟨rfl, ?_⟩ hd)
  have hA := ha cpos pins s σ H _ I h
  rw [he] at hA ⊢
  refine Calls.evalArgs_plain (wpAny_mono hA (fun us s1 ⟨vs, H1, I1, r1, z, q1⟩ => ?_) fun _ _ y => y)
  exact ⟨rfl, by rw [← r1.length]; exact z, I1.bk _ _ hC, hN.keeps I1.bk, T.keeps I1.bk, fun h' ea hm => th pins σ H1 s1 h' ea _ us I1 hm q1⟩
end
end L2

namespace L2
open PySem PySem.Spec PyProof.Rows

theorem exm_no (K : PySem.W.Frag) (i : Int) (n : Nat) (v : Value) : PySem.W.exmOne K (.int i n) v ≠ some true := by
  unfold PySem.W.exmOne
  split
  · unfold PySem.W.kitCls
    split
    · split <;> simp [PySem.W.subIn]
    · split <;> simp [PySem.W.subIn]
    · simp
  · simp
section
variable {X : Cx} {pins : List (Addr × Obj)} {σ : St} {H : Hp} {s : Shared}
theorem Inv.track {ea : Addr} {o : HO} (I : Inv X pins σ H s) (hn : H ea = none) (h0 : X.s₀.heap.get? ea = none) (hL : ea ≠ X.env.locals) (hC : ∀ x c, X.env.cells.lookup x = some c → c ≠ ea) (hp : ∀ p ∈ X.pn ++ pins, p.1 ≠ ea)
    (ok : ObjOk X.prog X.w (upd H ea o) s.heap ea o) : Inv X pins σ (upd H ea o) s := by
  have ne : ∀ b u, H b = some u → b ≠ ea := fun b u e z => by rw [z, hn] at e; cases e
  refine ⟨I.ok, I.os, I.bare, ⟨I.base.keep, I.base.slot, fun b ob e n hx => ?_, I.base.there, fun b xs e => ?_, fun b ob u e => ?_, fun b ps e => ?_⟩, I.loc, I.cell, ?_, fun x c e => ?_, fun p hpp => ?_, fun b u e => ?_, I.len⟩
  · rw [upd_ne (fun z => by rw [z, h0] at e; cases e)]
    exact I.base.free b ob e n hx
  · have q := I.base.tups b xs e
    rw [upd_ne (ne b _ q)]
    exact q
  · have q := I.base.frzs b ob u e
    rw [upd_ne (ne b _ q)]
    exact q
  · obtain ⟨more, q⟩ := I.base.tbls b ps e
    exact ⟨more, by rw [upd_ne (ne b _ q)]; exact q⟩
  · rw [upd_ne (Ne.symm hL)]
    exact I.free
  · rw [upd_ne (hC x c e)]
    exact I.freeC x c e
  · obtain ⟨a1, a2, a3⟩ := I.pin p hpp
    exact ⟨a1, by rw [upd_ne (hp p hpp)]; exact a2, a3⟩
  · by_cases hb : b = ea
    · subst hb
      rw [upd_same] at e
      cases e
      exact ok
    · rw [upd_ne hb] at e
      exact (I.hok b u e).stay (fun _ _ _ q => q) (fun c q => by rw [upd_ne (ne c _ q)]; exact q) fun c xs q => by rw [upd_ne (ne c _ q)]; exact q
theorem Inv.recx {A' : Around} {pn' pins' : List (Addr × Obj)} {cm : Bool} {xe' : Value → Shared → Prop} (I : Inv X pins σ H s) (hA : A'.frames = X.A.frames) (hcm : cm = true → A'.handled = none) (hp : ∀ p ∈ pn' ++ pins', p ∈ X.pn ++ pins) :
    Inv { X with A := A', calm := cm, pn := pn', xe := xe' } pins' σ H s :=
  ⟨⟨I.ok.mod, I.ok.kind, I.ok.glob, I.ok.blt, I.ok.above, I.ok.inj, I.ok.has, I.ok.cab, hcm, hA.trans I.ok.frames, I.ok.stk, I.ok.exf, I.ok.bs, I.ok.bsz, I.ok.noex, I.ok.exfs, I.ok.funs, I.ok.frf⟩,
    I.os, I.bare, I.base, I.loc, I.cell, I.free, I.freeC, fun p z => I.pin p (hp p z), I.hok, I.len⟩
theorem unname_ok {M : Model} {A : Around} {E : Value → Shared → Prop} {i : Nat} {x : Str} {pos : Pos} {Q : Unit → Shared → Prop} (I : Inv X pins σ H s) (hN : X.N.Nodup) (hi : X.N[i]? = some x) (hx : X.env.scope.names.lookup x = some .local)
    (h : ∀ s', Inv X pins (σ.set i none) H s' → Q () s') : wpAny M A (do bindName X.env x .none; unbindBehindTheSuite X.env x pos) Q E s := by
  obtain ⟨m, hn, hl⟩ := id I.loc
  have hcls : (X.env.scope.kind == .class || (X.env.scope.kind == .module && X.env.locals != X.env.globals)) = false := by rw [I.ok.kind]; rfl
  refine wpAny_nameGoes_keeps hx hn hcls fun h' v hn' hs => ?_
  have below : ∀ b ob, X.s₀.heap.get? b = some ob → b ≠ X.env.locals := fun b ob e => Nat.ne_of_lt (Nat.lt_of_lt_of_le (Heap.lt_size e) I.ok.above)
  refine h _ ⟨I.ok, I.os, I.bare, ⟨fun b ob e n hb hx => (hs.2 b (below b ob e)).trans (I.base.keep b ob e n hb hx), fun b ob e n hb hx => ?_, I.base.free, fun b ob e hx => ?_, I.base.tups, I.base.frzs, I.base.tbls⟩,
    ⟨_, hn', fun j y v' e1 e2 e3 => ?_⟩, fun y c e => ?_, I.free, I.freeC, fun p hp => ?_, fun b ob e => ?_, by rw [List.length_set]; exact I.len⟩
  · obtain ⟨sl, e1⟩ := I.base.slot b ob e n hb hx
    exact ⟨sl, (hs.2 b (below b ob e)).trans e1⟩
  · obtain ⟨o', e1⟩ := I.base.there b ob e hx
    exact ⟨o', (hs.2 b (below b ob e)).trans e1⟩
  · by_cases hj : j = i
    · subst hj
      have hlt : j < σ.length := by rw [I.len]; exact (List.getElem?_eq_some_iff.mp hi).1
      rw [List.getElem?_set_self hlt] at e2
      cases e2
    · rw [List.getElem?_set_ne (Ne.symm hj)] at e2
      obtain ⟨u', r', q⟩ := hl j y v' e1 e2 e3
      refine ⟨u', r', ?_⟩
      rcases q with ⟨k, e⟩ | ⟨k, c, e, z⟩
      · have hyx : y ≠ x := fun e' => hj (nodup_ix hN e1 (e' ▸ hi))
        exact .inl ⟨k, by simp [hyx, e]⟩
      · exact .inr ⟨k, c, e, z.sameBut hs (I.cne y c e)⟩
  · obtain ⟨w', z⟩ := I.cell y c e
    exact ⟨w', z.sameBut hs (I.cne y c e)⟩
  · obtain ⟨e, n, ne, nf, d⟩ := I.pin p hp
    exact ⟨(hs.2 p.1 ne).trans e, n, ne, nf, d⟩
  · refine (I.hok b ob e).stay (fun c v hc q => (hs.2 c ?_).trans q) (fun _ q => q) fun _ _ q => q
    intro z
    subst z
    have hf : H X.env.locals = none := I.free
    rcases hc with hc | hc
    · rw [← hc, hf] at e
      cases e
    · rw [hf] at hc
      cases hc
end
def tTryG (o : Addr → Value → Option Addr → HO) (K : PySem.W.Frag) (C i k : Nat) (tb : XK → TS) (th : Addr → TS) : TS := fun D σ H => ∃ E : XK, tb E D σ H ∧ ∀ cls od H', E cls od H' → PySem.W.exmOne K cls (.ref C) = some true ∧
  ∀ ea, H' ea = none → th ea { nx := fun σ2 H2 => D.nx (σ2.set i none) H2, rt := fun _ _ => False } ((List.replicate k none).set i (some (.ref ea))) (upd H' ea (o ea cls od))
abbrev tTry := tTryG fun ea cls _ => ExcO ea cls
section
variable {X : Cx}
theorem ps_tryG (oo : Addr → Value → Option Addr → HO) (hoo : ∀ {H : Hp} {h : Heap} {ea : Addr} {cls : Value} {od : Option Addr}, (∃ oe vs, h.get? ea = some oe ∧ oe.cls = cls ∧ oe.data = .fields vs ∧ vs[2]? = some .none ∧ oe.dict = od) → ObjOk X.prog X.w H h ea (oo ea cls od))
    {x n : Str} {i : Nat} {C : Addr} {body rest : List Stmt} {b0 : Stmt} {np hpos pos : Pos} {tb : XK → TS} {th : Addr → TS} (K : PySem.W.Frag) (hst : X.stack = X.env :: X.outer) (hf : X.env.frame = some X.env.locals) (hexs : X.ex = []) (hN : X.N.Nodup) (hi : X.N[i]? = some n)
    (hx : X.env.scope.names.lookup n = some .local) (hg : Gl X x) (hm : X.mg x = some (.ref C))
    (hb : ∀ E pn xe, Passes (CX1 X.prog X.w) { X with pn := pn, xe := xe } E → PSs { X with pn := pn, xe := xe } body (tb E))
    (hh : ∀ ea pn, PSs { X with A := X.A.mark (some (.ref ea)), calm := false, pn := pn, xe := fun _ _ => False } (b0 :: rest) (th ea)) (hK : X.K = K := by rfl) (hdb : (x == ("__debug__" : Str)) = false := by decide) :
    PS X (.Try body [.ExceptHandler (some (.Name x np)) (some n) (b0 :: rest) hpos] [] [] pos) (tTryG oo K C i X.N.length tb th) := by
  subst hK
  intro pins s σ H D I h
  obtain ⟨E, htb, hE⟩ := h
  refine wpAny_Try_except ?_
  have hfr : X.A.frames = some (X.env :: X.outer) := by rw [I.ok.frames, hst]
  -- the body, in a context whose exceptions come here
  have I' : Inv { X with pn := X.pn ++ pins, xe := fun e s1 => ∃ pins' σ' H0 s0, Inv { X with pn := X.pn ++ pins } pins' σ' H0 s0 ∧ CX1 X.prog X.w X.stack H0 s0 E e s1 } [] σ H s :=
    I.recx (A' := X.A) (cm := X.calm) rfl I.ok.hd fun p hp => by simpa using hp
  have hpass : Passes (CX1 X.prog X.w) { X with pn := X.pn ++ pins, xe := fun e s1 => ∃ pins' σ' H0 s0, Inv { X with pn := X.pn ++ pins } pins' σ' H0 s0 ∧ CX1 X.prog X.w X.stack H0 s0 E e s1 } E := by
    intro pins' σ' H0 s0 e s1 J q
    exact ⟨pins', σ', H0, s0, J.recx (A' := X.A) (cm := X.calm) (pn' := X.pn ++ pins) rfl J.ok.hd fun p hp => hp, q⟩
  have toX : ∀ {pins' σ' H' s'}, Inv { X with pn := X.pn ++ pins } pins' σ' H' s' → Inv X pins σ' H' s' := fun {pins' σ' H' s'} J => by
    have z := J.recx (A' := X.A) (cm := X.calm) (pn' := X.pn) (pins' := pins) (xe' := X.xe) rfl J.ok.hd fun p hp => List.mem_append_left _ hp
    exact z
  have toX' : ∀ {pins' σ' H' s'} {xe' : Value → Shared → Prop}, Inv { X with pn := X.pn ++ pins, xe := xe' } pins' σ' H' s' → Inv X pins σ' H' s' := fun {pins' σ' H' s' xe'} J => by
    have z := J.recx (A' := X.A) (cm := X.calm) (pn' := X.pn) (pins' := pins) (xe' := X.xe) rfl J.ok.hd fun p hp => List.mem_append_left _ hp
    exact z
  refine wpAny_mono (hb E _ _ hpass [] s σ H D I' htb) (fun f s1 q => ?_) fun e s1 q => ?_
  · cases f with
    | next =>
      obtain ⟨σ', H', J, q⟩ := q
      exact wpAny_execs_nil ⟨σ', H', toX' J, q⟩
    | brk =>
      obtain ⟨σ', H', J, q⟩ := q
      exact ⟨σ', H', toX' J, q⟩
    | cont =>
      obtain ⟨σ', H', J, q⟩ := q
      exact ⟨σ', H', toX' J, q⟩
    | ret u =>
      obtain ⟨v, σ', H', J, r, q⟩ := q
      exact ⟨v, σ', H', toX' J, r, q⟩
  · obtain ⟨pins', σ', H0, s0, I0, ea, cls, a0, od, c, H1, B, rfl, os, bare, un, hok, hn, cov, fl, sc, qE⟩ := q
    rcases qE with ⟨rfl, _, qE⟩ | ⟨C9, e9, C8, rfl, rfl, rfl, _, qE⟩
    case inr => exact absurd (hE _ _ _ qE).1 (exm_no _ _ _ _)
    obtain ⟨hex, hth⟩ := hE cls od H1 qE
    have J1 : Inv { X with pn := X.pn ++ pins } pins' σ' H1 s1 := I0.threw os bare un hok
    have nof : ∀ b ∈ frs X.stack, H1 b = none := J1.stkFree
    have frd : ∀ {h' : Heap}, s1.heap.UpToSlots h' → ∀ b ∈ frs X.stack, ∀ ob, h'.get? b = some ob → ∀ vs, ob.data ≠ .fields vs := fun {h'} up b hb ob e vs z => by
      obtain ⟨_, o, ho, hnf⟩ := J1.stack.mem hb
      obtain ⟨sl, q⟩ := up b o ho hnf
      rw [e] at q
      cases q
      exact hnf vs z
    -- a station: the invariant again
    have at_ : ∀ {h' : Heap}, B.StaysIn h' → s1.heap.UpToSlots h' → Inv X pins σ' H1 { s1 with heap := h' } := fun {h'} hB up => by
      obtain ⟨u2, ok2, _⟩ := stays_un un hok nof (frd (Heap.UpToSlots.refl _)) cov hB up
      exact toX (I0.threw (s' := { s1 with heap := h' }) os bare u2 ok2)
    have eNo : ea ∉ frs X.stack := fun z => by
      obtain ⟨oe, vs, e, _, d, _⟩ := fl.first
      exact frd (Heap.UpToSlots.refl _) ea z oe e vs d
    have new0 : s0.heap.get? ea = none := by
      cases hz : s0.heap.get? ea with
      | none => rfl
      | some o =>
        obtain ⟨oe, vs, e, _⟩ := fl.first
        have q := cov ea oe e (.inr ⟨o, hz⟩) eNo
        rw [fl.2.1] at q
        cases q
    have fl' : Heap.FlyingW B (X.env :: X.outer) ea cls a0 s1.heap := by
      rw [hst] at fl
      exact fl
    refine note2 hfr hf fl' sc fun h4 held4 sc4 up4 => ?_
    obtain ⟨g1, g2, g3, g4⟩ := held4
    refine land2 (s := { s1 with heap := h4 }) g1 g2 g3 g4 sc4 fun h5 fl5 sc5 up5 => ?_
    have up15 := up4.trans up5
    have J5 := at_ fl5.1 up15
    have hfm : (X.A.mark (some (.ref ea))).frames = X.A.frames := rfl
    have J5' : Inv { X with A := X.A.mark (some (.ref ea)), calm := false, pn := X.pn, xe := fun _ _ => False } pins σ' H1 { s1 with heap := h5 } := J5.recx hfm (fun z => nomatch z) fun p hp => hp
    refine wpAny_handleBy_cons (codeAny_handlers_test (ld_glob J5' hg hm ?_ hdb)) (by intro q; cases q)
    obtain ⟨ob, hob, hobc⟩ := fl5.there
    have LT : PySem.W.Looks (model X.prog X.w) h5 (typeOf (.ref ea)) cls := hobc ▸ (PySem.W.Looks.ld hob).andThen .now
    refine PySem.W.Looks.here (s := { s1 with heap := h5 }) (PySem.W.exm_one (K := X.K) J5.kIn LT hex) ?_
    refine codeAny_handlers_suite_as ?_
    obtain ⟨k1, k2, k3, k4⟩ := fl5
    refine land2 (s := { s1 with heap := h5 }) k1 k2 k3 k4.at sc5 fun h6 fl6 sc6 up6 => ?_
    have up16 := up15.trans up6
    have J6 := at_ fl6.1 up16
    obtain ⟨oe, vs, e6, c6, d6, _⟩ := fl6.first
    have z6 : vs[2]? = some .none ∧ oe.dict = od := by
      obtain ⟨o2, v2, g2, d2, z2, y2⟩ := sc6
      rw [e6] at g2
      cases g2
      rw [d6] at d2
      cases d2
      exact ⟨z2, y2⟩
    have ne0 : ea ≠ X.env.locals := fun z => by
      obtain ⟨m, ⟨o, _, _, ho, hd, _⟩, _⟩ := J6.loc
      rw [← z] at ho
      rw [e6] at ho
      cases ho
      rw [d6] at hd
      cases hd
    have J7 : Inv X pins σ' (upd H1 ea (oo ea cls od)) { s1 with heap := h6 } := by
      refine J6.track hn ?_ ne0 (fun y c e z => ?_) (fun p hp z => ?_) (hoo ⟨oe, vs, e6, c6, d6, z6.1, z6.2⟩)
      · cases hz : X.s₀.heap.get? ea with
        | none => rfl
        | some o =>
          obtain ⟨o', q⟩ := I0.base.there ea o hz (show ea ∉ X.ex by rw [hexs]; simp)
          rw [new0] at q
          cases q
      · obtain ⟨v, o, ho, hd⟩ := J6.cell y c e
        rw [z, e6] at ho
        cases ho
        rw [d6] at hd
        cases hd
      · have q := (I0.pin p (List.mem_append_left _ hp)).1
        rw [z, new0] at q
        cases q
    have J8 : Inv { X with A := X.A.mark (some (.ref ea)), calm := false, pn := X.pn, xe := fun _ _ => False } pins (List.replicate X.N.length none) (upd H1 ea (oo ea cls od)) { s1 with heap := h6 } := by
      have z : Inv X pins (List.replicate X.N.length none) (upd H1 ea (oo ea cls od)) { s1 with heap := h6 } := J7.weak (by rw [List.length_replicate, J7.len]) fun j v e => by
        rw [List.getElem?_replicate] at e
        split at e <;> cases e
      exact z.recx hfm (fun z => nomatch z) fun p hp => hp
    refine store_ok (X := { X with A := X.A.mark (some (.ref ea)), calm := false, pn := X.pn, xe := fun _ _ => False }) (v := .ref ea) J8 hN hi (.inl hx) rfl (fun s9 J9 => ?_) (.inr hx)
    refine wpAny_mono (hh _ _ pins s9 _ _ _ J9 (hth ea hn)) (fun f s10 q => ?_) fun _ _ z => z.elim
    cases f with
    | next =>
      obtain ⟨σ2, H2, J10, q⟩ := q
      have J11 : Inv X pins σ2 H2 s10 := by
        have z := J10.recx (A' := X.A) (cm := X.calm) (pn' := X.pn) (pins' := pins) (xe' := X.xe) hfm.symm I.ok.hd fun p hp => hp
        exact z
      exact unname_ok J11 hN hi hx fun s12 J12 => ⟨_, H2, J12, q⟩
    | brk => obtain ⟨_, _, _, q⟩ := q; exact q.elim
    | cont => obtain ⟨_, _, _, q⟩ := q; exact q.elim
    | ret u => obtain ⟨_, _, _, _, _, q⟩ := q; exact q.elim
theorem ps_try {x n : Str} {i : Nat} {C : Addr} {body rest : List Stmt} {b0 : Stmt} {np hpos pos : Pos} {tb : XK → TS} {th : Addr → TS} (K : PySem.W.Frag) (hst : X.stack = X.env :: X.outer) (hf : X.env.frame = some X.env.locals) (hexs : X.ex = []) (hN : X.N.Nodup) (hi : X.N[i]? = some n)
    (hx : X.env.scope.names.lookup n = some .local) (hg : Gl X x) (hm : X.mg x = some (.ref C))
    (hb : ∀ E pn xe, Passes (CX1 X.prog X.w) { X with pn := pn, xe := xe } E → PSs { X with pn := pn, xe := xe } body (tb E))
    (hh : ∀ ea pn, PSs { X with A := X.A.mark (some (.ref ea)), calm := false, pn := pn, xe := fun _ _ => False } (b0 :: rest) (th ea)) (hK : X.K = K := by rfl) (hdb : (x == ("__debug__" : Str)) = false := by decide) :
    PS X (.Try body [.ExceptHandler (some (.Name x np)) (some n) (b0 :: rest) hpos] [] [] pos) (tTry K C i X.N.length tb th) := ps_tryG (fun ea cls _ => ExcO ea cls) (fun ⟨oe, vs, e, c, d, z, _⟩ => excO_ok ⟨oe, vs, e, c, d, z⟩) K hst hf hexs hN hi hx hg hm hb hh hK hdb
end
end L2

namespace L2
open PySem PySem.Spec PySem.Calls PyProof.Rows PySem.W PySem.Builtin PySem.Builtin.ObjectAttr PySem.Builtin.Getset_descriptor

structure ExcCls (K : Frag) (D : Addr) : Prop where
  ga : findIn K (.ref D) "__getattribute__" = some (some (.builtin "BaseException.__getattribute__"))
  gh : findIn K (.ref D) "__getattr__" = some none
  cl : findIn K (.ref D) "__class__" = some (some (.builtin "object.__class__"))
  gt : specialIn K (.builtin "object.__class__") "__get__" = some (some (.builtin "getset_descriptor.__get__"))
  tk : takesIn K (.builtin "object.__class__") = some true
  mr : mroIn K D (.type "object") = some true
  mb : mroIn K D (.type "BaseException") = some true
  is_ : (clsIn K D).isSome = true
def ExcAt (x : Addr) (D : Value) (h : Heap) : Prop := ∃ ox, h.get? x = some ox ∧ ox.cls = D
section
variable {K : Frag} {x D : Addr}
theorem ExcAt.ty {M : Model} {h : Heap} {V : Value} (q : ExcAt x V h) : Looks M h (typeOf (.ref x)) V := by
  obtain ⟨ox, e, c⟩ := q
  exact c ▸ (Looks.ld e).andThen .now
theorem looks_data {M : Model} {h : Heap} {C : Addr} {name : Str} {at_ g : Value} (X : K.In h) (ha : findIn K (.ref C) name = some (some at_)) (hg : specialIn K at_ "__get__" = some (some g)) (hd : takesIn K at_ = some true) :
    Looks M h (find (.ref x) (.ref C) name) (.bind g at_) := by
  refine (looks_findIn X ha).andThen (Looks.andThen (show Looks M h (getOf (some at_)) (some g) from looks_specialIn X hg) ?_)
  have L3 := looks_takesIn (M := M) X hd
  have L4 : Looks M h (dataDescriptor? (some at_) (some g)) (some (g, at_)) := L3.andThen .now
  exact L4.andThen (Looks.tag .now)
section
variable {prog : Program} {w : World} {A : Around} {E : Value → Shared → Prop} {s : Shared}
theorem check_bexc {M : Model} {nameV : Value} {Q : Unit → Shared → Prop} {hh : Heap} {gg : Array GenState} {dd : Drawn} {tt : Nat} {oo : OsState} (S : Looks M hh (isInstance (.ref x) (.type "BaseException")) true) (hq : Q () ⟨hh, gg, dd, tt, oo⟩) :
    wpAny M A (checkBuiltinCall "BaseException.__getattribute__" ⟨[.ref x, nameV], []⟩) Q E ⟨hh, gg, dd, tt, oo⟩ := by
  have hk : builtinKind "BaseException.__getattribute__" = some .slot := by decide +kernel
  have hsplit : splitId "BaseException.__getattribute__" = some ("BaseException", "__getattribute__") := by decide +kernel
  have ha := F.args_bexc_ga (.ref x) nameV
  simp only [checkBuiltinCall, hk, hsplit]
  refine wpAny_bind (S.at ?_)
  repeat (first | wp_step)
  exact hq
theorem exc_class {Q : Option Value → Shared → Prop} (C : ExcCls K D) (X : K.In s.heap) (q : ExcAt x (.ref D) s.heap) (h : Q (some (.ref D)) { s with toks := s.toks + 1 }) : wpAny (model prog w) A (getAttr? (.ref x) "__class__") Q E s := by
  obtain ⟨hh, gg, dd, tt, oo⟩ := s
  have L0 := q.ty (M := model prog w)
  have L1 := looks_findIn (M := model prog w) X C.ga
  have L2 := looks_data (M := model prog w) (x := x) X C.cl C.gt C.tk
  have L3 := looks_findIn (M := model prog w) X C.gh
  have L4 := looks_mroIn (M := model prog w) X C.mr
  have L5 := looks_mroIn (M := model prog w) X C.mb
  have S5 : Looks (model prog w) hh (isInstance (.ref x) (.type "BaseException")) true := L0.andThen L5
  unfold getAttr? getAttrBy? getAttrBy
  refine wpAny_bind (wpAny_mkText (wpAny_bind (wpAny_attempt (wpAny_holding (wpAny_bind (L0.at (wpAny_bind (L1.at ?_))))))))
  show wpAny _ _ (getAttrByItsOwn (.ref x) (.str "__class__" tt) (.ref D) (.builtin "BaseException.__getattribute__") false false) _ _ _
  unfold getAttrByItsOwn
  refine wpAny_bind (Looks.at (show Looks (model prog w) hh (hookBefore (.ref D)) none from L3) ?_)
  refine wpAny_bind (wpAny_attempt (wpAny_holding ?_))
  show wpAny _ _ (boundAndCalled _ _ _) _ _ _
  unfold boundAndCalled
  rw [F.attrBase_ValueError.ga.bind (.ref x)]
  refine wpAny_bind (wpAny_pure ?_)
  show wpAny _ _ (call (.builtin "BaseException.__getattribute__") [.ref x, .str "__class__" tt]) _ _ _
  refine wpAny_call (codeAny_call_builtin F.attrBase_ValueError.ga.plain F.entry_bexc_ga ?_)
  refine check_bexc S5 ?_
  refine wpAny_bind (wpAny_pure (wpAny_bind (wpAny_pure (wpAny_bind (L0.at (wpAny_bind (L2.at ?_)))))))
  show wpAny _ _ (holding [_] (call (.builtin "getset_descriptor.__get__") [.builtin "object.__class__", .ref x, .ref D]) >>= ret) _ _ _
  refine wpAny_bind (wpAny_holding (wpAny_call ?_))
  refine codeAny_call_builtin KF.slot_gs.plain KF.entry_gs (KF.slot_gs.check _ _ _ _ _ _ _ _ KF.type_class (KF.args_gs _ _ _) ?_)
  (unfold Builtin.«getset_descriptor.__get__» descrGet; rw [dga_obj])
  refine wpAny_bind (wpAny_pure ?_)
  (unfold descrGetter descrCheckInstance descrNameAndClass isInstance; simp only [KF.owner_class])
  repeat lk
  refine ⟨Code.quiet_builtin _ (by decide +kernel), codeAny_builtin KF.entry_class ?_⟩
  (unfold Builtin.«object.__class__» shownTypeOf)
  repeat lk
  exact h
end
theorem kitx_exc (C : ExcCls K D) : KitX K (.ref x) (.ref D) (ExcAt x (.ref D)) where
  ty := fun _ _ _ q => q.ty
  it := fun M h X _ => by
    have z := C.is_
    unfold clsIn at z
    split at z
    · rename_i ho
      intro A1 Q1 E1 s1 k q
      (unfold isType; unfold loadHead)
      exact wpAny_bind (wpAny_loadPart (k _ _ (X _ _ ho)) (wpAny_pure q))
    · cases z
  ne := fun h tp dd its n sl X htp => by
    have z := C.is_
    refine Bool.eq_false_iff.mpr fun q => ?_
    cases Value.ref.inj (beq_iff_eq.mp q)
    unfold clsIn at z
    split at z
    · rename_i ho
      cases (X _ _ ho).symm.trans htp
    · cases z
  ca := fun X q k => exc_class C X q k
end
def rIsiX (K : Frag) : List V → Hp → VK → Prop := fun xs H Q => ∃ x c D u b, xs = [.ref x, c] ∧ clsV c = some u ∧ H x = some (ExcO x (.ref D)) ∧ ExcCls K D ∧ kitOne K (.ref D) u = some b ∧ Q (.bl b) H
theorem isiX {X : Cx} (K : Frag) (hK : X.K = K := by rfl) : CallR X (.builtin "isinstance") (rIsiX K) := by
  subst hK
  intro pins s σ H xs us Q I r h
  obtain ⟨x, c, D, u, b, rfl, rc, ty, C, e, q⟩ := h
  cases r with
  | cons r1 r2 =>
    cases r2 with
    | cons r2 r3 =>
      cases r3
      cases clsV_of rc r2
      cases (show _ = Value.ref x from r1)
      obtain ⟨⟨oe, vs, e1, e2, _⟩, _⟩ := (show ObjOk X.prog X.w H s.heap x (ExcO x (.ref D)) from I.hok x _ ty)
      exact kia_one (kitx_exc C) I.kIn ⟨oe, e1, e2⟩ e (fun z => nomatch z) fun tk => ⟨.bl b, H, I.tok tk, rfl, q⟩
end L2

namespace L2
open PySem PySem.Spec PyProof.Rows
section
variable {X : Cx}
def rGetL (K : PySem.W.Frag) : V → V → Hp → VK → Prop := fun o i H Q => ∃ p xs j v, o = .ref p ∧ i = .int ((j : Nat) : Int) ∧ SqL K H p xs ∧ xs[j]? = some v ∧ Q v H
theorem getL (K : PySem.W.Frag) (hK : X.K = K := by rfl) : PGet X (rGetL K) := by
  subst hK
  intro pins s σ H o i ov iv Q I ro ri h
  obtain ⟨p, xs, j, v, rfl, rfl, hq, e, q⟩ := h
  cases ro
  obtain ⟨t, rfl⟩ := ri
  obtain ⟨its, r, pl, hz⟩ := I.list hq
  obtain ⟨u, eu, ru⟩ := r.get e
  have hj : j < xs.length := (List.getElem?_eq_some_iff.mp e).1
  have hn := line63
  exact wpAny_getItem_list pl.isList (by (first | lia | omega)) (by (first | lia | omega)) (by simpa using eu) ⟨v, H, I, ru, q⟩
def rCatL (K : PySem.W.Frag) : R2 := fun x y H Q => ∃ l b xs zs, x = .ref l ∧ y = .ref b ∧ SqL K H l xs ∧ SqL K H b zs ∧ xs.length + zs.length ≤ sizeLine ∧ ∀ p, H p = none → Q (.ref p) (upd H p (.lst (xs ++ zs)))
theorem catL (K : PySem.W.Frag) (hK : X.K = K := by rfl) : OpR X (binaryOp .Add) (rCatL K) := by
  subst hK
  intro pins s σ H x y v u Q I rx ry h
  obtain ⟨l, b, xs, zs, rfl, rfl, hH, hB, hz, q⟩ := h
  cases rx
  cases ry
  obtain ⟨its, r, pl, _⟩ := I.list hH
  obtain ⟨its2, r2, pl2, _⟩ := I.list hB
  obtain ⟨⟨cls, dd, data, sl⟩, n, e, hc, _, hd⟩ := pl
  obtain ⟨⟨cls2, dd2, data2, sl2⟩, n2, e2, hc2, _, hd2⟩ := pl2
  simp only at hc hd hc2 hd2
  subst hc hd hc2 hd2
  have l1 := r.length
  have l2 := r2.length
  have ea : its.toArray ++ its2.toArray = (its ++ its2).toArray := by simp
  refine concat_meets ⟨_, e, rfl⟩ ⟨_, e2, rfl⟩ noFill_list_add seq_list_add PySem.F.slot_list_add PySem.F.entry_list_add (PySem.F.args_list_add_2 _ _)
    (list_addW l b its.toArray its2.toArray n n2 dd dd2 sl sl2 (by rw [List.size_toArray, List.size_toArray]; (first | lia | omega))) ⟨e, e2, ?_⟩
  rw [ea]
  exact ⟨.ref _, _, I.lnew (t' := s.toks) (r.append r2) (by rw [List.length_append]; (first | lia | omega)), rfl, q _ I.fresh⟩
end
section
variable {X : Cx} {tg : Expr}
theorem ps_for1 {iter : Expr} {body : List Stmt} {wi : TI} {g : TG} {tb : TS} {pos : Pos} (hc : X.calm = true) (hi : PI X tg iter wi) (hg : PG X.nox tg g) (hb : PSs X.nox body tb) (hs : ∀ x, foldedSetIterable iter X.env x = pure x := by intro _; rfl) :
    PS X (.For tg iter body [] pos) (tFor wi g tb) := by
  intro pins s σ H D I h
  refine wpAny_For (thn (hi pins s σ H _ I h) fun v s1 h1 => thn h1 fun itv s2 h2 => ?_) hs
  obtain ⟨it, fp, tn, J, H2, e, I2, T, st2, f2, W, ⟨m0, w0⟩, turn⟩ := h2
  subst e
  have stat : ∀ {H' : Hp}, (∀ b ∈ fp, H' b = none) → ∀ b ∈ fp, FpOk X.nox pins H' b := fun hn b hb => ⟨hn b hb, (f2 b hb).2⟩
  refine codeAny_forLoop_any (fun n s' => ∃ i σ' H', Inv X.nox pins σ' H' s' ∧ tn i s'.heap ∧ (∀ b ∈ fp, H' b = none) ∧ W i n σ' H') ?_ m0 ⟨0, σ, H2, I2.wish _, st2, fun b hb => (f2 b hb).1, w0⟩
  rintro n s3 ⟨i, σ3, H3, I3, st3, fr3, w3⟩
  rcases turn i n σ3 H3 w3 with ⟨stop, qn⟩ | ⟨go, N, hN, step⟩
  · refine wpAny_mono (T.done X.nox rfl rfl rfl hc i pins s3 σ3 H3 (fun _ _ => False) I3 (stat fr3) st3 stop) (fun r s4 ⟨hr, I4⟩ => ?_) fun _ _ z => z.elim
    subst hr
    exact wpAny_execs_nil ⟨σ3, H3, I4.unwish, qn⟩
  · refine wpAny_mono (T.item X.nox rfl rfl rfl hc i pins s3 σ3 H3 (fun _ _ => False) I3 (stat fr3) st3 go) (fun r s4 ⟨u, hr, h4⟩ => ?_) fun _ _ z => z.elim
    subst hr
    refine wpAny_mono h4 (fun _ s5 ⟨x, H5, I5, r5, y5, st5, fr5⟩ => ?_) fun _ _ z => z.elim
    have I5' := I5.pinned (stat fr5) (T.obj _ _ st5)
    refine wpAny_mono (hg _ s5 σ3 H5 x u _ I5' r5 (step x H5 y5)) (fun _ s6 ⟨σ6, H6, I6, q6⟩ => ?_) fun _ _ z => z.elim
    refine wpAny_mono (hb _ s6 σ6 H6 _ I6 q6) (fun f s7 q7 => ?_) fun _ _ z => z.elim
    have again : ∀ {σ7 : St} {H7 : Hp}, Inv X.nox (pins ++ pinsAt fp s5.heap) σ7 H7 s7 → N σ7 H7 → ∃ m, m < n ∧ ∃ i σ' H', Inv X.nox pins σ' H' s7 ∧ tn i s7.heap ∧ (∀ b ∈ fp, H' b = none) ∧ W i m σ' H' := fun {σ7 H7} I7 n7 => by
      obtain ⟨m', hm, w7⟩ := hN σ7 H7 n7
      refine ⟨m', hm, i + 1, σ7, H7, I7.unpinned, T.keep _ _ _ st5 fun b hb o e => (I7.pin (b, o) (List.mem_append_right _ (List.mem_append_right _ (mem_pinsAt hb e)))).1, fun b hb => ?_, w7⟩
      obtain ⟨o, e, d⟩ := T.obj _ _ st5 b hb
      exact (I7.pin (b, o) (List.mem_append_right _ (List.mem_append_right _ (mem_pinsAt hb e)))).2.1
    cases f with
    | next => obtain ⟨σ7, H7, I7, n7⟩ := q7; exact again I7 n7
    | cont => obtain ⟨σ7, H7, I7, n7⟩ := q7; exact again I7 n7
    | brk => obtain ⟨σ7, H7, I7, q7⟩ := q7; exact ⟨σ7, H7, I7.unpinned.unwish, q7⟩
    | ret v => obtain ⟨x7, σ7, H7, I7, r7, q7⟩ := q7; exact ⟨x7, σ7, H7, I7.unpinned.unwish, r7, q7⟩
theorem passN {P : Program} {w : World} {X : Cx} : Passes (CX1 P w) X (fun _ _ _ => False) := by
  intro pins σ H s e s' I q
  obtain ⟨_, _, _, _, _, _, _, _, _, _, _, _, _, _, _, _, z⟩ := q
  rcases z with ⟨_, _, z⟩ | ⟨_, _, _, _, _, _, _, z⟩
  · exact z.elim
  · exact z.elim
end
theorem pe_cls {X : Cx} {x : Str} {C : Addr} {pos : Pos} (hg : Gl X x) (hm : X.mg x = some (.ref C)) (hd : (x == ("__debug__" : Str)) = false := by decide) : PE X (.Name x pos) (tC (.ref C)) := pe_glob hg hm rfl hd
theorem own_of {K : PySem.W.Frag} {h : Heap} {mg : Str → Option Value} {x : Str} {C : Addr} {bmB : List Value} {newId : String} (X : K.In h) (G : h.Ns mainGlobals mg) (e : PySem.W.nsIn K mainGlobals x = some (some (.ref C))) (q : PySem.W.excIn K C bmB newId = true) :
    OwnCls x C bmB newId mg h := by
  refine ⟨PySem.W.mg_of X G e, ?_⟩
  unfold PySem.W.excIn at q
  split at q
  · rename_i od cd sl look
    split at q
    · rename_i Cx bm j0 j1 j2 j3 nw j5 hmro hsl
      simp only [Bool.and_eq_true, beq_iff_eq, Bool.not_eq_true'] at q
      obtain ⟨⟨⟨⟨⟨rfl, rfl⟩, hdel⟩, ht⟩, hok⟩, hni⟩ := q
      obtain ⟨nm, bs, mro, ns, qn, hd, sn, sub, ab, col, del⟩ := cd
      (dsimp only at hmro hdel hok hni; subst hmro hdel)
      have hs2 : sl = #[j0, j1, j2, j3, some (.builtin nw), j5] := by
        obtain ⟨l⟩ := sl
        simp only at hsl
        rw [hsl]
      subst hs2
      exact ⟨bm, ns, nm, qn, bs, hd, sn, sub, ab, col, od, j0, j1, j2, j3, j5, _, X _ _ look, .of_isNs (PySem.W.isNs_of_in X hok), PySem.W.nsMap_none_of_in X hok hni, PySem.W.tail_of_in X ht⟩
    · cases q
  · cases q
end L2
namespace L2
theorem exc_is {K : PySem.W.Frag} {C : PySem.Addr} (h : PySem.W.hasDictIn K C = true) : (PySem.W.clsIn K C).isSome = true := by
  obtain ⟨cd, e, _⟩ := PySem.W.any_some h
  rw [e]
  rfl
end L2
namespace L2
theorem len1 {α : Type} : ∀ us : List α, us.length = 1 → ∃ a, us = [a]
  | [_], _ => ⟨_, rfl⟩
theorem len2 {α : Type} : ∀ us : List α, us.length = 2 → ∃ a b, us = [a, b]
  | [_, _], _ => ⟨_, _, rfl⟩
theorem len3 {α : Type} : ∀ us : List α, us.length = 3 → ∃ a b c, us = [a, b, c]
  | [_, _, _], _ => ⟨_, _, _, rfl⟩
theorem len4 {α : Type} : ∀ us : List α, us.length = 4 → ∃ a b c d, us = [a, b, c, d]
  | [_, _, _, _], _ => ⟨_, _, _, _, rfl⟩
end L2

namespace L2
open PySem PySem.Spec PyProof.Rows

section
variable {X : Cx} {ea : Addr} {k : Nat} {f : Addr} {fd : FuncData} {ps : List Str} {sp : Sp} {dvs : List V} {ds : List Value} {x : Str} {p pos : Pos} {e : Expr} {es : List Expr} {t : TA}
end
section
variable {prog : Program} {w : World} {A : Around} {E : Value → Shared → Prop} {s : Shared}
end
end L2

namespace L2
open PySem PySem.Spec PyProof.Rows
section
variable {X : Cx} {pins : List (Addr × Obj)} {σ : St} {H : Hp} {s : Shared} {h' : Heap}
theorem Inv.yields {t' : Nat} {wr : List Addr} {T : Addr} {o : HO} (I : Inv X pins σ H s) (k : ∀ b u, b ∉ wr → s.heap.get? b = some u → h'.get? b = some u) (hf : ∀ b ∈ wr, FpOk X pins H b) (hT : s.heap.objs.size ≤ T)
    (new : ObjOk X.prog X.w (upd H T o) h' T o) : Inv X pins σ (upd H T o) { s with heap := h', toks := t' } := by
  have hTn : H T = none := I.hok.fresh hT
  have nT : ∀ b u, H b = some u → b ≠ T := fun b u e => ne_of_none e hTn
  have nw : ∀ b u, H b = some u → b ∉ wr := fun b u e hb => by rw [(hf b hb).1] at e; cases e
  refine I.step (g' := s.gens) (d' := s.drawn) (ch := wr) (fun b hb => ?_) (fun b o _ _ hc e _ => k b o hc e) (fun b o _ _ hc e _ => ⟨o.slots, k b o hc e⟩) (fun b u hc e n => ?_)
    (fun b o hc e => ⟨o, k b o hc e⟩) (fun b xs e => ?_) (fun b ob xs e => ?_) (fun b ps e => ⟨#[], ?_⟩) (fun m hm => ?_) (fun b u e => ?_) I.bare
  · obtain ⟨_, f1, _, f3, f4, f5⟩ := hf b hb
    exact ⟨f3, f1, f4, f5⟩
  · rw [upd_ne (Nat.ne_of_lt (Nat.lt_of_lt_of_le (Heap.lt_size e) hT))]; exact n
  · rw [upd_ne (nT b _ e)]; exact e
  · rw [upd_ne (nT b _ e)]; exact e
  · rw [upd_ne (nT b _ e), e]; simp
  · obtain ⟨o, es, ep, ho, r⟩ := hm
    exact ⟨o, es, ep, k _ o (fun hb => (hf _ hb).2.1 rfl) ho, r⟩
  · by_cases hb : b = T
    · subst hb; rw [upd_same] at e; cases e; exact new
    · rw [upd_ne hb] at e
      refine (I.hok b u e).stay (fun c v hc q => k c v ?_ q) (fun c q => by rw [upd_ne (nT c _ q)]; exact q) fun c xs q => by rw [upd_ne (nT c _ q)]; exact q
      rcases hc with z | z
      · rw [z]; exact nw b u e
      · exact nw c _ z
end
def Ite (K : PySem.W.Frag) (a : Addr) : It :=
  ⟨fun i H => ∃ xs x, SqL K H a xs ∧ xs[i]? = some x, fun i H v H' => ∃ T x, v = .ref T ∧ H T = none ∧ H' = upd H T (.tup [.int (i : Int), x]) ∧ ∀ xs, SqL K H a xs → xs[i]? = some x, fun i H => ∃ xs, SqL K H a xs ∧ xs.length ≤ i⟩
theorem turn_enum {P : Program} {w : World} {K : PySem.W.Frag} {elts : List Expr} {k : Nat} {pos : Pos} (a e it : Addr) (hne : e ≠ it) :
    Turn P w K (.Tuple elts k pos) (Ite K a) [e, it] e (fun i h => (∃ old, IsEnum h e it (i : Int) old) ∧ h.IsListIter it a i) where
  mem := by simp
  obj := fun i h st b hb => by
    obtain ⟨⟨old, he⟩, o, ho, c, d⟩ := st
    have hb' : b = e ∨ b = it := by simpa using hb
    rcases hb' with rfl | rfl
    · exact ⟨_, he, fun v z => by cases z⟩
    · exact ⟨o, ho, fun v z => by rw [d] at z; cases z⟩
  keep := fun i h h' st k => by
    obtain ⟨⟨old, he⟩, hit⟩ := st
    exact ⟨⟨old, k e (by simp) _ he⟩, hit.at fun o x => k it (by simp) o x⟩
  item := by
    intro X hP hw hK hc i pins s σ H E I hf st hg
    subst hP hw hK
    obtain ⟨xs, x, hq, hx⟩ := hg
    obtain ⟨its, rv, p, hz⟩ := I.list hq
    obtain ⟨u, hu, ru⟩ := rv.get hx
    obtain ⟨⟨old, he⟩, hit⟩ := st
    refine wpAny_pyNext_enum_item he hit p.isList (x := u) (by simpa using hu) hne fun h1 ho hit1 hT hsz hk => ?_
    refine ⟨_, rfl, wpAny_letOwnedTupleGo_enum ho fun h2 he2 hs2 => ?_⟩
    have hTe : s.heap.objs.size ≠ e := Nat.ne_of_gt (Heap.lt_size he)
    have hT2 : h2.get? s.heap.objs.size = some { cls := .type "tuple", data := .seq #[.int i s.toks, u] } := (hs2.2 _ hTe).trans hT
    refine ⟨.ref s.heap.objs.size, upd H s.heap.objs.size (.tup [.int (i : Int), x]), I.yields (wr := [e, it]) (t' := s.toks + 1) (fun b o hb q => ?_) hf (Nat.le_refl _) ?_, rfl, ⟨_, x, rfl, I.fresh, rfl, fun ys hy => by rw [I.list_inj hy hq]; exact hx⟩, ⟨⟨u, by simpa using he2⟩, ?_⟩, fun b hb => ?_⟩
    · have h1' : b ≠ e := fun z => hb (by simp [z])
      have h2' : b ≠ it := fun z => hb (by simp [z])
      exact (hs2.2 b h1').trans (hk b o h1' h2' q)
    · exact ⟨dl rfl, [.int i s.toks, u], .cons ⟨_, rfl⟩ (.cons ru .nil), ⟨_, hT2, rfl, _, rfl⟩⟩
    · exact hit1.at fun o q => (hs2.2 it (Ne.symm hne)).trans q
    · rw [upd_ne]
      · exact (hf b hb).1
      · have hb' : b = e ∨ b = it := by simpa using hb
        rcases hb' with rfl | rfl
        · exact Ne.symm hTe
        · obtain ⟨o, q, _⟩ := hit
          exact Nat.ne_of_lt (Heap.lt_size q)
  done := by
    intro X hP hw hK hc i pins s σ H E I hf st hg
    subst hP hw hK
    obtain ⟨xs, hq, hx⟩ := hg
    obtain ⟨its, rv, p, hz⟩ := I.list hq
    obtain ⟨⟨old, he⟩, hit⟩ := st
    obtain ⟨f0, f1, f2, f3, f4, f5⟩ := hf it (by simp)
    have hl := rv.length
    exact wpAny_pyNext_enum_end (I.ok.hd hc) he hit p.isList (by simp; (first | lia | omega)) fun h' eb => ⟨rfl, I.turned (t' := s.toks) (fun b o hb e => eb b o hb e) f0 f1 f3 f4 f5⟩
  self := fun _ _ _ _ _ st h => by
    obtain ⟨⟨old, he⟩, _⟩ := st
    exact wpAny_pyIter_enum he h
section
variable {X : Cx} {elts : List Expr} {n : Nat} {tp : Pos}
def iEnum (K : PySem.W.Frag) (ta : TA) : TI := fun σ H R => ta σ H fun vs H1 => ∃ a, vs = [.ref a] ∧ (∃ xs, SqL K H1 a xs) ∧ R (Ite K a) H1
theorem pi_enum (K : PySem.W.Frag) {a : Expr} {ta : TA} {p pos : Pos} (hg : Gl X "enumerate") (hm : X.mg "enumerate" = none) (ha : PA X [a] ta) (hs : starEach [a] X.env = [(false, eval a X.env)] := by rfl) (hK : X.K = K := by rfl) :
    PI X (.Tuple elts n tp) (.Call (.Name "enumerate" p) [a] [] pos) (iEnum K ta) := by
  subst hK
  intro pins s σ H R I h
  refine Call_ (ld_blt I hg hm boot_enumerate (PyProof.Rows.callWith_type1 (thn (ha pos pins s σ H _ I h) fun us s1 ⟨vs, H1, I1, r1, q1⟩ => ?_) hs rfl))
  obtain ⟨a, e, ⟨xs, hq⟩, q⟩ := q1
  subst e
  cases r1 with
  | cons r rr =>
    cases rr
    cases r
    obtain ⟨its, rv, pl, hz⟩ := I1.list hq
    refine call_enumerate_list pl.isList fun h' he hit hsz hk => ?_
    have I2 : Inv X pins σ H1 { s1 with heap := h' } := I1.kept (t' := s1.toks) hk
    refine wpAny_pyIter_enum he ⟨_, [s1.heap.objs.size + 1, s1.heap.objs.size], _, _, H1, rfl, I2, turn_enum a _ _ (Nat.succ_ne_self _), ⟨⟨_, he⟩, hit⟩, fun b hb => ?_, q⟩
    have hb' : b = s1.heap.objs.size + 1 ∨ b = s1.heap.objs.size := by simpa using hb
    have hbs : s1.heap.objs.size ≤ b := by
      rcases hb' with rfl | rfl
      · exact Nat.le_succ _
      · exact Nat.le_refl _
    exact I1.fpOk hbs (I1.hok.fresh hbs)
end
section
variable {K : PySem.W.Frag} {a b : Addr} {xs ys : List V} {g : TG} {tt : TT} {te : TE} {n : Nat} {fr : St} {D : Addr} {Q : Hp → Prop} {H1 : Hp}
theorem for_enum {tb : TS} {D : Ends} {σ : St} {H : Hp} (Pv : Nat → St → Hp → Prop) (h0 : Pv 0 σ H) (hl : ∀ i σ H, i ≤ xs.length → Pv i σ H → SqL K H a xs)
    (hs : ∀ i x T σ H, xs[i]? = some x → Pv i σ H → H T = none → g (.ref T) σ (upd H T (.tup [.int (i : Int), x])) fun σ2 H2 => tb { D with nx := Pv (i + 1), ct := Pv (i + 1), bk := D.nx } σ2 H2) (hd : ∀ σ H, Pv xs.length σ H → D.nx σ H) :
    ∃ W : Nat → Nat → St → Hp → Prop, (∃ m, W 0 m σ H) ∧ ∀ i m σ H, W i m σ H →
      ((Ite K a).stop i H ∧ D.nx σ H) ∨ ((Ite K a).go i H ∧ ∃ N : St → Hp → Prop, (∀ σ' H', N σ' H' → ∃ m', m' < m ∧ W (i + 1) m' σ' H') ∧ ∀ x H', (Ite K a).yld i H x H' → g x σ H' fun σ2 H2 => tb { D with nx := N, ct := N, bk := D.nx } σ2 H2) := by
  refine ⟨fun i m σ H => m = xs.length - i ∧ i ≤ xs.length ∧ Pv i σ H, ⟨xs.length, by simp, Nat.zero_le _, h0⟩, ?_⟩
  rintro i m σ H ⟨rfl, hi, p⟩
  have q := hl i σ H hi p
  by_cases hlt : i < xs.length
  · refine .inr ⟨⟨xs, xs[i], q, by simp [hlt]⟩, Pv (i + 1), fun σ' H' p' => ⟨xs.length - (i + 1), by (first | lia | omega), rfl, hlt, p'⟩, fun v H' y => ?_⟩
    obtain ⟨T, x, rfl, hT, rfl, y⟩ := y
    exact hs i x T σ _ (y xs q) p hT
  · have e : i = xs.length := by (first | lia | omega)
    subst e
    exact .inl ⟨⟨xs, q, Nat.le_refl _⟩, hd σ H p⟩
end
end L2

namespace L2
open PySem PySem.Spec PyProof.Rows
section
variable {X : Cx}
theorem call_rng : CallR X (.type "range") (fun xs H Q => ∃ j : Int, xs = [.int j] ∧ ∀ p, H p = none → Q (.ref p) (upd H p (.rng 0 j))) := by
  intro pins s σ H xs us Q I r h
  obtain ⟨j, rfl, q⟩ := h
  obtain ⟨u, rfl, t, rfl⟩ := vals1 r
  refine call_range_1 ⟨.ref s.heap.objs.size, _, I.laid (t' := s.toks + 1 + 1) (fun b o e => Heap.get?_push_of_some _ e) (Nat.le_refl _) ?_, rfl, q _ I.fresh⟩
  exact ⟨_, _, _, Heap.get?_push_size _ rfl⟩
def rngV (n : Nat) : List V := (List.range n).map fun i => V.int ((i : Nat) : Int)
theorem listR (hc : X.calm = true) : CallR X (.type "list") (fun xs H Q => ∃ p, ∃ n : Nat, xs = [.ref p] ∧ H p = some (.rng 0 (n : Int)) ∧ n ≤ 900 ∧ ∀ l, H l = none → Q (.ref l) (upd H l (.lst (rngV n)))) := by
  intro pins s σ H xs us Q I r h
  obtain ⟨p, n, rfl, hp, hn, q⟩ := h
  obtain ⟨u, rfl, rx⟩ := vals1 r
  cases rx
  obtain ⟨t, u, v, e⟩ := (show ObjOk X.prog X.w H s.heap p (.rng 0 (n : Int)) from I.hok p _ hp)
  have hsz : Builtin.Range.rangeSize 0 (n : Int) 1 = (n : Int) := by rw [rangeSize_one]; split <;> (first | lia | omega)
  refine call_list_range (I.ok.hd hc) e (small_one (by (first | lia | omega)) (by (first | lia | omega)) (by (first | lia | omega)) (by (first | lia | omega))) hsz (Nat.le_trans hn (by decide)) fun h' tk acc c kp e' hacc => ?_
  refine ⟨.ref s.heap.objs.size, _, I.laid (t' := tk) kp (Nat.le_refl _) ?_, rfl, q _ I.fresh⟩
  have hl : acc.toList.length = n := by rw [Array.length_toList]; exact hacc.1
  have hz : (rngV n).length ≤ sizeLine := by
    unfold rngV
    rw [List.length_map, List.length_range]
    exact Nat.le_of_lt (small1000 (by (first | lia | omega)))
  refine ⟨hz, acc.toList, c, ?_, by simpa using e'⟩
  have key : ∀ (ys : List Value) (k : Nat), (∀ j v, ys[j]? = some v → ∃ t, v = Value.int (((k + j : Nat)) : Int) t) → Vals ((List.range' k ys.length).map fun i => V.int ((i : Nat) : Int)) ys := by
    intro ys
    induction ys with
    | nil => intro k _; exact .nil
    | cons y r ih =>
      intro k hy
      obtain ⟨t, ht⟩ := hy 0 y rfl
      refine .cons ⟨t, by simpa using ht⟩ (ih (k + 1) fun j v hv => ?_)
      obtain ⟨t', ht'⟩ := hy (j + 1) v (by simpa using hv)
      exact ⟨t', by rw [ht']; congr 2; (first | lia | omega)⟩
  have z := key acc.toList 0 fun j v hv => by
    obtain ⟨t, ht⟩ := hacc.2 j v (by simpa using hv)
    exact ⟨t, by rw [ht]; congr 1; (first | lia | omega)⟩
  rw [hl] at z
  unfold rngV
  rw [List.range_eq_range']
  exact z
end
end L2

namespace L2
open PySem PySem.Spec PyProof.Rows
section
variable {X : Cx}
end
end L2

namespace L2
open PySem PySem.Spec PyProof.Rows
section
variable {X : Cx}
theorem setL (K : PySem.W.Frag) (hc : X.calm = true) (hK : X.K = K := by rfl) : CallR X (.type "set") (fun xs H Q => ∃ (p : Addr) (ns : List Int), xs = [.ref p] ∧ SqL K H p (ns.map V.int) ∧ ns.length ≤ 900 ∧
    ∀ (l : Addr) (S : Int → Bool), H l = none → Q (.ref l) (upd H l (.set S (firstMet (fun i => ns.getD i 0) ns.length).length))) := by
  subst hK
  intro pins s σ H xs us Q I r h
  obtain ⟨p, ns, rfl, hq, hn, q⟩ := h
  obtain ⟨u, rfl, rx⟩ := vals1 r
  cases rx
  obtain ⟨its, rv, pl, hz⟩ := I.list hq
  have hl := rv.length
  rw [List.length_map] at hl
  have hsz : its.toArray.size = ns.length := by rw [List.size_toArray]; (first | lia | omega)
  refine PySem.call_set_list (I.ok.hd hc) pl.isList (ns := ns) (by simpa using intsAre_of rv) (by rw [hsz]; show ns.length + 1 < 4096; (first | lia | omega)) fun h' tk hS hk => ?_
  rw [hsz] at hS
  exact ⟨.ref s.heap.objs.size, _, I.laid (t' := tk) (o := .set (fun k' => (firstMet (fun i => ns.getD i 0) ns.length).any fun x => x == k') (firstMet (fun i => ns.getD i 0) ns.length).length) (fun b o e => hk b o (Heap.lt_size e) e) (Nat.le_refl _) hS, rfl, q _ _ I.fresh⟩
theorem lenSet : CallR X (.builtin "len") (fun xs H Q => ∃ (p : Addr) (S : Int → Bool) (n : Nat), xs = [.ref p] ∧ H p = some (.set S n) ∧ Q (.int (n : Int)) H) := by
  intro pins s σ H xs us Q I r h
  obtain ⟨p, S, n, rfl, hp, q⟩ := h
  obtain ⟨u, rfl, rx⟩ := vals1 r
  cases rx
  obtain ⟨o, es, ep, t, ho, hex, hd, _, _, hb, hf, rfl⟩ := (show ObjOk X.prog X.w H s.heap p (.set S n) from I.hok p _ hp)
  refine call_len_set ho hex hd hf (by have : es.size < 4096 := hb; (first | lia | omega)) ⟨.int _, H, I.tok _, ⟨_, rfl⟩, q⟩
end
end L2
namespace HT
open PySem PyProof.Rows
section
variable {prog : Program} {w : World} {A : Around} {E : Value → Shared → Prop} {s : Shared}
end
end HT
namespace L2
open PySem PySem.Spec PyProof.Rows
section
variable {X : Cx}
end
end L2

namespace Ring
open PySem
abbrev Tie := Int × Int × Int
def bit (S : Int) (k : Nat) : Bool := decide (S / 2 ^ k % 2 = 1)
def tiesOf (S : Int) : List Nat := (List.range (Builtin.Int.intBits S)).filter (bit S)
def bump (e : List Int) (i : Int) : List Int := e.set i.toNat (e.getD i.toNat 0 + 1)
def step (ts : List Tie) (e : List Int) (k : Nat) : List Int := match ts[k]? with
  | some t => bump (bump e t.1) t.2.1
  | none => e
def endsOf (p : Nat) (ts : List Tie) (S : Int) : List Int := (tiesOf S).foldl (step ts) (List.replicate p 0)
def oddOf (p : Nat) (ts : List Tie) (S : Int) : List Nat := (List.range p).filter fun i => decide ((endsOf p ts S).getD i 0 % 2 = 1)
def deg (ts : List Tie) (k i : Nat) : Int := match ts[k]? with
  | some t => (if t.1 = (i : Int) then 1 else 0) + (if t.2.1 = (i : Int) then 1 else 0)
  | none => 0
theorem bump_len (e : List Int) (i : Int) : (bump e i).length = e.length := by unfold bump; rw [List.length_set]
theorem step_len (ts : List Tie) (e : List Int) (k : Nat) : (step ts e k).length = e.length := by
  unfold step
  split
  · rw [bump_len, bump_len]
  · rfl
theorem bump_get (e : List Int) (j : Int) (i : Nat) (h0 : 0 ≤ j) (h1 : j < e.length) : (bump e j).getD i 0 = e.getD i 0 + if j = (i : Int) then 1 else 0 := by
  unfold bump
  rw [List.getD_eq_getElem?_getD, List.getD_eq_getElem?_getD, List.getD_eq_getElem?_getD]
  by_cases h : j = (i : Int)
  · have hi : j.toNat = i := by (first | lia | omega)
    rw [if_pos h, hi, List.getElem?_set_self (by (first | lia | omega))]
    rfl
  · have hi : j.toNat ≠ i := by (first | lia | omega)
    rw [if_neg h, List.getElem?_set_ne hi]
    (first | lia | omega)
structure InWeb (p : Nat) (ts : List Tie) : Prop where
  ends : ∀ t ∈ ts, 0 ≤ t.1 ∧ t.1 < (p : Int) ∧ 0 ≤ t.2.1 ∧ t.2.1 < (p : Int)
theorem step_get {p : Nat} {ts : List Tie} (W : InWeb p ts) (e : List Int) (k i : Nat) (he : e.length = p) : (step ts e k).getD i 0 = e.getD i 0 + deg ts k i := by
  unfold step deg
  cases h : ts[k]? with
  | none => simp
  | some t =>
    obtain ⟨a0, a1, b0, b1⟩ := W.ends t (List.mem_of_getElem? h)
    dsimp only
    rw [bump_get _ _ _ b0 (by rw [bump_len, he]; exact b1), bump_get _ _ _ a0 (by rw [he]; exact a1)]
    (first | lia | omega)
def sumDeg (ts : List Tie) (ks : List Nat) (i : Nat) : Int := (ks.map fun k => deg ts k i).sum
theorem fold_get {p : Nat} {ts : List Tie} (W : InWeb p ts) (i : Nat) : ∀ (ks : List Nat) (e : List Int), e.length = p → (ks.foldl (step ts) e).getD i 0 = e.getD i 0 + sumDeg ts ks i
  | [], e, _ => by simp [sumDeg]
  | k :: r, e, he => by
    rw [List.foldl_cons, fold_get W i r _ (by rw [step_len, he]), step_get W e k i he]
    unfold sumDeg
    rw [List.map_cons, List.sum_cons]
    (first | lia | omega)
theorem ends_get {p : Nat} {ts : List Tie} (W : InWeb p ts) (S : Int) (i : Nat) : (endsOf p ts S).getD i 0 = sumDeg ts (tiesOf S) i := by
  unfold endsOf
  rw [fold_get W i _ _ (by simp)]
  have e : (List.replicate p (0 : Int)).getD i 0 = 0 := by
    rw [List.getD_eq_getElem?_getD, List.getElem?_replicate]
    split <;> rfl
  rw [e]
  (first | lia | omega)
theorem bit_nat (m k : Nat) : bit (m : Int) k = m.testBit k := by
  unfold bit
  rw [Nat.testBit_eq_decide_div_mod_eq]
  have e : ((m : Int) / 2 ^ k % 2 = 1) ↔ (m / 2 ^ k % 2 = 1) := by
    have h2 : ((2 : Int) ^ k) = ((2 ^ k : Nat) : Int) := by simp
    rw [h2, ← Int.natCast_ediv]
    (first | lia | omega)
  simp only [e]
theorem bits_nat (m : Nat) : Builtin.Int.intBits (m : Int) = if m = 0 then 0 else m.log2 + 1 := by
  unfold Builtin.Int.intBits
  by_cases h : m = 0
  · simp [h]
  · simp [h]
theorem bits_le {m n : Nat} (h : m < 2 ^ n) : Builtin.Int.intBits (m : Int) ≤ n := by
  rw [bits_nat]
  split
  · exact Nat.zero_le _
  · rename_i h0
    exact (Nat.log2_lt h0).mpr h
theorem bit_high {m k : Nat} (h : Builtin.Int.intBits (m : Int) ≤ k) : bit (m : Int) k = false := by
  rw [bit_nat]
  rw [bits_nat] at h
  by_cases h0 : m = 0
  · simp [h0]
  · rw [if_neg h0] at h
    exact Nat.testBit_lt_two_pow (Nat.lt_of_lt_of_le Nat.lt_log2_self (Nat.pow_le_pow_right (by decide) h))
theorem range_filter (f : Nat → Bool) (a : Nat) : ∀ d, (∀ k, a ≤ k → f k = false) → (List.range (a + d)).filter f = (List.range a).filter f
  | 0, _ => rfl
  | d + 1, h => by
    rw [← Nat.add_assoc, List.range_succ, List.filter_append, range_filter f a d h]
    have e : [a + d].filter f = [] := by rw [List.filter_cons, if_neg (by rw [h _ (by (first | lia | omega))]; simp)]; rfl
    rw [e, List.append_nil]
theorem ties_nat {m n : Nat} (h : m < 2 ^ n) : tiesOf (m : Int) = (List.range n).filter fun k => m.testBit k := by
  unfold tiesOf
  have hb := bits_le h
  obtain ⟨d, hd⟩ := Nat.exists_eq_add_of_le hb
  have e : (fun k => m.testBit k) = bit (m : Int) := funext fun k => (bit_nat m k).symm
  rw [e]
  conv => rhs; rw [hd]
  exact (range_filter _ _ d fun k hk => bit_high hk).symm
theorem ties_lt {m n : Nat} (h : m < 2 ^ n) {k : Nat} (hk : k ∈ tiesOf (m : Int)) : k < n := by
  rw [ties_nat h] at hk
  exact List.mem_range.mp (List.mem_filter.mp hk).1
theorem sum_filter (ts : List Tie) (i : Nat) (f : Nat → Bool) : ∀ ks : List Nat, sumDeg ts (ks.filter f) i = (ks.map fun k => if f k = true then deg ts k i else 0).sum
  | [] => rfl
  | k :: r => by
    have ih := sum_filter ts i f r
    rw [List.map_cons, List.sum_cons, ← ih]
    cases h : f k with
    | true =>
      rw [List.filter_cons, if_pos h]
      unfold sumDeg
      rw [List.map_cons, List.sum_cons]
      simp
    | false =>
      rw [List.filter_cons, if_neg (by rw [h]; simp)]
      simp
theorem bits_sum {a b x y : Nat} (q : x / 2 + 2 * (y / 2) = a / 2 + b / 2) (h : x % 2 + 2 * (y % 2) = a % 2 + b % 2) : x + 2 * y = a + b := by (first | lia | omega)
theorem mod_one {u v : Nat} (hu : u = 0 ∨ u = 1) (hv : v = 0 ∨ v = 1) : (u ^^^ v) + 2 * (u &&& v) = u + v := by
  rcases hu with rfl | rfl <;> rcases hv with rfl | rfl <;> rfl
theorem xor_and : ∀ a b : Nat, (a ^^^ b) + 2 * (a &&& b) = a + b := by
  intro a
  induction a using Nat.strongRecOn with
  | ind a ih =>
    intro b
    by_cases h : a = 0
    · subst h
      simp
    · have q := ih (a / 2) (by (first | lia | omega)) (b / 2)
      rw [← Nat.xor_div_two, ← Nat.and_div_two] at q
      refine bits_sum q ?_
      have e1 : (a ^^^ b) % 2 = a % 2 ^^^ b % 2 := Nat.xor_mod_two_pow (n := 1)
      have e2 : (a &&& b) % 2 = a % 2 &&& b % 2 := Nat.and_mod_two_pow (n := 1)
      rw [e1, e2]
      exact mod_one (Nat.mod_two_eq_zero_or_one a) (Nat.mod_two_eq_zero_or_one b)
theorem xor_int (a b : Nat) : Builtin.bitXor (a : Int) (b : Int) = ((a ^^^ b : Nat) : Int) := by
  have h : (a : Int) + b - 2 * ((a &&& b : Nat) : Int) = ((a ^^^ b : Nat) : Int) := by
    have q := xor_and a b
    (first | lia | omega)
  have e := PyProof.Rows.bitXor_and (a : Int) (b : Int)
  rw [e, PyProof.Rows.bitAnd_pp (by (first | lia | omega)) (by (first | lia | omega))]
  simpa using h
end Ring

namespace Ring
open PySem L2
def tieV (t : Tie) : List V := [.int t.1, .int t.2.1, .int t.2.2]
def TupAt (H : Hp) (x : V) (t : Tie) : Prop := ∃ b, x = .ref b ∧ H b = some (.tup (tieV t))
structure WebAt (H : Hp) (w : Addr) (p : Nat) (ts : List Tie) : Prop where
  ex : ∃ b xs, H w = some (.tup [.int (p : Int), .ref b]) ∧ H b = some (.tup xs) ∧ Paired (TupAt H) xs ts
structure Web (p : Nat) (ts : List Tie) : Prop where
  inw : InWeb p ts
  len : ts.length ≤ 24
  pts : p ≤ 10
theorem TupAt.tups {H H' : Hp} (s : Tups H H') {x : V} {t : Tie} (h : TupAt H x t) : TupAt H' x t := by
  obtain ⟨b, e, h⟩ := h
  exact ⟨b, e, s _ _ h⟩
theorem WebAt.tups {H H' : Hp} {w : Addr} {p : Nat} {ts : List Tie} (s : Tups H H') (h : WebAt H w p ts) : WebAt H' w p ts := by
  obtain ⟨b, xs, h1, h2, h3⟩ := h.ex
  exact ⟨b, xs, s _ _ h1, s _ _ h2, Paired.imp' (fun _ _ z => z.tups s) h3⟩
theorem WebAt.same {H H' : Hp} {w : Addr} {p : Nat} {ts : List Tie} (s : Same H H') (h : WebAt H w p ts) : WebAt H' w p ts := h.tups s.tups
def natsV (l : List Nat) : List V := l.map fun k => V.int ((k : Nat) : Int)
theorem natsV_snoc (l : List Nat) (k : Nat) : natsV (l ++ [k]) = natsV l ++ [.int (k : Int)] := by unfold natsV; rw [List.map_append]; rfl
theorem natsV_len (l : List Nat) : (natsV l).length = l.length := by unfold natsV; rw [List.length_map]
theorem natsV_get {l : List Nat} {i : Nat} {x : V} (h : (natsV l)[i]? = some x) : ∃ k, l[i]? = some k ∧ x = .int (k : Int) := by
  unfold natsV at h
  rw [List.getElem?_map] at h
  obtain ⟨k, e, q⟩ := Option.map_eq_some_iff.mp h
  exact ⟨k, e, q.symm⟩
theorem filter_range_succ (f : Nat → Bool) (i : Nat) : (List.range (i + 1)).filter f = (List.range i).filter f ++ (if f i = true then [i] else []) := by
  rw [List.range_succ, List.filter_append]
  congr 1
  cases h : f i with
  | true => rw [List.filter_cons, if_pos h, if_pos rfl]; rfl
  | false => rw [List.filter_cons, if_neg (by rw [h]; simp), if_neg (by simp)]; rfl
def Pick (f : Nat → Bool) (H : Hp) (D : Addr) (i : Nat) (acc : List V) (H2 : Hp) : Prop := Same H H2 ∧ H2 D = some (.lst acc) ∧ acc = natsV ((List.range i).filter f)
section
variable {f : Nat → Bool} {H H2 H3 : Hp} {D : Addr} {i : Nat} {acc : List V}
theorem Pick.start (hD : H D = none) : Pick f H D 0 [] (upd H D (.lst [])) := ⟨Same.new hD, upd_same, rfl⟩
theorem Pick.len (p : Pick f H D i acc H2) : H2 D = some (.lst acc) ∧ acc.length ≤ i := by
  refine ⟨p.2.1, ?_⟩
  rw [p.2.2, natsV_len]
  exact Nat.le_trans (List.length_filter_le _ _) (by rw [List.length_range]; exact Nat.le_refl _)
theorem Pick.yes (p : Pick f H D i acc H2) (hD : H D = none) (s : Same H2 H3) (hf : f i = true) : H3 D = some (.lst acc) ∧ Pick f H D (i + 1) (acc ++ [.int (i : Int)]) (upd H3 D (.lst (acc ++ [.int (i : Int)]))) := by
  refine ⟨s _ _ p.2.1, (p.1.trans s).put hD, upd_same, ?_⟩
  rw [filter_range_succ, if_pos hf, natsV_snoc, ← p.2.2]
theorem Pick.no (p : Pick f H D i acc H2) (s : Same H2 H3) (hf : f i = false) : Pick f H D (i + 1) acc H3 := by
  refine ⟨p.1.trans s, s _ _ p.2.1, ?_⟩
  rw [filter_range_succ, if_neg (by rw [hf]; simp), List.append_nil]
  exact p.2.2
end
def tieAt (ts : List Tie) (k : Nat) : Tie := ts.getD k (0, 0, 0)
def stepT (e : List Int) (t : Tie) : List Int := bump (bump e t.1) t.2.1
theorem fold_ties {ts : List Tie} : ∀ (ks : List Nat) (e : List Int), (∀ k ∈ ks, k < ts.length) → (ks.map (tieAt ts)).foldl stepT e = ks.foldl (step ts) e
  | [], _, _ => rfl
  | k :: r, e, h => by
    rw [List.map_cons, List.foldl_cons, List.foldl_cons, fold_ties r _ fun j hj => h j (List.mem_cons_of_mem _ hj)]
    have hk := h k List.mem_cons_self
    have e1 : ts[k]? = some (tieAt ts k) := by
      unfold tieAt
      rw [List.getD_eq_getElem?_getD]
      simp [hk]
    have e2 : step ts e k = stepT e (tieAt ts k) := by
      unfold step stepT
      rw [e1]
    rw [e2]
theorem ends_ties {p : Nat} {ts : List Tie} {m : Nat} (h : m < 2 ^ ts.length) : endsOf p ts (m : Int) = ((tiesOf (m : Int)).map (tieAt ts)).foldl stepT (List.replicate p 0) := by
  unfold endsOf
  rw [fold_ties _ _ fun k hk => ties_lt h hk]
theorem stepT_len (e : List Int) (t : Tie) : (stepT e t).length = e.length := by unfold stepT; rw [bump_len, bump_len]
theorem foldT_len : ∀ (l : List Tie) (e : List Int), (l.foldl stepT e).length = e.length
  | [], _ => rfl
  | t :: r, e => by rw [List.foldl_cons, foldT_len r, stepT_len]
def intsV (l : List Int) : List V := l.map V.int
theorem intsV_get {l : List Int} {i : Nat} (h : i < l.length) : (intsV l)[i]? = some (.int (l.getD i 0)) := by
  unfold intsV
  rw [List.getElem?_map, List.getD_eq_getElem?_getD]
  simp [h]
theorem intsV_bump (l : List Int) (i : Nat) : (intsV l).set i (.int (l.getD i 0 + 1)) = intsV (bump l (i : Int)) := by
  unfold intsV bump
  rw [Int.toNat_natCast, List.map_set]
theorem rep_zero (p : Nat) : (List.replicate p [V.int 0]).flatten = intsV (List.replicate p 0) := by
  induction p with
  | zero => rfl
  | succ p ih => rw [List.replicate_succ, List.flatten_cons, ih, List.replicate_succ]; rfl
theorem ixN_nat {n j : Nat} (h : j < n) : ixN n (j : Int) = some j := by
  unfold ixN
  rw [if_pos (by (first | lia | omega)), if_pos (by (first | lia | omega)), Int.toNat_natCast]
def natD (k : Nat) : PyData := .int (k : Int)
theorem nats_dat {K : PySem.W.Frag} {H : Hp} : ∀ l : List Nat, DatVs K H (natsV l) (l.map natD)
  | [] => .nil
  | _ :: r => .cons (.int _) (nats_dat r)
theorem lay_nats : ∀ l : List Nat, PyData.canLayAll0 (l.map natD) = true
  | [] => rfl
  | _ :: r => by
    have ih := lay_nats r
    simp only [List.map_cons, PyData.canLayAll0, ih, Bool.and_true]
    rfl
theorem deep_nats : ∀ l : List Nat, PyData.depthAll (l.map natD) = 0
  | [] => rfl
  | _ :: r => by
    have ih := deep_nats r
    show max (PyData.depth (PyData.int _)) (PyData.depthAll (r.map _)) = 0
    rw [ih]
    rfl
theorem shaped_nats (l : List Nat) : SeqAt.shaped (.list (l.map natD)) = true := by
  unfold SeqAt.shaped
  have e : (PyData.list (l.map natD)).canLay0 = PyData.canLayAll0 (l.map natD) := by simp [PyData.canLay0]
  rw [e, lay_nats, Bool.true_and]
  refine decide_eq_true ?_
  have e2 : PyData.depth (PyData.list (l.map natD)) = PyData.depthAll (l.map natD) + 1 := by simp [PyData.depth]
  rw [e2, deep_nats]
  decide
theorem eqv_nil (l : List Nat) : PyData.eqv (.list (l.map natD)) (.list []) = decide (l = []) := by
  cases l with
  | nil => rfl
  | cons a r => rfl
theorem has_eq (S : Int) (k : Nat) : decide (V.int (Builtin.bitAnd (S / 2 ^ k) 1) = V.int 1) = bit S k := by
  unfold bit
  rw [PyProof.Rows.bitAnd_m1]
  rw [Bool.eq_iff_iff]
  simp
theorem bit_eq (S : Int) (k : Nat) : decide (V.int (S / 2 ^ k % 2) = V.int 1) = bit S k := by
  unfold bit
  rw [Bool.eq_iff_iff]
  simp
theorem dec_one (x : Int) : decide (V.int x = V.int 1) = decide (x = 1) := by
  rw [Bool.eq_iff_iff]
  simp
end Ring

namespace Ring
open PySem L2
structure GoodTie (p : Int) (t : Tie) : Prop where
  a0 : 0 ≤ t.1
  a1 : t.1 < p
  b0 : 0 ≤ t.2.1
  b1 : t.2.1 < p
  ne : t.1 ≠ t.2.1
  l0 : 1 ≤ t.2.2
  l1 : t.2.2 ≤ 1000000000000000000000000000000
structure GoodWeb (p : Nat) (ts : List Tie) : Prop where
  p1 : 1 ≤ p
  p2 : p ≤ 10
  len : ts.length ≤ 24
  ties : ∀ t ∈ ts, GoodTie (p : Int) t
theorem GoodWeb.web {p : Nat} {ts : List Tie} (g : GoodWeb p ts) : Web p ts := ⟨⟨fun t ht => let z := g.ties t ht; ⟨z.a0, z.a1, z.b0, z.b1⟩⟩, g.len, g.p2⟩
def Ties (p : Int) (H : Hp) (D : Addr) (n : Nat) (H2 : Hp) : Prop := Same H H2 ∧ ∃ acc ts, H2 D = some (.lst acc) ∧ Paired (TupAt H2) acc ts ∧ acc.length = n ∧ ∀ t ∈ ts, GoodTie p t
section
variable {p : Int} {H H2 H3 : Hp} {D b : Addr} {n : Nat} {t : Tie}
theorem Ties.start (hD : H D = none) : Ties p H D 0 (upd H D (.lst [])) := ⟨Same.new hD, [], [], upd_same, .nil, rfl, fun t ht => nomatch ht⟩
theorem Ties.push (h : Ties p H D n H2) (hD : H D = none) (s : Same H2 H3) (g : GoodTie p t) (hb : H3 b = some (.tup (tieV t))) :
    ∃ acc, H3 D = some (.lst acc) ∧ acc.length = n ∧ Ties p H D (n + 1) (upd H3 D (.lst (acc ++ [.ref b]))) := by
  obtain ⟨s2, acc, ts, hd, pr, hn, gt⟩ := h
  have hd3 : H3 D = some (.lst acc) := s _ _ hd
  refine ⟨acc, hd3, hn, (s2.trans s).put hD, acc ++ [.ref b], ts ++ [t], upd_same, ?_, by rw [List.length_append, List.length_singleton, hn], fun u hu => ?_⟩
  · exact Paired.snoc (Paired.imp' (fun _ _ z => z.tups (s.tups.trans (Tups.put hd3))) pr) ⟨b, rfl, Tups.put hd3 _ _ hb⟩
  · rcases List.mem_append.mp hu with hu | hu
    · exact gt u hu
    · cases List.mem_singleton.mp hu
      exact g
theorem Ties.fin {q : Nat} (h : Ties (q : Int) H D n H2) : ∃ acc ts, H2 D = some (.lst acc) ∧ ts.length = n ∧ (∀ t ∈ ts, GoodTie (q : Int) t) ∧ ∀ l, H2 l = none → ∀ w, upd H2 l (.tup acc) w = none →
    Same H (upd (upd H2 l (.tup acc)) w (.tup [.int (q : Int), .ref l])) ∧ WebAt (upd (upd H2 l (.tup acc)) w (.tup [.int (q : Int), .ref l])) w q ts := by
  obtain ⟨s2, acc, ts, hd, pr, hn, gt⟩ := h
  refine ⟨acc, ts, hd, by rw [← pr.length, hn], gt, fun l hl w hw => ?_⟩
  have n1 : Same H2 (upd H2 l (.tup acc)) := Same.new hl
  have n2 := n1.trans (Same.new (o := .tup [.int (q : Int), .ref l]) hw)
  refine ⟨s2.trans n2, l, acc, upd_same, ?_, Paired.imp' (fun _ _ z => z.tups n2.tups) pr⟩
  rw [upd_ne (ne_of_none upd_same hw), upd_same]
end
theorem other_ne {p o r : Int} (h : 0 ≤ o) (h1 : o < p) (r0 : 0 ≤ r) (r1 : r < p - 1) : 0 ≤ (o + 1 + r) % p ∧ (o + 1 + r) % p < p ∧ o ≠ (o + 1 + r) % p := by
  have hp : 0 < p := by (first | lia | omega)
  refine ⟨Int.emod_nonneg _ (by (first | lia | omega)), Int.emod_lt_of_pos _ hp, ?_⟩
  by_cases hlt : o + 1 + r < p
  · rw [Int.emod_eq_of_lt (by (first | lia | omega)) hlt]
    (first | lia | omega)
  · have e : (o + 1 + r) % p = o + 1 + r - p := by
      rw [← Int.sub_emod_right, Int.emod_eq_of_lt (by (first | lia | omega)) (by (first | lia | omega))]
    rw [e]
    (first | lia | omega)
theorem small24 {n : Nat} (h : n ≤ 24) : n ≤ sizeLine := Nat.le_of_lt (small1000 (by (first | lia | omega)))
theorem smallL {n : Nat} (h : n ≤ 900) : n < sizeLine := small1000 (by (first | lia | omega))
theorem ints_at {ns : List Int} {k : Nat} (h : k < ns.length) : (ns.map V.int)[k]? = some (.int (ns.getD k 0)) := by
  rw [List.getElem?_map, List.getD_eq_getElem?_getD]
  simp [h]
theorem emod2 (x m : Int) (h : 0 < m) : 0 ≤ x % m ∧ x % m < m := ⟨Int.emod_nonneg _ (by (first | lia | omega)), Int.emod_lt_of_pos _ h⟩
end Ring

namespace RM
def xsum (f : Nat → Bool) : Nat → Bool
  | 0 => false
  | n + 1 => xsum f n ^^ f n
theorem xsum_congr {f g : Nat → Bool} : ∀ {n : Nat}, (∀ k, k < n → f k = g k) → xsum f n = xsum g n
  | 0, _ => rfl
  | n + 1, h => by
    unfold xsum
    rw [xsum_congr fun k hk => h k (by (first | lia | omega)), h n (by (first | lia | omega))]
theorem xsum_xor (f g : Nat → Bool) : ∀ n, xsum (fun k => f k ^^ g k) n = (xsum f n ^^ xsum g n)
  | 0 => rfl
  | n + 1 => by
    unfold xsum
    rw [xsum_xor f g n]
    cases xsum f n <;> cases xsum g n <;> cases f n <;> cases g n <;> rfl
theorem xsum_false : ∀ n, xsum (fun _ => false) n = false
  | 0 => rfl
  | n + 1 => by unfold xsum; rw [xsum_false n]; rfl
theorem xsum_and (c : Bool) (f : Nat → Bool) : ∀ n, xsum (fun k => c && f k) n = (c && xsum f n)
  | 0 => by cases c <;> rfl
  | n + 1 => by
    unfold xsum
    rw [xsum_and c f n]
    cases c <;> simp
theorem xsum_comm (f : Nat → Nat → Bool) (n : Nat) : ∀ m, xsum (fun x => xsum (fun k => f x k) n) m = xsum (fun k => xsum (fun x => f x k) m) n
  | 0 => by
    show false = _
    rw [← xsum_false n]
    rfl
  | m + 1 => by
    show (xsum (fun x => xsum (fun k => f x k) n) m ^^ xsum (fun k => f m k) n) = _
    rw [xsum_comm f n m, ← xsum_xor]
    rfl
theorem xsum_none {f : Nat → Bool} {n : Nat} (h : ∀ k, k < n → f k = false) : xsum f n = false := by
  rw [xsum_congr (g := fun _ => false) h, xsum_false]
theorem xsum_one {f : Nat → Bool} {a : Nat} : ∀ {n : Nat}, a < n → (∀ k, k < n → k ≠ a → f k = false) → xsum f n = f a
  | 0, h, _ => absurd h (Nat.not_lt_zero _)
  | n + 1, h, z => by
    unfold xsum
    by_cases e : a = n
    · subst e
      rw [xsum_none fun k hk => z k (by (first | lia | omega)) (by (first | lia | omega))]
      simp
    · rw [xsum_one (a := a) (by (first | lia | omega)) fun k hk hn => z k (by (first | lia | omega)) hn, z n (by (first | lia | omega)) (fun q => e q.symm)]
      simp
theorem xsum_point (C : Nat → Bool) {a m : Nat} (h : a < m) : xsum (fun x => C x && decide (a = x)) m = C a := by
  rw [xsum_one h fun k _ hk => by simp [Ne.symm hk]]
  simp
structure Net where
  p : Nat
  n : Nat
  a : Nat → Nat
  b : Nat → Nat
  al : ∀ k, k < n → a k < p
  bl : ∀ k, k < n → b k < p
  ne : ∀ k, k < n → a k ≠ b k
variable (N : Net)
def Net.inc (k x : Nat) : Bool := decide (N.a k = x) ^^ decide (N.b k = x)
def Net.bd (m x : Nat) : Bool := xsum (fun k => m.testBit k && N.inc k x) N.n
def Net.Even (m : Nat) : Prop := ∀ x, x < N.p → N.bd m x = false
variable {N}
theorem bd_xor (m q x : Nat) : N.bd (m ^^^ q) x = (N.bd m x ^^ N.bd q x) := by
  unfold Net.bd
  rw [← xsum_xor]
  refine xsum_congr fun k _ => ?_
  rw [Nat.testBit_xor]
  cases m.testBit k <;> cases q.testBit k <;> cases N.inc k x <;> rfl
theorem bd_zero (x : Nat) : N.bd 0 x = false := by
  unfold Net.bd
  exact xsum_none fun k _ => by simp
theorem bd_pow {k : Nat} (h : k < N.n) (x : Nat) : N.bd (2 ^ k) x = N.inc k x := by
  unfold Net.bd
  rw [xsum_one h fun j _ hj => by simp [Nat.testBit_two_pow, Ne.symm hj]]
  simp [Nat.testBit_two_pow]
theorem Even.xor {m q : Nat} (h : N.Even m) (h' : N.Even q) : N.Even (m ^^^ q) := fun x hx => by rw [bd_xor, h x hx, h' x hx]; rfl
theorem Even.zero : N.Even 0 := fun x _ => bd_zero x
theorem bd_class {m : Nat} (C : Nat → Bool) (h : ∀ k, k < N.n → m.testBit k = true → C (N.a k) = C (N.b k)) : xsum (fun x => C x && N.bd m x) N.p = false := by
  have e : xsum (fun x => C x && N.bd m x) N.p = xsum (fun x => xsum (fun k => C x && (m.testBit k && N.inc k x)) N.n) N.p :=
    xsum_congr fun x _ => (xsum_and (C x) _ N.n).symm
  rw [e, xsum_comm]
  refine xsum_none fun k hk => ?_
  have e2 : xsum (fun x => C x && (m.testBit k && N.inc k x)) N.p = (m.testBit k && (C (N.a k) ^^ C (N.b k))) := by
    rw [← xsum_point C (N.al k hk), ← xsum_point C (N.bl k hk), ← xsum_xor, ← xsum_and]
    refine xsum_congr fun x _ => ?_
    unfold Net.inc
    cases C x <;> cases m.testBit k <;> cases decide (N.a k = x) <;> cases decide (N.b k = x) <;> rfl
  rw [e2]
  cases hb : m.testBit k with
  | false => rfl
  | true => rw [h k hk hb]; simp
def join (L : Nat → Nat) (u v : Nat) : Nat → Nat := fun x => if L x = max (L u) (L v) then min (L u) (L v) else L x
theorem join_eq {L : Nat → Nat} {u v x y : Nat} (h : L x = L y) : join L u v x = join L u v y := by unfold join; rw [h]
theorem join_ends (L : Nat → Nat) (u v : Nat) : join L u v u = join L u v v := by
  unfold join
  split <;> split <;> (first | lia | omega)
theorem join_same {L : Nat → Nat} {u v : Nat} (h : L u = L v) : join L u v = L := by
  funext x
  unfold join
  rw [h]
  split <;> (first | lia | omega)
theorem join_apart {L : Nat → Nat} {u v x y : Nat} (h : join L u v x = join L u v y) : L x = L y ∨ (L x = L u ∧ L y = L v) ∨ (L x = L v ∧ L y = L u) := by
  unfold join at h
  have mm : (max (L u) (L v) = L u ∧ min (L u) (L v) = L v) ∨ (max (L u) (L v) = L v ∧ min (L u) (L v) = L u) := by
    rcases Nat.le_total (L u) (L v) with q | q
    · exact .inr ⟨Nat.max_eq_right q, Nat.min_eq_left q⟩
    · exact .inl ⟨Nat.max_eq_left q, Nat.min_eq_right q⟩
  rcases mm with ⟨e1, e2⟩ | ⟨e1, e2⟩
  · rw [e1, e2] at h
    split at h
    · rename_i hx
      split at h
      · rename_i hy
        exact .inl (hx.trans hy.symm)
      · exact .inr (.inl ⟨hx, h.symm⟩)
    · split at h
      · rename_i hy
        exact .inr (.inr ⟨h, hy⟩)
      · exact .inl h
  · rw [e1, e2] at h
    split at h
    · rename_i hx
      split at h
      · rename_i hy
        exact .inl (hx.trans hy.symm)
      · exact .inr (.inr ⟨hx, h.symm⟩)
    · split at h
      · rename_i hy
        exact .inr (.inl ⟨h, hy⟩)
      · exact .inl h
theorem join_le {L : Nat → Nat} {u v x : Nat} (h : L x ≤ x) : join L u v x ≤ x := by
  unfold join
  split <;> (first | lia | omega)
theorem join_root {L : Nat → Nat} {u v : Nat} (h : ∀ x, L (L x) = L x) (x : Nat) : join L u v (join L u v x) = join L u v x := by
  have hu := h u
  have hv := h v
  have hx := h x
  have hlo : L (min (L u) (L v)) = min (L u) (L v) := by
    rcases Nat.le_total (L u) (L v) with q | q
    · rw [Nat.min_eq_left q]; exact hu
    · rw [Nat.min_eq_right q]; exact hv
  unfold join
  split
  · rw [hlo]
    split <;> (first | lia | omega)
  · rw [hx]
    split <;> (first | lia | omega)
def Net.labs (N : Net) (S : Nat → Bool) : Nat → Nat → Nat
  | 0 => fun x => x
  | k + 1 => if S k = true then join (Net.labs N S k) (N.a k) (N.b k) else Net.labs N S k
variable {S : Nat → Bool}
theorem labs_le : ∀ (k x : Nat), N.labs S k x ≤ x
  | 0, _ => Nat.le_refl _
  | k + 1, x => by
    unfold Net.labs
    split
    · exact join_le (labs_le k x)
    · exact labs_le k x
theorem labs_root : ∀ (k x : Nat), N.labs S k (N.labs S k x) = N.labs S k x
  | 0, _ => rfl
  | k + 1, x => by
    by_cases hs : S k = true
    · have e : N.labs S (k + 1) = join (N.labs S k) (N.a k) (N.b k) := by
        conv => lhs; unfold Net.labs
        rw [if_pos hs]
      rw [e]
      exact join_root (labs_root k) x
    · have e : N.labs S (k + 1) = N.labs S k := by
        conv => lhs; unfold Net.labs
        rw [if_neg hs]
      rw [e]
      exact labs_root k x
theorem labs_mono {x y k : Nat} (h : N.labs S k x = N.labs S k y) : ∀ d, N.labs S (k + d) x = N.labs S (k + d) y
  | 0 => h
  | d + 1 => by
    have ih := labs_mono h d
    show N.labs S (k + d + 1) x = N.labs S (k + d + 1) y
    unfold Net.labs
    split
    · exact join_eq ih
    · exact ih
theorem labs_tie {j k : Nat} (h : j < k) (hs : S j = true) : N.labs S k (N.a j) = N.labs S k (N.b j) := by
  obtain ⟨d, rfl⟩ := Nat.exists_eq_add_of_le (Nat.succ_le_of_lt h)
  refine labs_mono ?_ d
  show N.labs S (j + 1) (N.a j) = N.labs S (j + 1) (N.b j)
  unfold Net.labs
  rw [if_pos hs]
  exact join_ends _ _ _
inductive Net.Conn (N : Net) (S : Nat → Bool) (k u : Nat) : Nat → Prop
  | refl : Net.Conn N S k u u
  | fwd {j : Nat} (h : Net.Conn N S k u (N.a j)) (hj : j < k) (hs : S j = true) : Net.Conn N S k u (N.b j)
  | bwd {j : Nat} (h : Net.Conn N S k u (N.b j)) (hj : j < k) (hs : S j = true) : Net.Conn N S k u (N.a j)
theorem Net.Conn.trans {k u v w : Nat} (h : N.Conn S k u v) (h' : N.Conn S k v w) : N.Conn S k u w := by
  induction h' with
  | refl => exact h
  | fwd _ hj hs ih => exact .fwd ih hj hs
  | bwd _ hj hs ih => exact .bwd ih hj hs
theorem Net.Conn.symm {k u v : Nat} (h : N.Conn S k u v) : N.Conn S k v u := by
  induction h with
  | refl => exact .refl
  | fwd _ hj hs ih => exact Net.Conn.trans (.bwd .refl hj hs) ih
  | bwd _ hj hs ih => exact Net.Conn.trans (.fwd .refl hj hs) ih
theorem Net.Conn.mono {k l u v : Nat} (h : N.Conn S k u v) (hkl : k ≤ l) : N.Conn S l u v := by
  induction h with
  | refl => exact .refl
  | fwd _ hj hs ih => exact .fwd ih (by (first | lia | omega)) hs
  | bwd _ hj hs ih => exact .bwd ih (by (first | lia | omega)) hs
theorem labs_conn : ∀ (k u v : Nat), N.labs S k u = N.labs S k v → N.Conn S k u v
  | 0, u, v, h => by
    have e : u = v := h
    subst e
    exact .refl
  | k + 1, u, v, h => by
    unfold Net.labs at h
    split at h
    · rename_i hs
      rcases join_apart h with q | ⟨q1, q2⟩ | ⟨q1, q2⟩
      · exact (labs_conn k u v q).mono (by (first | lia | omega))
      · have c1 := (labs_conn k u _ q1).mono (Nat.le_succ k)
        have c2 := (labs_conn k _ v q2.symm).mono (Nat.le_succ k)
        exact Net.Conn.trans (.fwd c1 (by (first | lia | omega)) hs) c2
      · have c1 := (labs_conn k u _ q1).mono (Nat.le_succ k)
        have c2 := (labs_conn k _ v q2.symm).mono (Nat.le_succ k)
        exact Net.Conn.trans (.bwd c1 (by (first | lia | omega)) hs) c2
    · exact (labs_conn k u v h).mono (by (first | lia | omega))
def Net.lab (N : Net) (k : Nat) : Nat → Nat := N.labs (fun _ => true) k
def Net.inF (N : Net) (k : Nat) : Bool := !decide (N.lab k (N.a k) = N.lab k (N.b k))
theorem lab_succ (k : Nat) : N.lab (k + 1) = if N.inF k = true then join (N.lab k) (N.a k) (N.b k) else N.lab k := by
  show N.labs (fun _ => true) (k + 1) = _
  unfold Net.labs
  rw [if_pos rfl]
  unfold Net.inF
  by_cases h : N.lab k (N.a k) = N.lab k (N.b k)
  · rw [if_neg (by simp [h])]
    exact join_same h
  · rw [if_pos (by simp [h])]
    rfl
theorem forest_empty {m : Nat} (hf : ∀ k, m.testBit k = true → k < N.n ∧ N.inF k = true) (he : N.Even m) : m = 0 := by
  by_cases h0 : m = 0
  · exact h0
  exfalso
  have hK : m.testBit m.log2 = true := Nat.testBit_log2 h0
  obtain ⟨hKn, hKf⟩ := hf _ hK
  generalize hKe : m.log2 = K at hK hKn hKf
  have hlt : m < 2 ^ (K + 1) := by rw [← hKe]; exact Nat.lt_log2_self
  have hcl := bd_class (N := N) (m := m ^^^ 2 ^ K) (fun x => decide (N.lab K x = N.lab K (N.a K))) fun k hk hb => by
    have hkK : k < K := by
      rw [Nat.testBit_xor, Nat.testBit_two_pow] at hb
      by_cases e : K = k
      · subst e
        simp [hK] at hb
      · have hb' : m.testBit k = true := by simpa [e] using hb
        have : k < K + 1 := by
          by_cases q : k < K + 1
          · exact q
          · have z := Nat.testBit_lt_two_pow (Nat.lt_of_lt_of_le hlt (Nat.pow_le_pow_right (by decide) (show K + 1 ≤ k by (first | lia | omega))))
            rw [hb'] at z
            cases z
        (first | lia | omega)
    have e : N.lab K (N.a k) = N.lab K (N.b k) := labs_tie (S := fun _ => true) hkK rfl
    show decide (N.lab K (N.a k) = _) = decide (N.lab K (N.b k) = _)
    rw [e]
  have e : xsum (fun x => decide (N.lab K x = N.lab K (N.a K)) && N.bd (m ^^^ 2 ^ K) x) N.p = xsum (fun x => decide (N.lab K x = N.lab K (N.a K)) && N.inc K x) N.p :=
    xsum_congr fun x hx => by rw [bd_xor, he x hx, bd_pow hKn]; simp
  rw [e] at hcl
  have e2 : xsum (fun x => decide (N.lab K x = N.lab K (N.a K)) && N.inc K x) N.p = (decide (N.lab K (N.a K) = N.lab K (N.a K)) ^^ decide (N.lab K (N.b K) = N.lab K (N.a K))) := by
    rw [← xsum_point (fun x => decide (N.lab K x = N.lab K (N.a K))) (N.al K hKn), ← xsum_point (fun x => decide (N.lab K x = N.lab K (N.a K))) (N.bl K hKn), ← xsum_xor]
    refine xsum_congr fun x _ => ?_
    unfold Net.inc
    cases decide (N.lab K x = N.lab K (N.a K)) <;> cases decide (N.a K = x) <;> cases decide (N.b K = x) <;> rfl
  rw [e2] at hcl
  unfold Net.inF at hKf
  have hne : ¬ N.lab K (N.b K) = N.lab K (N.a K) := fun q => by rw [q] at hKf; simp at hKf
  simp [hne] at hcl
def Net.trail (N : Net) : Nat → Nat → Nat
  | 0 => fun _ => 0
  | k + 1 => if N.inF k = true then fun v => if N.lab k v = max (N.lab k (N.a k)) (N.lab k (N.b k)) then Net.trail N k v ^^^ (Net.trail N k (N.a k) ^^^ Net.trail N k (N.b k) ^^^ 2 ^ k) else Net.trail N k v
    else Net.trail N k
theorem trail_in : ∀ (k v j : Nat), (N.trail k v).testBit j = true → j < k ∧ N.inF j = true
  | 0, v, j, h => by simp [Net.trail] at h
  | k + 1, v, j, h => by
    have ih := trail_in k
    unfold Net.trail at h
    split at h
    · rename_i hf
      dsimp only at h
      split at h
      · rw [Nat.testBit_xor, Nat.testBit_xor, Nat.testBit_xor, Nat.testBit_two_pow] at h
        by_cases e : k = j
        · subst e
          exact ⟨by (first | lia | omega), hf⟩
        · have z : ¬ ((N.trail k v).testBit j = false ∧ (N.trail k (N.a k)).testBit j = false ∧ (N.trail k (N.b k)).testBit j = false) := by
            rintro ⟨z1, z2, z3⟩
            simp [z1, z2, z3, e] at h
          cases h1 : (N.trail k v).testBit j with
          | true => obtain ⟨q, r⟩ := ih v j h1; exact ⟨by (first | lia | omega), r⟩
          | false => cases h2 : (N.trail k (N.a k)).testBit j with
            | true => obtain ⟨q, r⟩ := ih _ j h2; exact ⟨by (first | lia | omega), r⟩
            | false => cases h3 : (N.trail k (N.b k)).testBit j with
              | true => obtain ⟨q, r⟩ := ih _ j h3; exact ⟨by (first | lia | omega), r⟩
              | false => exact absurd ⟨h1, h2, h3⟩ z
      · obtain ⟨q, r⟩ := ih v j h; exact ⟨by (first | lia | omega), r⟩
    · obtain ⟨q, r⟩ := ih v j h; exact ⟨by (first | lia | omega), r⟩
theorem bool_six (a b c d e f g h : Bool) (hlh : (d ^^ f) = (g ^^ h)) : ((a ^^ g) ^^ (((c ^^ d) ^^ (e ^^ f)) ^^ (c ^^ e))) = (a ^^ h) := by
  have e1 : (((c ^^ d) ^^ (e ^^ f)) ^^ (c ^^ e)) = (d ^^ f) := by cases c <;> cases d <;> cases e <;> cases f <;> rfl
  rw [e1, hlh]
  cases a <;> cases g <;> cases h <;> rfl
theorem trail_bd : ∀ (k : Nat), k ≤ N.n → ∀ v x, N.bd (N.trail k v) x = (decide (v = x) ^^ decide (N.lab k v = x))
  | 0, _, v, x => by
    show N.bd 0 x = (decide (v = x) ^^ decide (v = x))
    rw [bd_zero]
    simp
  | k + 1, hk, v, x => by
    have ih := trail_bd k (by (first | lia | omega))
    rw [lab_succ]
    unfold Net.trail
    by_cases hf : N.inF k = true
    · rw [if_pos hf, if_pos hf]
      by_cases hm : N.lab k v = max (N.lab k (N.a k)) (N.lab k (N.b k))
      · have e : join (N.lab k) (N.a k) (N.b k) v = min (N.lab k (N.a k)) (N.lab k (N.b k)) := by unfold join; rw [if_pos hm]
        show N.bd (if N.lab k v = _ then _ else _) x = _
        rw [if_pos hm, e, bd_xor, bd_xor, bd_xor, bd_pow (by (first | lia | omega)), ih, ih, ih]
        unfold Net.inc
        refine bool_six _ false _ _ _ _ _ _ ?_
        rw [hm]
        rcases Nat.le_total (N.lab k (N.a k)) (N.lab k (N.b k)) with q | q
        · rw [Nat.max_eq_right q, Nat.min_eq_left q, Bool.xor_comm]
        · rw [Nat.max_eq_left q, Nat.min_eq_right q]
      · have e : join (N.lab k) (N.a k) (N.b k) v = N.lab k v := by unfold join; rw [if_neg hm]
        show N.bd (if N.lab k v = _ then _ else _) x = _
        rw [if_neg hm, e, ih]
    · rw [if_neg hf, if_neg hf]
      exact ih v x
def Net.ring (N : Net) (c : Nat) : Nat := N.trail N.n (N.a c) ^^^ N.trail N.n (N.b c) ^^^ 2 ^ c
theorem lab_ends {c : Nat} (h : c < N.n) : N.lab N.n (N.a c) = N.lab N.n (N.b c) := labs_tie (S := fun _ => true) h rfl
theorem ring_even {c : Nat} (h : c < N.n) : N.Even (N.ring c) := fun x _ => by
  unfold Net.ring
  rw [bd_xor, bd_xor, bd_pow h, trail_bd _ (Nat.le_refl _), trail_bd _ (Nat.le_refl _), lab_ends h]
  unfold Net.inc
  cases decide (N.a c = x) <;> cases decide (N.b c = x) <;> cases decide (N.lab N.n (N.b c) = x) <;> rfl
theorem ring_bit {c j : Nat} (h : (N.ring c).testBit j = true) : j = c ∨ (j < N.n ∧ N.inF j = true) := by
  unfold Net.ring at h
  rw [Nat.testBit_xor, Nat.testBit_xor, Nat.testBit_two_pow] at h
  by_cases e : c = j
  · exact .inl e.symm
  · right
    cases h1 : (N.trail N.n (N.a c)).testBit j with
    | true => exact trail_in _ _ _ h1
    | false => cases h2 : (N.trail N.n (N.b c)).testBit j with
      | true => exact trail_in _ _ _ h2
      | false => simp [h1, h2, e] at h
theorem ring_own {c : Nat} (hf : N.inF c = false) : (N.ring c).testBit c = true := by
  unfold Net.ring
  rw [Nat.testBit_xor, Nat.testBit_xor, Nat.testBit_two_pow]
  cases h1 : (N.trail N.n (N.a c)).testBit c with
  | true => obtain ⟨_, q⟩ := trail_in _ _ _ h1; rw [hf] at q; cases q
  | false => cases h2 : (N.trail N.n (N.b c)).testBit c with
    | true => obtain ⟨_, q⟩ := trail_in _ _ _ h2; rw [hf] at q; cases q
    | false => simp
end RM

namespace RM
def cnt (f : Nat → Bool) : Nat → Nat
  | 0 => 0
  | n + 1 => cnt f n + (if f n = true then 1 else 0)
theorem cnt_congr {f g : Nat → Bool} : ∀ {n : Nat}, (∀ k, k < n → f k = g k) → cnt f n = cnt g n
  | 0, _ => rfl
  | n + 1, h => by
    unfold cnt
    rw [cnt_congr fun k hk => h k (by (first | lia | omega)), h n (by (first | lia | omega))]
theorem cnt_drop {f g : Nat → Bool} {h : Nat} (hg : g h = true) : ∀ {p : Nat}, h < p → (∀ x, x < p → f x = (g x && !decide (x = h))) → cnt g p = cnt f p + 1
  | 0, hh, _ => absurd hh (Nat.not_lt_zero _)
  | p + 1, hh, e => by
    unfold cnt
    by_cases q : h = p
    · subst q
      have z : cnt g h = cnt f h := cnt_congr fun k hk => by rw [e k (by (first | lia | omega))]; simp [show k ≠ h by (first | lia | omega)]
      rw [z, if_pos hg, e h (by (first | lia | omega))]
      simp
    · rw [cnt_drop hg (by (first | lia | omega)) fun x hx => e x (by (first | lia | omega)), e p (by (first | lia | omega))]
      simp [Ne.symm q]
      (first | lia | omega)
theorem cnt_range (f : Nat → Bool) : ∀ n, ((List.range n).filter f).length = cnt f n
  | 0 => rfl
  | n + 1 => by
    rw [List.range_succ, List.filter_append, List.length_append, cnt_range f n]
    show _ = cnt f n + (if f n = true then 1 else 0)
    cases h : f n with
    | true => rw [List.filter_cons, if_pos h]; rfl
    | false => rw [List.filter_cons, if_neg (by rw [h]; simp)]; rfl
theorem cnt_not (f : Nat → Bool) : ∀ n, cnt f n + cnt (fun k => !f k) n = n
  | 0 => rfl
  | n + 1 => by
    have ih := cnt_not f n
    unfold cnt
    cases h : f n <;> simp <;> (first | lia | omega)
theorem cnt_all {f : Nat → Bool} : ∀ {n : Nat}, (∀ k, k < n → f k = true) → cnt f n = n
  | 0, _ => rfl
  | n + 1, h => by
    unfold cnt
    rw [cnt_all fun k hk => h k (by (first | lia | omega)), if_pos (h n (by (first | lia | omega)))]
variable {N : Net} {S : Nat → Bool}
def Net.root (N : Net) (S : Nat → Bool) (k x : Nat) : Bool := decide (N.labs S k x = x)
theorem labs_succ (k : Nat) : N.labs S (k + 1) = if S k = true then join (N.labs S k) (N.a k) (N.b k) else N.labs S k := by
  conv => lhs; unfold Net.labs
theorem labs_lt {k x : Nat} (h : x < N.p) : N.labs S k x < N.p := Nat.lt_of_le_of_lt (labs_le k x) h
theorem root_join {L : Nat → Nat} {u v : Nat} (hr : ∀ x, L (L x) = L x) (hne : L u ≠ L v) (x : Nat) : decide (join L u v x = x) = (decide (L x = x) && !decide (x = max (L u) (L v))) := by
  have hhi : L (max (L u) (L v)) = max (L u) (L v) := by
    rcases Nat.le_total (L u) (L v) with q | q
    · rw [Nat.max_eq_right q]; exact hr v
    · rw [Nat.max_eq_left q]; exact hr u
  have hlo : L (min (L u) (L v)) = min (L u) (L v) := by
    rcases Nat.le_total (L u) (L v) with q | q
    · rw [Nat.min_eq_left q]; exact hr u
    · rw [Nat.min_eq_right q]; exact hr v
  unfold join
  by_cases h : L x = max (L u) (L v)
  · rw [if_pos h]
    have h1 : ¬ min (L u) (L v) = x := fun z => by
      rw [← z, hlo] at h
      (first | lia | omega)
    by_cases h2 : x = max (L u) (L v)
    · simp [h1, h2]
      (first | lia | omega)
    · have h3 : ¬ L x = x := fun z => h2 (z.symm.trans h)
      simp [h1, h3]
  · rw [if_neg h]
    have h2 : ¬ x = max (L u) (L v) := fun z => h (by rw [z]; exact hhi)
    simp [h2]
theorem roots_step {k : Nat} (hk : k < N.n) : cnt (N.root S k) N.p = cnt (N.root S (k + 1)) N.p + (if (S k && !decide (N.labs S k (N.a k) = N.labs S k (N.b k))) = true then 1 else 0) := by
  cases hs : S k with
  | false =>
    have e : N.root S (k + 1) = N.root S k := by unfold Net.root; rw [labs_succ, if_neg (by rw [hs]; simp)]
    rw [e]; simp
  | true =>
    by_cases h : N.labs S k (N.a k) = N.labs S k (N.b k)
    · have e : N.root S (k + 1) = N.root S k := by unfold Net.root; rw [labs_succ, if_pos hs, join_same h]
      rw [e]; simp [h]
    · have hhi : N.labs S k (max (N.labs S k (N.a k)) (N.labs S k (N.b k))) = max (N.labs S k (N.a k)) (N.labs S k (N.b k)) := by
        rcases Nat.le_total (N.labs S k (N.a k)) (N.labs S k (N.b k)) with q | q
        · rw [Nat.max_eq_right q]; exact labs_root _ _
        · rw [Nat.max_eq_left q]; exact labs_root _ _
      have h1 := labs_lt (S := S) (k := k) (N.al k hk)
      have h2 := labs_lt (S := S) (k := k) (N.bl k hk)
      rw [cnt_drop (f := N.root S (k + 1)) (g := N.root S k) (h := max (N.labs S k (N.a k)) (N.labs S k (N.b k))) (decide_eq_true hhi) (by (first | lia | omega)) fun x _ => by
        unfold Net.root
        rw [labs_succ, if_pos hs]
        exact root_join (labs_root k) h x]
      simp [h]
theorem roots_forest : ∀ k, k ≤ N.n → cnt (N.root (fun _ => true) k) N.p + cnt N.inF k = N.p
  | 0, _ => by
    show cnt (N.root (fun _ => true) 0) N.p + 0 = N.p
    rw [cnt_all (f := N.root (fun _ => true) 0) fun x _ => decide_eq_true rfl]
    rfl
  | k + 1, hk => by
    have ih := roots_forest k (by (first | lia | omega))
    have st := roots_step (N := N) (S := fun _ => true) (k := k) (by (first | lia | omega))
    have e : ((fun _ => true : Nat → Bool) k && !decide (N.labs (fun _ => true) k (N.a k) = N.labs (fun _ => true) k (N.b k))) = N.inF k   := by rw [Bool.true_and]; rfl
    rw [e] at st
    show cnt (N.root (fun _ => true) (k + 1)) N.p + (cnt N.inF k + if N.inF k = true then 1 else 0) = N.p
    (first | lia | omega)
theorem rank_chords : (N.n : Int) - N.p + cnt (N.root (fun _ => true) N.n) N.p = (cnt (fun k => !N.inF k) N.n : Nat) := by
  have h := roots_forest (N := N) N.n (Nat.le_refl _)
  have h2 := cnt_not N.inF N.n
  (first | lia | omega)
def Net.chords (N : Net) : List Nat := (List.range N.n).filter fun k => !N.inF k
theorem chords_mem {c : Nat} : c ∈ N.chords ↔ c < N.n ∧ N.inF c = false := by
  unfold Net.chords
  rw [List.mem_filter, List.mem_range]
  simp
theorem chords_len : N.chords.length = cnt (fun k => !N.inF k) N.n := cnt_range _ _
theorem lt_of_bits {m n : Nat} (h : ∀ k, m.testBit k = true → k < n) : m < 2 ^ n := Nat.lt_pow_two_of_testBit m fun k hk => by
  cases q : m.testBit k with
  | false => rfl
  | true => exact absurd (h k q) (by (first | lia | omega))
theorem bits_lt {m n k : Nat} (h : m < 2 ^ n) (hb : m.testBit k = true) : k < n := by
  by_cases q : k < n
  · exact q
  · have z := Nat.testBit_lt_two_pow (Nat.lt_of_lt_of_le h (Nat.pow_le_pow_right (by decide) (show n ≤ k by (first | lia | omega))))
    rw [hb] at z
    cases z
theorem ring_lt {c : Nat} (h : c < N.n) : N.ring c < 2 ^ N.n := lt_of_bits fun k hk => by
  rcases ring_bit hk with rfl | ⟨q, _⟩
  · exact h
  · exact q
theorem ring_chord {c d : Nat} (hc : N.inF c = false) (hd : N.inF d = false) : (N.ring c).testBit d = decide (c = d) := by
  by_cases e : c = d
  · subst e; rw [ring_own hc]; simp
  · cases q : (N.ring c).testBit d with
    | false => simp [e]
    | true => rcases ring_bit q with rfl | ⟨_, r⟩
              · exact absurd rfl e
              · rw [hd] at r; cases r
def Net.sumR (N : Net) (number : Nat) : List Nat → Nat → Nat
  | [], _ => 0
  | c :: r, i => (if number.testBit i = true then N.ring c else 0) ^^^ Net.sumR N number r (i + 1)
theorem sumR_even {number : Nat} : ∀ {l : List Nat} {i : Nat}, (∀ c ∈ l, c < N.n) → N.Even (N.sumR number l i) ∧ N.sumR number l i < 2 ^ N.n
  | [], _, _ => ⟨Even.zero, Nat.two_pow_pos _⟩
  | c :: r, i, h => by
    obtain ⟨h1, h2⟩ := sumR_even (number := number) (l := r) (i := i + 1) fun d hd => h d (List.mem_cons_of_mem _ hd)
    have hc := h c List.mem_cons_self
    unfold Net.sumR
    split
    · exact ⟨Even.xor (ring_even hc) h1, Nat.xor_lt_two_pow (ring_lt hc) h2⟩
    · rw [Nat.zero_xor]; exact ⟨h1, h2⟩
theorem sumR_out {number d : Nat} (hd : N.inF d = false) : ∀ {l : List Nat} {i : Nat}, (∀ c ∈ l, N.inF c = false) → d ∉ l → (N.sumR number l i).testBit d = false
  | [], _, _, _ => by simp [Net.sumR]
  | c :: r, i, h, hn => by
    have ih := sumR_out (number := number) (d := d) hd (l := r) (i := i + 1) (fun e he => h e (List.mem_cons_of_mem _ he)) fun q => hn (List.mem_cons_of_mem _ q)
    unfold Net.sumR
    rw [Nat.testBit_xor, ih]
    split
    · rw [ring_chord (h c List.mem_cons_self) hd]
      have : c ≠ d := fun q => hn (by rw [q]; exact List.mem_cons_self)
      simp [this]
    · simp
theorem sumR_bit {number : Nat} : ∀ {l : List Nat} {i j : Nat} {d : Nat}, l.Nodup → (∀ c ∈ l, N.inF c = false) → l[j]? = some d → (N.sumR number l i).testBit d = number.testBit (i + j)
  | [], _, _, _, _, _, h => by simp at h
  | c :: r, i, 0, d, hn, hf, h => by
    have e : c = d := by simpa using h
    subst e
    have hc := hf c List.mem_cons_self
    unfold Net.sumR
    rw [Nat.testBit_xor, sumR_out hc (fun e he => hf e (List.mem_cons_of_mem _ he)) (List.nodup_cons.mp hn).1]
    cases q : number.testBit (i + 0) with
    | true => rw [if_pos (by simpa using q), ring_own hc]; rfl
    | false => rw [if_neg (by simpa using q)]; simp
  | c :: r, i, j + 1, d, hn, hf, h => by
    have h' : r[j]? = some d := by simpa using h
    have hd : d ∈ r := List.mem_of_getElem? h'
    have ih := sumR_bit (number := number) (l := r) (i := i + 1) (j := j) (d := d) (List.nodup_cons.mp hn).2 (fun e he => hf e (List.mem_cons_of_mem _ he)) h'
    unfold Net.sumR
    rw [Nat.testBit_xor, ih]
    have hne : c ≠ d := fun q => (List.nodup_cons.mp hn).1 (q ▸ hd)
    have z : (if number.testBit i = true then N.ring c else 0).testBit d = false := by
      split
      · rw [ring_chord (hf c List.mem_cons_self) (hf d (List.mem_cons_of_mem _ hd))]; simp [hne]
      · simp
    rw [z, show i + 1 + j = i + (j + 1) by (first | lia | omega)]
    simp
end RM

namespace Ring
open PySem L2
def maskOf (f : Nat → Bool) : Nat → Nat
  | 0 => 0
  | n + 1 => (if f n = true then 2 ^ n else 0) + maskOf f n
theorem mask_lt (f : Nat → Bool) : ∀ n, maskOf f n < 2 ^ n
  | 0 => by show 0 < 1; decide
  | n + 1 => by
    have ih := mask_lt f n
    have e : 2 ^ (n + 1) = 2 ^ n + 2 ^ n := by rw [Nat.pow_succ]; (first | lia | omega)
    unfold maskOf
    split <;> (first | lia | omega)
theorem mask_bit (f : Nat → Bool) (j : Nat) : ∀ n, (maskOf f n).testBit j = (decide (j < n) && f j)
  | 0 => by simp [maskOf]
  | n + 1 => by
    have ih := mask_bit f j n
    have hl := mask_lt f n
    unfold maskOf
    by_cases h : f n = true
    · rw [if_pos h]
      rcases Nat.lt_trichotomy j n with q | q | q
      · rw [Nat.testBit_two_pow_add_gt q, ih]
        simp [q, show j < n + 1 by (first | lia | omega)]
      · subst q
        rw [Nat.testBit_two_pow_add_eq, ih]
        simp [h]
      · have z : 2 ^ n + maskOf f n < 2 ^ j := Nat.lt_of_lt_of_le (show 2 ^ n + maskOf f n < 2 ^ (n + 1) by rw [Nat.pow_succ]; (first | lia | omega)) (Nat.pow_le_pow_right (by decide) q)
        rw [Nat.testBit_lt_two_pow z]
        simp [show ¬ j < n + 1 by (first | lia | omega)]
    · rw [if_neg h, Nat.zero_add, ih]
      by_cases q : j = n
      · subst q
        have h' : f j = false := by simpa using h
        simp [h']
      · by_cases r : j < n
        · simp [r, show j < n + 1 by (first | lia | omega)]
        · simp [r, show ¬ j < n + 1 by (first | lia | omega)]
theorem mask_all (n : Nat) : maskOf (fun _ => true) n = 2 ^ n - 1 := by
  induction n with
  | zero => rfl
  | succ n ih =>
    unfold maskOf
    rw [ih, if_pos rfl, Nat.pow_succ]
    have := Nat.two_pow_pos n
    (first | lia | omega)
theorem all_bit (n j : Nat) : (2 ^ n - 1).testBit j = decide (j < n) := by
  rw [← mask_all, mask_bit]
  simp
theorem or_sum {a b x y : Nat} (q : x / 2 + y / 2 = a / 2 + b / 2) (h : x % 2 + y % 2 = a % 2 + b % 2) : x + y = a + b := by (first | lia | omega)
theorem or_one {u v : Nat} (hu : u = 0 ∨ u = 1) (hv : v = 0 ∨ v = 1) : (u ||| v) + (u &&& v) = u + v := by
  rcases hu with rfl | rfl <;> rcases hv with rfl | rfl <;> rfl
theorem or_and : ∀ a b : Nat, (a ||| b) + (a &&& b) = a + b := by
  intro a
  induction a using Nat.strongRecOn with
  | ind a ih =>
    intro b
    by_cases h : a = 0
    · subst h
      simp
    · have q := ih (a / 2) (by (first | lia | omega)) (b / 2)
      rw [← Nat.or_div_two, ← Nat.and_div_two] at q
      refine or_sum q ?_
      have e1 : (a ||| b) % 2 = a % 2 ||| b % 2 := Nat.or_mod_two_pow (n := 1)
      have e2 : (a &&& b) % 2 = a % 2 &&& b % 2 := Nat.and_mod_two_pow (n := 1)
      rw [e1, e2]
      exact or_one (Nat.mod_two_eq_zero_or_one a) (Nat.mod_two_eq_zero_or_one b)
theorem or_int (a b : Nat) : Builtin.bitOr (a : Int) (b : Int) = ((a ||| b : Nat) : Int) := by
  have q := or_and a b
  rw [PyProof.Rows.bitOr_and, PyProof.Rows.bitAnd_pp (by (first | lia | omega)) (by (first | lia | omega))]
  have h : (a : Int) + b - ((a &&& b : Nat) : Int) = ((a ||| b : Nat) : Int) := by (first | lia | omega)
  simpa using h
theorem shl_int (k : Nat) : (1 : Int) * 2 ^ (k : Int).toNat = ((2 ^ k : Nat) : Int) := by
  rw [Int.toNat_natCast, Int.one_mul]
  simp
theorem tieAt_mem {ts : List Tie} {k : Nat} (h : k < ts.length) : tieAt ts k ∈ ts := by
  unfold tieAt
  rw [List.getD_eq_getElem?_getD]
  simp [h]
theorem tieAt_get {ts : List Tie} {k : Nat} (h : k < ts.length) : ts[k]? = some (tieAt ts k) := by
  unfold tieAt
  rw [List.getD_eq_getElem?_getD]
  simp [h]
def netOf (p : Nat) (ts : List Tie) (g : GoodWeb p ts) : RM.Net where
  p := p
  n := ts.length
  a := fun k => (tieAt ts k).1.toNat
  b := fun k => (tieAt ts k).2.1.toNat
  al := fun k hk => by
    have z := g.ties _ (tieAt_mem hk)
    have z0 := z.a0
    have z1 := z.a1
    (first | lia | omega)
  bl := fun k hk => by
    have z := g.ties _ (tieAt_mem hk)
    have z0 := z.b0
    have z1 := z.b1
    (first | lia | omega)
  ne := fun k hk e => by
    have z := g.ties _ (tieAt_mem hk)
    have z0 := z.a0
    have z1 := z.b0
    exact z.ne (by (first | lia | omega))
theorem net_a {p : Nat} {ts : List Tie} {g : GoodWeb p ts} {k : Nat} (h : k < ts.length) : (tieAt ts k).1 = (((netOf p ts g).a k : Nat) : Int) := by
  have z := (g.ties _ (tieAt_mem h)).a0
  show _ = (((tieAt ts k).1.toNat : Nat) : Int)
  (first | lia | omega)
theorem net_b {p : Nat} {ts : List Tie} {g : GoodWeb p ts} {k : Nat} (h : k < ts.length) : (tieAt ts k).2.1 = (((netOf p ts g).b k : Nat) : Int) := by
  have z := (g.ties _ (tieAt_mem h)).b0
  show _ = (((tieAt ts k).2.1.toNat : Nat) : Int)
  (first | lia | omega)
theorem deg_par {p : Nat} {ts : List Tie} {g : GoodWeb p ts} {k : Nat} (h : k < ts.length) (x : Nat) : deg ts k x % 2 = if (netOf p ts g).inc k x = true then 1 else 0 := by
  unfold deg RM.Net.inc
  rw [tieAt_get h]
  dsimp only
  rw [net_a (g := g) h, net_b (g := g) h]
  generalize (netOf p ts g).a k = u
  generalize (netOf p ts g).b k = v
  by_cases h1 : u = x
  · by_cases h2 : v = x
    · simp [h1, h2]
    · have h2' : ¬ ((v : Int) = (x : Int)) := by (first | lia | omega)
      simp [h1, h2, h2']
  · have h1' : ¬ ((u : Int) = (x : Int)) := by (first | lia | omega)
    by_cases h2 : v = x
    · simp [h1, h2, h1']
    · have h2' : ¬ ((v : Int) = (x : Int)) := by (first | lia | omega)
      simp [h1, h2, h1', h2']
theorem bd_par {p : Nat} {ts : List Tie} {g : GoodWeb p ts} (m x : Nat) : ∀ n, n ≤ ts.length → ((List.range n).map fun k => if m.testBit k = true then deg ts k x else 0).sum % 2 = if RM.xsum (fun k => m.testBit k && (netOf p ts g).inc k x) n = true then 1 else 0
  | 0, _ => rfl
  | n + 1, h => by
    have ih := bd_par (g := g) m x n (by (first | lia | omega))
    have hd := deg_par (g := g) (k := n) (by (first | lia | omega)) x
    rw [List.range_succ, List.map_append, List.sum_append]
    show (_ + ((if m.testBit n = true then deg ts n x else 0) + 0)) % 2 = if (RM.xsum _ n ^^ (m.testBit n && (netOf p ts g).inc n x)) = true then 1 else 0
    generalize ((List.range n).map fun k => if m.testBit k = true then deg ts k x else 0).sum = u at ih ⊢
    generalize RM.xsum (fun k => m.testBit k && (netOf p ts g).inc k x) n = v at ih ⊢
    generalize (netOf p ts g).inc n x = i at hd ⊢
    generalize deg ts n x = d at hd ⊢
    cases m.testBit n <;> cases v <;> cases i <;> simp at ih hd ⊢ <;> (first | lia | omega)
theorem odd_iff {p : Nat} {ts : List Tie} (g : GoodWeb p ts) {m : Nat} (hm : m < 2 ^ ts.length) {x : Nat} : decide ((endsOf p ts (m : Int)).getD x 0 % 2 = 1) = (netOf p ts g).bd m x := by
  rw [ends_get g.web.inw, ties_nat hm, sum_filter]
  have h := bd_par (g := g) m x ts.length (Nat.le_refl _)
  rw [h]
  show _ = RM.xsum _ ts.length
  generalize RM.xsum (fun k => m.testBit k && (netOf p ts g).inc k x) ts.length = v
  cases v <;> simp
theorem even_net {p : Nat} {ts : List Tie} (g : GoodWeb p ts) {m : Nat} (hm : m < 2 ^ ts.length) : oddOf p ts (m : Int) = [] ↔ (netOf p ts g).Even m := by
  unfold oddOf
  rw [List.filter_eq_nil_iff]
  constructor
  · intro h x hx
    have q := h x (List.mem_range.mpr hx)
    rw [odd_iff g hm] at q
    simpa using q
  · intro h x hx
    rw [odd_iff g hm, h x (List.mem_range.mp hx)]
    simp
def mapV (f : Nat → Nat) (n : Nat) : List V := (List.range n).map fun x => V.int ((f x : Nat) : Int)
theorem mapV_len (f : Nat → Nat) (n : Nat) : (mapV f n).length = n := by unfold mapV; rw [List.length_map, List.length_range]
theorem mapV_get {f : Nat → Nat} {n x : Nat} (h : x < n) : (mapV f n)[x]? = some (.int ((f x : Nat) : Int)) := by
  unfold mapV
  rw [List.getElem?_map, List.getElem?_range h]
  rfl
theorem mapV_of {f : Nat → Nat} {n x : Nat} {v : V} (h : (mapV f n)[x]? = some v) : x < n ∧ v = .int ((f x : Nat) : Int) := by
  have hx : x < n := by
    have := (List.getElem?_eq_some_iff.mp h).1
    rwa [mapV_len] at this
  rw [mapV_get hx] at h
  exact ⟨hx, (Option.some.inj h).symm⟩
theorem mapV_succ (f : Nat → Nat) (n : Nat) : mapV f (n + 1) = mapV f n ++ [.int ((f n : Nat) : Int)] := by
  unfold mapV
  rw [List.range_succ, List.map_append]
  rfl
theorem mapV_congr {f g : Nat → Nat} {n : Nat} (h : ∀ x, x < n → f x = g x) : mapV f n = mapV g n := by
  unfold mapV
  refine List.map_congr_left fun x hx => ?_
  rw [h x (List.mem_range.mp hx)]
theorem rep_mapV (p : Nat) : (List.replicate p [V.int 0]).flatten = mapV (fun _ => 0) p := by
  induction p with
  | zero => rfl
  | succ p ih =>
    rw [mapV_succ, ← ih, List.replicate_succ', List.flatten_append]
    rfl
def Mapd (f : Nat → Nat) (H : Hp) (D : Addr) (i : Nat) (acc : List V) (H2 : Hp) : Prop := Same H H2 ∧ H2 D = some (.lst acc) ∧ acc = mapV f i
section
variable {f : Nat → Nat} {H H2 H3 : Hp} {D : Addr} {i : Nat} {acc : List V} {v : V}
theorem Mapd.start (hD : H D = none) : Mapd f H D 0 [] (upd H D (.lst [])) := ⟨Same.new hD, upd_same, rfl⟩
theorem Mapd.len (p : Mapd f H D i acc H2) : H2 D = some (.lst acc) ∧ acc.length ≤ i := ⟨p.2.1, by rw [p.2.2, mapV_len]; exact Nat.le_refl _⟩
theorem Mapd.next (p : Mapd f H D i acc H2) (hD : H D = none) (s : Same H2 H3) (hv : v = .int ((f i : Nat) : Int)) : H3 D = some (.lst acc) ∧ Mapd f H D (i + 1) (acc ++ [v]) (upd H3 D (.lst (acc ++ [v]))) := by
  refine ⟨s _ _ p.2.1, (p.1.trans s).put hD, upd_same, ?_⟩
  rw [mapV_succ, ← p.2.2, hv]
end
theorem labs_fold {N : RM.Net} {m : Nat} : ∀ n, ((List.range n).filter fun k => m.testBit k).foldl (fun L k => RM.join L (N.a k) (N.b k)) (fun x => x) = N.labs (fun k => m.testBit k) n
  | 0 => rfl
  | n + 1 => by
    rw [filter_range_succ, List.foldl_append, labs_fold n, RM.labs_succ]
    split <;> rfl
end Ring

namespace RM
theorem labs_congr {N : Net} {S S' : Nat → Bool} : ∀ {n : Nat}, (∀ k, k < n → S k = S' k) → N.labs S n = N.labs S' n
  | 0, _ => rfl
  | n + 1, h => by rw [labs_succ, labs_succ, labs_congr fun k hk => h k (by (first | lia | omega)), h n (by (first | lia | omega))]
end RM
namespace Ring
open PySem L2
def pieceOf (L : Nat → Nat) (p s : Nat) : List Nat := (List.range p).filter fun x => decide (L x = s)
def rootsOf (L : Nat → Nat) (p : Nat) : List Nat := (List.range p).filter fun x => decide (L x = x)
def LstFr (D : Addr) (H0 H : Hp) (y : V) (l : List Nat) : Prop := ∃ b, y = .ref b ∧ b ≠ D ∧ H0 b = none ∧ H b = some (.lst (natsV l))
def Gath (L : Nat → Nat) (p : Nat) (H : Hp) (D : Addr) (i : Nat) (H2 : Hp) : Prop := Same H H2 ∧ ∃ ys, H2 D = some (.lst ys) ∧ Paired (LstFr D H H2) ys ((rootsOf L i).map (pieceOf L p)) ∧ ys.length ≤ i
section
variable {L : Nat → Nat} {p i : Nat} {H H2 H3 : Hp} {D b : Addr}
theorem Gath.start (hD : H D = none) : Gath L p H D 0 (upd H D (.lst [])) := ⟨Same.new hD, [], upd_same, .nil, Nat.le_refl _⟩
theorem roots_succ : rootsOf L (i + 1) = rootsOf L i ++ (if L i = i then [i] else []) := by
  unfold rootsOf
  rw [filter_range_succ]
  by_cases h : L i = i <;> simp [h]
theorem Gath.skip (h : Gath L p H D i H2) (hn : ¬ L i = i) : Gath L p H D (i + 1) H2 := by
  obtain ⟨s, ys, hd, pr, hl⟩ := h
  refine ⟨s, ys, hd, ?_, by (first | lia | omega)⟩
  rw [roots_succ, if_neg hn, List.append_nil]
  exact pr
theorem Gath.push (h : Gath L p H D i H2) (hD : H D = none) (hr : L i = i) (s : Same H2 H3) (hb : H2 b = none) (hb3 : H3 b = some (.lst (natsV (pieceOf L p i)))) :
    ∃ ys, H3 D = some (.lst ys) ∧ ys.length ≤ i ∧ Gath L p H D (i + 1) (upd H3 D (.lst (ys ++ [.ref b]))) := by
  obtain ⟨s2, ys, hd, pr, hl⟩ := h
  have hd3 := s _ _ hd
  have hbD : b ≠ D := fun e => by rw [e, hd] at hb; cases hb
  refine ⟨ys, hd3, hl, (s2.trans s).put hD, ys ++ [.ref b], upd_same, ?_, by rw [List.length_append, List.length_singleton]; (first | lia | omega)⟩
  rw [roots_succ, if_pos hr, List.map_append]
  refine Paired.snoc (Paired.imp' (fun _ _ ⟨e, he, hn, h0, q⟩ => ⟨e, he, hn, h0, by rw [upd_ne hn]; exact s _ _ q⟩) pr) ?_
  exact ⟨b, rfl, hbD, s2.free hb, by rw [upd_ne hbD]; exact hb3⟩
end
def foldJ (p : Nat) (ts : List Tie) (g : GoodWeb p ts) (ks : List Nat) : Nat → Nat := ks.foldl (fun L k => RM.join L ((netOf p ts g).a k) ((netOf p ts g).b k)) fun x => x
theorem foldJ_snoc {p : Nat} {ts : List Tie} {g : GoodWeb p ts} {ks : List Nat} {k : Nat} : foldJ p ts g (ks ++ [k]) = RM.join (foldJ p ts g ks) ((netOf p ts g).a k) ((netOf p ts g).b k) := by
  unfold foldJ
  rw [List.foldl_append]
  rfl
def labOf (p : Nat) (ts : List Tie) (g : GoodWeb p ts) (m : Nat) : Nat → Nat := (netOf p ts g).labs (fun k => m.testBit k) ts.length
theorem foldJ_ties {p : Nat} {ts : List Tie} {g : GoodWeb p ts} {m : Nat} (hm : m < 2 ^ ts.length) : foldJ p ts g (tiesOf (m : Int)) = labOf p ts g m := by
  unfold foldJ labOf
  rw [ties_nat hm]
  exact labs_fold _
theorem lab_all {p : Nat} {ts : List Tie} {g : GoodWeb p ts} : labOf p ts g (2 ^ ts.length - 1) = (netOf p ts g).lab ts.length := by
  unfold labOf RM.Net.lab
  exact RM.labs_congr fun k hk => by rw [all_bit]; simp [hk]
theorem rank_is {p : Nat} {ts : List Tie} {g : GoodWeb p ts} : (ts.length : Int) - (p : Int) + (rootsOf (labOf p ts g (2 ^ ts.length - 1)) p).length = ((netOf p ts g).chords.length : Int) := by
  have h := RM.rank_chords (N := netOf p ts g)
  rw [RM.chords_len]
  unfold rootsOf
  rw [RM.cnt_range, lab_all]
  exact h
theorem min_int (a b : Nat) : (if (b : Int) < (a : Int) then (b : Int) else (a : Int)) = ((min a b : Nat) : Int) := by
  split <;> (first | lia | omega)
theorem max_int (a b : Nat) : (if (b : Int) > (a : Int) then (b : Int) else (a : Int)) = ((max a b : Nat) : Int) := by
  split <;> (first | lia | omega)
theorem dec_nat (a b : Nat) : decide (V.int (a : Int) = V.int (b : Int)) = decide (a = b) := by
  rw [Bool.eq_iff_iff]
  simp
  (first | lia | omega)
end Ring

namespace RM
variable {N : Net} {S : Nat → Bool}
variable {pt r j : Nat} {l : List Nat}
theorem nodup_le {l : List Nat} : ∀ {p : Nat}, l.Nodup → (∀ x ∈ l, x < p) → l.length ≤ p := by
  intro p hn hl
  have hp : l.Perm ((List.range p).filter fun x => decide (x ∈ l)) := by
    refine (List.perm_ext_iff_of_nodup hn (List.Pairwise.filter _ List.nodup_range)).mpr fun a => ?_
    rw [List.mem_filter, List.mem_range]
    simp
    exact fun h => hl a h
  rw [hp.length_eq]
  have := List.length_filter_le (fun x => decide (x ∈ l)) (List.range p)
  rwa [List.length_range] at this
end RM
namespace Ring
open PySem L2
theorem natsV_ints (l : List Nat) : natsV l = (l.map fun x => ((x : Nat) : Int)).map V.int := by unfold natsV; rw [List.map_map]; rfl
theorem inV_nats (u : Nat) (l : List Nat) : inV (.int (u : Int)) (natsV l) = decide (u ∈ l) := by
  unfold inV natsV
  rw [List.any_map, Bool.eq_iff_iff, List.any_eq_true]
  simp only [Function.comp, decide_eq_true_eq]
  constructor
  · rintro ⟨x, hx, h⟩
    have e : ((x : Nat) : Int) = (u : Int) := eq_of_beq h
    have : x = u := by (first | lia | omega)
    exact this ▸ hx
  · intro h
    exact ⟨u, h, by simp [eqV]⟩
theorem and_int (a b : Nat) : Builtin.bitAnd (a : Int) (b : Int) = ((a &&& b : Nat) : Int) := by
  rw [PyProof.Rows.bitAnd_pp (by (first | lia | omega)) (by (first | lia | omega))]
  simp
end Ring

namespace RM
variable {N : Net}
theorem join_iff {L : Nat → Nat} {u v x y : Nat} : join L u v x = join L u v y ↔ (L x = L y ∨ (L x = L u ∧ L y = L v) ∨ (L x = L v ∧ L y = L u)) := by
  constructor
  · exact join_apart
  · have e := join_ends L u v
    rintro (h | ⟨h1, h2⟩ | ⟨h1, h2⟩)
    · exact join_eq h
    · rw [join_eq h1, join_eq h2, e]
    · rw [join_eq h1, join_eq h2, e]
def mrg (L : Nat → Nat) (u v : Nat) : Nat → Nat := fun x => if L x = L v then L u else L x
theorem mrg_iff {L : Nat → Nat} {u v x y : Nat} : mrg L u v x = mrg L u v y ↔ (L x = L y ∨ (L x = L u ∧ L y = L v) ∨ (L x = L v ∧ L y = L u)) := by
  unfold mrg
  split <;> split <;> (first | lia | omega)
end RM
namespace Ring
open PySem L2
section
variable {p : Nat} {ts : List Tie} {g : GoodWeb p ts}
end
theorem filter_single {c : Nat} : ∀ {n : Nat}, c < n → (List.range n).filter (fun k => decide (k = c)) = [c]
  | 0, h => absurd h (Nat.not_lt_zero _)
  | n + 1, h => by
    rw [filter_range_succ]
    by_cases e : c = n
    · subst e
      have z : (List.range c).filter (fun k => decide (k = c)) = [] := by
        rw [List.filter_eq_nil_iff]
        intro x hx
        have := List.mem_range.mp hx
        simp
        (first | lia | omega)
      rw [z]
      simp
    · rw [filter_single (by (first | lia | omega))]
      simp [Ne.symm e]
theorem nats_at {l : List Nat} {i : Nat} {k : Nat} (h : l[i]? = some k) : (natsV l)[i]? = some (.int (k : Int)) := by
  unfold natsV
  rw [List.getElem?_map, h]
  rfl
theorem eqv_nats (l : List Nat) : PyData.eqv (.list (l.map natD)) (.list (l.map natD)) = true := SeqAt.eqv_refl _ (by
  have e : (PyData.list (l.map natD)).canLay0 = PyData.canLayAll0 (l.map natD) := by simp [PyData.canLay0]
  rw [e, lay_nats])
end Ring

namespace Ring
open PySem L2
section
variable {f : Nat → Bool} {l : List Nat} {H H2 H3 : Hp} {D : Addr} {i k : Nat} {acc : List V}
end
section
variable {f : Nat → Int} {l : List Nat} {H H2 H3 : Hp} {D : Addr} {i k : Nat} {acc : List V} {v : V}
end
end Ring

namespace RM
theorem xsum_cnt (f : Nat → Bool) : ∀ n, xsum f n = decide (cnt f n % 2 = 1)
  | 0 => rfl
  | n + 1 => by
    unfold xsum cnt
    rw [xsum_cnt f n]
    by_cases h : f n = true
    · rw [h, if_pos rfl]
      by_cases q : cnt f n % 2 = 1
      · have q' : ¬ (cnt f n + 1) % 2 = 1 := by (first | lia | omega)
        simp [q, q']
      · have q' : (cnt f n + 1) % 2 = 1 := by (first | lia | omega)
        simp [q, q']
    · have h' : f n = false := by simpa using h
      rw [h', if_neg (by decide)]
      simp
end RM
namespace Ring
open PySem L2
section
variable {p : Nat} {ts : List Tie} (g : GoodWeb p ts)
include g
end
section
variable {p : Nat} {ts : List Tie}
end
end Ring

namespace L2
open PySem PySem.Spec PyProof.Rows
theorem pair_take {α β : Type} {F : α → β → Prop} : ∀ {l : List α} {r : List β} (k : Nat), Paired F l r → Paired F (l.take k) (r.take k)
  | _, _, 0, _ => by rw [List.take_zero, List.take_zero]; exact .nil
  | _, _, _ + 1, .nil => .nil
  | _, _, k + 1, .cons h t => .cons h (pair_take k t)
theorem pair_drop {α β : Type} {F : α → β → Prop} : ∀ {l : List α} {r : List β} (k : Nat), Paired F l r → Paired F (l.drop k) (r.drop k)
  | _, _, 0, h => h
  | _, _, _ + 1, .nil => .nil
  | _, _, k + 1, .cons _ t => pair_drop k t
def rInsert : V → List V → Hp → VK → Prop := fun x vs H Q => ∃ (l : Addr) (xs : List V) (k : Nat) (y : V), x = .ref l ∧ vs = [.int (k : Int), y] ∧ H l = some (.lst xs) ∧ k ≤ xs.length ∧ xs.length < sizeLine ∧ Q .non (upd H l (.lst (xs.take k ++ y :: xs.drop k)))
theorem mt_insert {X : Cx} : MtM X "list.insert" rInsert := by
  intro pins s σ H x vs v us Q I rx rv h
  obtain ⟨l, xs, k, y, rfl, rfl, hH, hk, hz, q⟩ := h
  cases rx
  cases rv with
  | cons r1 r2 =>
    obtain ⟨u, rfl, ru⟩ := Vals.one r2
    obtain ⟨t, rfl⟩ := r1
    obtain ⟨z, its, n, r, hl, e⟩ := I.lstM hH
    have hsz : sizeLine < 2 ^ 63 := line63
    have hk63 : ((k : Nat) : Int) < 2 ^ 63 := by
      have : k < 2 ^ 63 := by (first | lia | omega)
      (first | lia | omega)
    have hfit : ¬ (!Builtin.List.listFitsIndex (k : Int)) = true := by
      rw [fitsIndex_both (by (first | lia | omega)) hk63]
      decide
    obtain ⟨i, hi⟩ : ∃ i : Int, i = (k : Int) := ⟨_, rfl⟩
    rw [← hi] at hfit ⊢
    have hz2 : its.toArray.size ≤ sizeLine := by rw [List.size_toArray, ← hl]; exact z
    refine call_meets F.slot_list_insert ⟨_, e, rfl⟩ F.entry_list_insert (F.args_list_insert_3 _ _ _) (AutoSeq1.list_insert_list_int_val_1 l its.toArray n i t u hfit hz2) ⟨e, ?_⟩
    refine ⟨.non, _, I.lset (its' := its.take k ++ u :: its.drop k) hH e ?_ (Vals.append (pair_take k r) (.cons ru (pair_drop k r))) ?_, rfl, q⟩
    · have hc : (if i < 0 then (i + (its.toArray.size : Int)).toNat else min i.toNat its.toArray.size) = k := by
        rw [if_neg (by (first | lia | omega)), List.size_toArray, hi, Int.toNat_natCast]
        (first | lia | omega)
      show (its.toArray.extract 0 (if i < 0 then (i + (its.toArray.size : Int)).toNat else min i.toNat its.toArray.size)).push u ++ its.toArray.extract (if i < 0 then (i + (its.toArray.size : Int)).toNat else min i.toNat its.toArray.size) = _
      rw [hc]
      simp [List.extract_toArray]
      exact List.take_of_length_le (by rw [List.length_drop]; (first | lia | omega))
    · rw [List.length_append, List.length_take, List.length_cons, List.length_drop]
      (first | lia | omega)
end L2

namespace Ring
open PySem L2
end Ring

namespace RM
def sm (f : Nat → Nat) : Nat → Nat
  | 0 => 0
  | n + 1 => sm f n + f n
theorem sm_congr {f g : Nat → Nat} : ∀ {n : Nat}, (∀ k, k < n → f k = g k) → sm f n = sm g n
  | 0, _ => rfl
  | n + 1, h => by
    show sm f n + f n = sm g n + g n
    rw [sm_congr fun k hk => h k (by (first | lia | omega)), h n (by (first | lia | omega))]
theorem sm_add (f g : Nat → Nat) : ∀ n, sm (fun k => f k + g k) n = sm f n + sm g n
  | 0 => rfl
  | n + 1 => by
    show sm (fun k => f k + g k) n + (f n + g n) = sm f n + f n + (sm g n + g n)
    rw [sm_add f g n]
    (first | lia | omega)
theorem sm_zero : ∀ n, sm (fun _ => 0) n = 0
  | 0 => rfl
  | n + 1 => by
    show sm (fun _ => 0) n + 0 = 0
    rw [sm_zero n]
theorem sm_comm (f : Nat → Nat → Nat) (n : Nat) : ∀ p, sm (fun x => sm (fun k => f x k) n) p = sm (fun k => sm (fun x => f x k) p) n
  | 0 => (sm_zero n).symm
  | p + 1 => by
    show sm (fun x => sm (fun k => f x k) n) p + sm (fun k => f p k) n = sm (fun k => sm (fun x => f x k) p + f p k) n
    rw [sm_comm f n p, sm_add]
theorem cnt_sm (f : Nat → Bool) : ∀ n, cnt f n = sm (fun k => if f k = true then 1 else 0) n
  | 0 => rfl
  | n + 1 => by
    show cnt f n + (if f n = true then 1 else 0) = sm (fun k => if f k = true then 1 else 0) n + (if f n = true then 1 else 0)
    rw [cnt_sm f n]
theorem sm_le {f g : Nat → Nat} : ∀ {n : Nat}, (∀ k, k < n → f k ≤ g k) → sm f n ≤ sm g n
  | 0, _ => Nat.le_refl _
  | n + 1, h => by
    have h1 := sm_le (f := f) (g := g) (n := n) fun k hk => h k (by (first | lia | omega))
    have h2 := h n (by (first | lia | omega))
    show sm f n + f n ≤ sm g n + g n
    (first | lia | omega)
theorem sm_eq {f g : Nat → Nat} {n : Nat} (h : ∀ k, k < n → f k ≤ g k) (e : sm f n = sm g n) : ∀ k, k < n → f k = g k := by
  induction n with
  | zero => exact fun k hk => absurd hk (Nat.not_lt_zero _)
  | succ n ih =>
    intro k hk
    have h1 := sm_le (f := f) (g := g) (n := n) fun k hk => h k (by (first | lia | omega))
    have h2 := h n (by (first | lia | omega))
    have e : sm f n + f n = sm g n + g n := e
    by_cases hkn : k = n
    · subst hkn
      (first | lia | omega)
    · exact ih (fun j hj => h j (by (first | lia | omega))) (by (first | lia | omega)) k (by (first | lia | omega))
theorem cnt_le {f g : Nat → Bool} {n : Nat} (h : ∀ k, k < n → f k = true → g k = true) : cnt f n ≤ cnt g n := by
  rw [cnt_sm, cnt_sm]
  refine sm_le fun k hk => ?_
  by_cases hf : f k = true
  · rw [if_pos hf, if_pos (h k hk hf)]
    exact Nat.le_refl _
  · rw [if_neg hf]
    exact Nat.zero_le _
theorem cnt_same {f g : Nat → Bool} {n : Nat} (h : ∀ k, k < n → f k = true → g k = true) (e : cnt f n = cnt g n) : ∀ k, k < n → g k = true → f k = true := fun k hk hg => by
  rw [cnt_sm, cnt_sm] at e
  have q := sm_eq (n := n) (fun k hk => by
    by_cases hf : f k = true
    · rw [if_pos hf, if_pos (h k hk hf)]
      exact Nat.le_refl _
    · rw [if_neg hf]
      exact Nat.zero_le _) e k hk
  rw [if_pos hg] at q
  by_cases hf : f k = true
  · exact hf
  · rw [if_neg hf] at q
    (first | lia | omega)
theorem cnt_some {f : Nat → Bool} : ∀ {n : Nat}, 0 < cnt f n → ∃ k, k < n ∧ f k = true
  | 0, h => absurd h (Nat.lt_irrefl _)
  | n + 1, h => by
    by_cases hf : f n = true
    · exact ⟨n, by (first | lia | omega), hf⟩
    · have h : 0 < cnt f n + (if f n = true then 1 else 0) := h
      rw [if_neg hf] at h
      obtain ⟨k, hk, q⟩ := cnt_some (f := f) (n := n) (by (first | lia | omega))
      exact ⟨k, by (first | lia | omega), q⟩
theorem cnt_pos {f : Nat → Bool} {k : Nat} (hf : f k = true) : ∀ {n : Nat}, k < n → 0 < cnt f n
  | 0, h => absurd h (Nat.not_lt_zero _)
  | n + 1, h => by
    show 0 < cnt f n + (if f n = true then 1 else 0)
    by_cases hk : k = n
    · subst hk
      rw [if_pos hf]
      (first | lia | omega)
    · have := cnt_pos hf (n := n) (by (first | lia | omega))
      (first | lia | omega)
theorem cnt_two {f : Nat → Bool} : ∀ {n : Nat}, 2 ≤ cnt f n → ∃ c d, c < d ∧ d < n ∧ f c = true ∧ f d = true
  | 0, h => absurd h (by show ¬ 2 ≤ 0; (first | lia | omega))
  | n + 1, h => by
    have h : 2 ≤ cnt f n + (if f n = true then 1 else 0) := h
    by_cases hf : f n = true
    · rw [if_pos hf] at h
      obtain ⟨k, hk, q⟩ := cnt_some (f := f) (n := n) (by (first | lia | omega))
      exact ⟨k, n, hk, by (first | lia | omega), q, hf⟩
    · rw [if_neg hf] at h
      obtain ⟨c, d, h1, h2, h3, h4⟩ := cnt_two (f := f) (n := n) (by (first | lia | omega))
      exact ⟨c, d, h1, by (first | lia | omega), h3, h4⟩
theorem two_cnt {f : Nat → Bool} {u v : Nat} (hu : f u = true) (hv : f v = true) (ne : u ≠ v) : ∀ {n : Nat}, u < n → v < n → 2 ≤ cnt f n
  | 0, h, _ => absurd h (Nat.not_lt_zero _)
  | n + 1, h1, h2 => by
    show 2 ≤ cnt f n + (if f n = true then 1 else 0)
    by_cases e1 : u = n
    · subst e1
      have := cnt_pos hv (n := u) (by (first | lia | omega))
      rw [if_pos hu]
      (first | lia | omega)
    · by_cases e2 : v = n
      · subst e2
        have := cnt_pos hu (n := v) (by (first | lia | omega))
        rw [if_pos hv]
        (first | lia | omega)
      · have := two_cnt hu hv ne (n := n) (by (first | lia | omega)) (by (first | lia | omega))
        (first | lia | omega)
theorem cnt_eq (a : Nat) : ∀ n, cnt (fun x => decide (a = x)) n = if a < n then 1 else 0
  | 0 => rfl
  | n + 1 => by
    show cnt (fun x => decide (a = x)) n + (if decide (a = n) = true then 1 else 0) = _
    rw [cnt_eq a n]
    by_cases e : a = n
    · subst e
      simp
    · have d : (if decide (a = n) = true then 1 else 0) = 0 := if_neg (by simpa using e)
      rw [d]
      by_cases h : a < n
      · rw [if_pos h, if_pos (by (first | lia | omega))]
      · rw [if_neg h, if_neg (by (first | lia | omega))]
theorem cnt_or {f g : Nat → Bool} : ∀ {n : Nat}, (∀ x, x < n → ¬ (f x = true ∧ g x = true)) → cnt (fun x => f x ^^ g x) n = cnt f n + cnt g n
  | 0, _ => rfl
  | n + 1, h => by
    show cnt (fun x => f x ^^ g x) n + (if (f n ^^ g n) = true then 1 else 0) = cnt f n + (if f n = true then 1 else 0) + (cnt g n + (if g n = true then 1 else 0))
    rw [cnt_or fun x hx => h x (by (first | lia | omega))]
    have q := h n (by (first | lia | omega))
    cases hf : f n <;> cases hg : g n
    · simp
    · simp
      (first | lia | omega)
    · simp
      (first | lia | omega)
    · exact absurd ⟨hf, hg⟩ q
variable {N : Net}
def Net.dg (N : Net) (m x : Nat) : Nat := cnt (fun k => m.testBit k && N.inc k x) N.n
theorem bd_dg (m x : Nat) : N.bd m x = decide (N.dg m x % 2 = 1) := xsum_cnt _ _
theorem even_dg {m x : Nat} (e : N.Even m) (hx : x < N.p) : N.dg m x % 2 = 0 := by
  have h := e x hx
  rw [bd_dg] at h
  have := of_decide_eq_false h
  (first | lia | omega)
theorem inc_iff {k x : Nat} (hk : k < N.n) : N.inc k x = true ↔ (N.a k = x ∨ N.b k = x) := by
  have ne := N.ne k hk
  unfold Net.inc
  by_cases h1 : N.a k = x
  · have h2 : ¬ N.b k = x := fun z => ne (h1.trans z.symm)
    simp [h1, h2]
  · by_cases h2 : N.b k = x
    · simp [h1, h2]
    · simp [h1, h2]
theorem inc_two {k : Nat} (hk : k < N.n) : cnt (N.inc k) N.p = 2 := by
  have ne := N.ne k hk
  have e : cnt (N.inc k) N.p = cnt (fun x => decide (N.a k = x) ^^ decide (N.b k = x)) N.p := rfl
  rw [e, cnt_or fun x _ ⟨h1, h2⟩ => ne ((of_decide_eq_true h1).trans (of_decide_eq_true h2).symm), cnt_eq, cnt_eq, if_pos (N.al k hk), if_pos (N.bl k hk)]
theorem dg_sum (m : Nat) : sm (fun x => N.dg m x) N.p = 2 * cnt (fun k => m.testBit k) N.n := by
  have e : sm (fun x => N.dg m x) N.p = sm (fun x => sm (fun k => if (m.testBit k && N.inc k x) = true then 1 else 0) N.n) N.p := sm_congr fun x _ => cnt_sm _ _
  rw [e, sm_comm, cnt_sm]
  have d : ∀ n, 2 * sm (fun k => if m.testBit k = true then 1 else 0) n = sm (fun k => (if m.testBit k = true then 1 else 0) + (if m.testBit k = true then 1 else 0)) n := fun n => by
    rw [sm_add]
    (first | lia | omega)
  rw [d]
  refine sm_congr fun k hk => ?_
  by_cases h : m.testBit k = true
  · rw [if_pos h]
    have q := inc_two hk
    rw [cnt_sm] at q
    show _ = 2
    exact (sm_congr fun x _ => by rw [h, Bool.true_and]).trans q
  · rw [if_neg h]
    have h' : m.testBit k = false := by simpa using h
    have : sm (fun x => if (m.testBit k && N.inc k x) = true then 1 else 0) N.p = sm (fun _ => 0) N.p := sm_congr fun x _ => by rw [h']; rfl
    rw [this, sm_zero]
theorem dg_le {q m : Nat} (h : ∀ k, q.testBit k = true → m.testBit k = true) (x : Nat) : N.dg q x ≤ N.dg m x := cnt_le fun k _ hq => by
  rw [Bool.and_eq_true] at hq ⊢
  exact ⟨h k hq.1, hq.2⟩
theorem dg_at {m k x : Nat} (hk : k < N.n) (hb : m.testBit k = true) (hx : N.a k = x ∨ N.b k = x) : 0 < N.dg m x := cnt_pos (k := k) (by rw [hb, Bool.true_and]; exact (inc_iff hk).mpr hx) hk
theorem dg_some {m x : Nat} (h : 0 < N.dg m x) : ∃ k, k < N.n ∧ m.testBit k = true ∧ (N.a k = x ∨ N.b k = x) := by
  obtain ⟨k, hk, q⟩ := cnt_some h
  rw [Bool.and_eq_true] at q
  exact ⟨k, hk, q.1, (inc_iff hk).mp q.2⟩
theorem alone {m x y : Nat} (h : N.dg m x = 0) (c : N.Conn (fun k => m.testBit k) N.n x y) : y = x := by
  induction c with
  | refl => rfl
  | fwd _ hj hs ih => exact absurd (dg_at hj hs (.inl ih)) (by (first | lia | omega))
  | bwd _ hj hs ih => exact absurd (dg_at hj hs (.inr ih)) (by (first | lia | omega))
theorem conn_path {S : Nat → Bool} {k u v : Nat} (hk : k ≤ N.n) (c : N.Conn S k u v) : ∃ t, (∀ j, t.testBit j = true → j < k ∧ S j = true) ∧ ∀ x, N.bd t x = (decide (u = x) ^^ decide (v = x)) := by
  induction c with
  | refl => exact ⟨0, fun j hj => by simp at hj, fun x => by rw [bd_zero]; simp⟩
  | fwd _ hj hs ih =>
    rename_i j _
    obtain ⟨t, h1, h2⟩ := ih
    refine ⟨t ^^^ 2 ^ j, fun i hi => ?_, fun x => ?_⟩
    · rw [Nat.testBit_xor, Nat.testBit_two_pow] at hi
      by_cases e : j = i
      · subst e
        exact ⟨hj, hs⟩
      · rw [decide_eq_false e, Bool.xor_false] at hi
        exact h1 i hi
    · rw [bd_xor, h2, bd_pow (by (first | lia | omega))]
      unfold Net.inc
      cases decide (u = x) <;> cases decide (N.a j = x) <;> cases decide (N.b j = x) <;> rfl
  | bwd _ hj hs ih =>
    rename_i j _
    obtain ⟨t, h1, h2⟩ := ih
    refine ⟨t ^^^ 2 ^ j, fun i hi => ?_, fun x => ?_⟩
    · rw [Nat.testBit_xor, Nat.testBit_two_pow] at hi
      by_cases e : j = i
      · subst e
        exact ⟨hj, hs⟩
      · rw [decide_eq_false e, Bool.xor_false] at hi
        exact h1 i hi
    · rw [bd_xor, h2, bd_pow (by (first | lia | omega))]
      unfold Net.inc
      cases decide (u = x) <;> cases decide (N.a j = x) <;> cases decide (N.b j = x) <;> rfl
def Net.Ring (N : Net) (m : Nat) : Prop := m ≠ 0 ∧ N.Even m ∧ ∀ q, (∀ k, q.testBit k = true → m.testBit k = true) → N.Even q → q = 0 ∨ q = m
section
variable {m s : Nat}
theorem ring_of (hm : m < 2 ^ N.n) (ev : N.Even m) (C : Nat → Bool) (hC : ∀ x, x < N.p → C x = decide (N.labs (fun k => m.testBit k) N.n x = s)) (h2 : 2 ≤ cnt C N.p)
    (tie : ∀ k, k < N.n → m.testBit k = true → C (N.a k) = true) (hl : cnt C N.p = cnt (fun k => m.testBit k) N.n) : N.Ring m := by
  have inC : ∀ k, k < N.n → m.testBit k = true → C (N.a k) = true ∧ C (N.b k) = true := fun k hk hb => by
    have h := tie k hk hb
    refine ⟨h, ?_⟩
    rw [hC _ (N.al k hk)] at h
    rw [hC _ (N.bl k hk)]
    rw [labs_tie (S := fun k => m.testBit k) hk hb] at h
    exact h
  have pos : ∀ x, x < N.p → C x = true → 0 < N.dg m x := fun x hx hc => by
    cases hz : N.dg m x with
    | succ d => (first | lia | omega)
    | zero =>
      exfalso
      obtain ⟨y, hy, hcy, hne⟩ : ∃ y, y < N.p ∧ C y = true ∧ y ≠ x := by
        obtain ⟨c, d, h1, h3, h4, h5⟩ := cnt_two h2
        by_cases e : c = x
        · exact ⟨d, h3, h5, by (first | lia | omega)⟩
        · exact ⟨c, by (first | lia | omega), h4, e⟩
      rw [hC x hx] at hc
      rw [hC y hy] at hcy
      exact hne (alone hz (labs_conn _ _ _ ((of_decide_eq_true hc).trans (of_decide_eq_true hcy).symm)))
  have two : ∀ x, x < N.p → (if C x = true then 2 else 0) = N.dg m x := by
    refine sm_eq (fun x hx => ?_) ?_
    · by_cases hc : C x = true
      · rw [if_pos hc]
        have h1 := pos x hx hc
        have h3 := even_dg ev hx
        (first | lia | omega)
      · rw [if_neg hc]
        exact Nat.zero_le _
    · rw [dg_sum, ← hl, cnt_sm]
      have d : ∀ n, 2 * sm (fun k => if C k = true then 1 else 0) n = sm (fun k => (if C k = true then 1 else 0) + (if C k = true then 1 else 0)) n := fun n => by
        rw [sm_add]
        (first | lia | omega)
      rw [d]
      exact sm_congr fun x _ => by split <;> rfl
  obtain ⟨c0, hc0, hcc⟩ := cnt_some (f := C) (n := N.p) (by (first | lia | omega))
  refine ⟨fun z => ?_, ev, fun q hq eq => ?_⟩
  · have h := pos c0 hc0 hcc
    obtain ⟨k, _, hb, _⟩ := dg_some h
    rw [z] at hb
    simp at hb
  · by_cases hq0 : q = 0
    · exact .inl hq0
    · right
      have full : ∀ x, x < N.p → 0 < N.dg q x → ∀ k, k < N.n → m.testBit k = true → (N.a k = x ∨ N.b k = x) → q.testBit k = true := fun x hx h k hk hb hx2 => by
        have h1 := dg_le (N := N) hq x
        have h3 := even_dg eq hx
        have h4 := two x hx
        have h5 : N.dg q x = N.dg m x := by
          by_cases hc : C x = true
          · rw [if_pos hc] at h4
            (first | lia | omega)
          · rw [if_neg hc] at h4
            (first | lia | omega)
        have h6 := cnt_same (f := fun k => q.testBit k && N.inc k x) (g := fun k => m.testBit k && N.inc k x) (n := N.n) (fun k _ z => by
          rw [Bool.and_eq_true] at z ⊢
          exact ⟨hq k z.1, z.2⟩) h5 k hk (by rw [hb, Bool.true_and]; exact (inc_iff hk).mpr hx2)
        rw [Bool.and_eq_true] at h6
        exact h6.1
      obtain ⟨k0, hb0⟩ : ∃ k, q.testBit k = true := Nat.exists_testBit_of_ne_zero hq0
      have hk0 : k0 < N.n := bits_lt hm (hq k0 hb0)
      have spread : ∀ {y}, N.Conn (fun k => m.testBit k) N.n (N.a k0) y → 0 < N.dg q y := fun {y} c => by
        induction c with
        | refl => exact dg_at hk0 hb0 (.inl rfl)
        | fwd _ hj hs ih => exact dg_at hj (full _ (N.al _ hj) ih _ hj hs (.inl rfl)) (.inr rfl)
        | bwd _ hj hs ih => exact dg_at hj (full _ (N.bl _ hj) ih _ hj hs (.inr rfl)) (.inl rfl)
      refine Nat.eq_of_testBit_eq fun k => ?_
      cases hb : m.testBit k with
      | false =>
        cases hz : q.testBit k with
        | false => rfl
        | true =>
          have := hq k hz
          rw [hb] at this
          cases this
      | true =>
        have hk := bits_lt hm hb
        have e1 := (inC k hk hb).1
        have e2 := (inC k0 hk0 (hq k0 hb0)).1
        rw [hC _ (N.al k hk)] at e1
        rw [hC _ (N.al k0 hk0)] at e2
        exact full _ (N.al k hk) (spread (labs_conn _ _ _ ((of_decide_eq_true e2).trans (of_decide_eq_true e1).symm))) k hk hb (.inl rfl)
theorem ring_piece (hm : m < 2 ^ N.n) (r : N.Ring m) : ∃ k0, k0 < N.n ∧ m.testBit k0 = true ∧ ∀ k, k < N.n → m.testBit k = true → N.labs (fun k => m.testBit k) N.n (N.a k) = N.labs (fun k => m.testBit k) N.n (N.a k0) := by
  obtain ⟨h0, ev, mn⟩ := r
  obtain ⟨k0, hb0⟩ := Nat.exists_testBit_of_ne_zero h0
  have hk0 := bits_lt hm hb0
  refine ⟨k0, hk0, hb0, ?_⟩
  generalize hs : N.labs (fun k => m.testBit k) N.n (N.a k0) = s
  have bit : ∀ k, (Ring.maskOf (fun k => m.testBit k && decide (N.labs (fun k => m.testBit k) N.n (N.a k) = s)) N.n).testBit k = (decide (k < N.n) && (m.testBit k && decide (N.labs (fun k => m.testBit k) N.n (N.a k) = s))) := fun k => Ring.mask_bit _ k _
  have sub : ∀ k, (Ring.maskOf (fun k => m.testBit k && decide (N.labs (fun k => m.testBit k) N.n (N.a k) = s)) N.n).testBit k = true → m.testBit k = true := fun k hk => by
    rw [bit, Bool.and_eq_true, Bool.and_eq_true] at hk
    exact hk.2.1
  have evn : N.Even (Ring.maskOf (fun k => m.testBit k && decide (N.labs (fun k => m.testBit k) N.n (N.a k) = s)) N.n) := fun x hx => by
    have e : N.bd (Ring.maskOf (fun k => m.testBit k && decide (N.labs (fun k => m.testBit k) N.n (N.a k) = s)) N.n) x = (decide (N.labs (fun k => m.testBit k) N.n x = s) && N.bd m x) := by
      unfold Net.bd
      rw [← xsum_and]
      refine xsum_congr fun k hk => ?_
      rw [bit, decide_eq_true hk, Bool.true_and]
      cases hb : m.testBit k with
      | false => simp
      | true =>
        cases hi : N.inc k x with
        | false => simp
        | true =>
          have el : N.labs (fun k => m.testBit k) N.n (N.a k) = N.labs (fun k => m.testBit k) N.n x := by
            rcases (inc_iff hk).mp hi with z | z
            · rw [z]
            · rw [← z]
              exact labs_tie (S := fun k => m.testBit k) hk hb
          rw [el]
          simp
    rw [e, ev x hx, Bool.and_false]
  rcases mn _ sub evn with q | q
  · have := bit k0
    rw [q, hb0, hs, decide_eq_true hk0] at this
    simp at this
  · intro k hk hb
    have h := bit k
    rw [q, hb, decide_eq_true hk] at h
    exact of_decide_eq_true (by simpa using h.symm)
theorem roots_set (S : Nat → Bool) : ∀ k, k ≤ N.n → cnt (N.root S k) N.p + cnt (fun j => S j && !decide (N.labs S j (N.a j) = N.labs S j (N.b j))) k = N.p
  | 0, _ => by
    show cnt (N.root S 0) N.p + 0 = N.p
    rw [cnt_all (f := N.root S 0) fun x _ => decide_eq_true rfl]
    rfl
  | k + 1, hk => by
    have ih := roots_set S k (by (first | lia | omega))
    have st := roots_step (N := N) (S := S) (k := k) (by (first | lia | omega))
    show cnt (N.root S (k + 1)) N.p + (cnt (fun j => S j && !decide (N.labs S j (N.a j) = N.labs S j (N.b j))) k + if (S k && !decide (N.labs S k (N.a k) = N.labs S k (N.b k))) = true then 1 else 0) = N.p
    (first | lia | omega)
theorem ring_len (hm : m < 2 ^ N.n) (r : N.Ring m) (C : Nat → Bool) (hC : ∀ x, x < N.p → C x = decide (N.labs (fun k => m.testBit k) N.n x = s))
    (tie : ∀ k, k < N.n → m.testBit k = true → C (N.a k) = true) : 2 ≤ cnt C N.p ∧ cnt C N.p = cnt (fun k => m.testBit k) N.n ∧ ∀ x, x < N.p → C x = false → N.labs (fun k => m.testBit k) N.n x = x ∧ ∀ y, N.labs (fun k => m.testBit k) N.n y = x → y = x := by
  obtain ⟨h0, ev, mn⟩ := r
  obtain ⟨k0, hb0⟩ := Nat.exists_testBit_of_ne_zero h0
  have hk0 := bits_lt hm hb0
  have inC : ∀ k, k < N.n → m.testBit k = true → C (N.a k) = true ∧ C (N.b k) = true := fun k hk hb => by
    have h := tie k hk hb
    refine ⟨h, ?_⟩
    rw [hC _ (N.al k hk)] at h
    rw [hC _ (N.bl k hk), ← labs_tie (S := fun k => m.testBit k) hk hb]
    exact h
  have h2 : 2 ≤ cnt C N.p := two_cnt (inC k0 hk0 hb0).1 (inC k0 hk0 hb0).2 (N.ne k0 hk0) (N.al k0 hk0) (N.bl k0 hk0)
  have none : ∀ x, x < N.p → C x = false → N.dg m x = 0 := fun x hx hc => by
    cases hz : N.dg m x with
    | zero => rfl
    | succ d =>
      exfalso
      obtain ⟨k, hk, hb, hx2⟩ := dg_some (N := N) (m := m) (x := x) (by (first | lia | omega))
      rcases hx2 with e | e
      · have := (inC k hk hb).1
        rw [e, hc] at this
        cases this
      · have := (inC k hk hb).2
        rw [e, hc] at this
        cases this
  have solo : ∀ x, x < N.p → C x = false → N.labs (fun k => m.testBit k) N.n x = x ∧ ∀ y, N.labs (fun k => m.testBit k) N.n y = x → y = x := fun x hx hc => by
    have hz := none x hx hc
    have r1 : N.labs (fun k => m.testBit k) N.n x = x := alone hz (labs_conn _ _ _ (labs_root _ _).symm)
    exact ⟨r1, fun y hy => alone hz (labs_conn _ _ _ (r1.trans hy.symm))⟩
  refine ⟨h2, ?_, solo⟩
  -- no fewer ties than points
  have pos : ∀ x, x < N.p → C x = true → 0 < N.dg m x := fun x hx hc => by
    cases hz : N.dg m x with
    | succ d => (first | lia | omega)
    | zero =>
      exfalso
      obtain ⟨y, hy, hcy, hne⟩ : ∃ y, y < N.p ∧ C y = true ∧ y ≠ x := by
        obtain ⟨c, d, h1, h3, h4, h5⟩ := cnt_two h2
        by_cases e : c = x
        · exact ⟨d, h3, h5, by (first | lia | omega)⟩
        · exact ⟨c, by (first | lia | omega), h4, e⟩
      rw [hC x hx] at hc
      rw [hC y hy] at hcy
      exact hne (alone hz (labs_conn _ _ _ ((of_decide_eq_true hc).trans (of_decide_eq_true hcy).symm)))
  have ge : cnt C N.p ≤ cnt (fun k => m.testBit k) N.n := by
    have h : sm (fun x => if C x = true then 2 else 0) N.p ≤ sm (fun x => N.dg m x) N.p := sm_le fun x hx => by
      by_cases hc : C x = true
      · rw [if_pos hc]
        have h1 := pos x hx hc
        have h3 := even_dg ev hx
        (first | lia | omega)
      · rw [if_neg hc]
        exact Nat.zero_le _
    rw [dg_sum] at h
    have d : sm (fun x => if C x = true then 2 else 0) N.p = 2 * cnt C N.p := by
      rw [cnt_sm]
      have d : ∀ n, 2 * sm (fun k => if C k = true then 1 else 0) n = sm (fun k => (if C k = true then 1 else 0) + (if C k = true then 1 else 0)) n := fun n => by
        rw [sm_add]
        (first | lia | omega)
      rw [d]
      exact sm_congr fun x _ => by split <;> rfl
    (first | lia | omega)
  -- no more: two chords would be two rings
  refine Nat.le_antisymm ge (Nat.le_of_not_lt fun more => ?_)
  have hroots := roots_set (N := N) (fun k => m.testBit k) N.n (Nat.le_refl _)
  have hr : cnt (N.root (fun k => m.testBit k) N.n) N.p + cnt C N.p = N.p + 1 := by
    -- the roots: all out of C, and one in it
    have hc0 := (inC k0 hk0 hb0).1
    rw [hC _ (N.al k0 hk0)] at hc0
    have hs := of_decide_eq_true hc0
    have hsp : s < N.p := by rw [← hs]; exact labs_lt (N.al k0 hk0)
    have hss : N.labs (fun k => m.testBit k) N.n s = s := by rw [← hs]; exact labs_root _ _
    have e : cnt (N.root (fun k => m.testBit k) N.n) N.p = cnt (fun x => !C x ^^ decide (s = x)) N.p := cnt_congr fun x hx => by
      unfold Net.root
      cases hc : C x with
      | false =>
        have ne : ¬ s = x := fun z => by
          have := hC x hx
          rw [hc, ← z, hss] at this
          simp at this
        rw [decide_eq_true (solo x hx hc).1, decide_eq_false ne]
        rfl
      | true =>
        have h := hC x hx
        rw [hc] at h
        have h := of_decide_eq_true h.symm
        rw [h]
        simp
    rw [e, cnt_or fun x hx ⟨z1, z2⟩ => by
      have z2 := of_decide_eq_true z2
      have := hC x hx
      rw [← z2, hss] at this
      rw [← z2, this] at z1
      simp at z1, cnt_eq, if_pos hsp]
    have := cnt_not C N.p
    (first | lia | omega)
  have split : cnt (fun k => m.testBit k) N.n = cnt (fun j => m.testBit j && !decide (N.labs (fun k => m.testBit k) j (N.a j) = N.labs (fun k => m.testBit k) j (N.b j))) N.n + cnt (fun j => m.testBit j && decide (N.labs (fun k => m.testBit k) j (N.a j) = N.labs (fun k => m.testBit k) j (N.b j))) N.n := by
    rw [← cnt_or fun x _ ⟨z1, z2⟩ => by
      rw [Bool.and_eq_true] at z1 z2
      have := z1.2
      rw [z2.2] at this
      cases this]
    refine cnt_congr fun k _ => ?_
    cases m.testBit k <;> cases decide (N.labs (fun k => m.testBit k) k (N.a k) = N.labs (fun k => m.testBit k) k (N.b k)) <;> rfl
  obtain ⟨c, d, hcd, hd, hc1, hd1⟩ := cnt_two (f := fun j => m.testBit j && decide (N.labs (fun k => m.testBit k) j (N.a j) = N.labs (fun k => m.testBit k) j (N.b j))) (n := N.n) (by (first | lia | omega))
  have whole : ∀ j, j < N.n → (m.testBit j && decide (N.labs (fun k => m.testBit k) j (N.a j) = N.labs (fun k => m.testBit k) j (N.b j))) = true → ∀ i, m.testBit i = true → i ≤ j := fun j hj h i hi => by
    rw [Bool.and_eq_true] at h
    obtain ⟨t, t1, t2⟩ := conn_path (Nat.le_of_lt hj) (labs_conn _ _ _ (of_decide_eq_true h.2))
    have own : (t ^^^ 2 ^ j).testBit j = true := by
      rw [Nat.testBit_xor, Nat.testBit_two_pow, decide_eq_true rfl]
      cases hz : t.testBit j with
      | false => rfl
      | true => exact absurd (t1 j hz).1 (Nat.lt_irrefl _)
    have sub : ∀ k, (t ^^^ 2 ^ j).testBit k = true → m.testBit k = true := fun k hk => by
      rw [Nat.testBit_xor, Nat.testBit_two_pow] at hk
      by_cases e : j = k
      · subst e
        exact h.1
      · rw [decide_eq_false e, Bool.xor_false] at hk
        exact (t1 k hk).2
    have evn : N.Even (t ^^^ 2 ^ j) := fun x hx => by
      rw [bd_xor, t2, bd_pow hj]
      unfold Net.inc
      cases decide (N.a j = x) <;> cases decide (N.b j = x) <;> rfl
    rcases mn _ sub evn with q | q
    · rw [q] at own
      simp at own
    · rw [← q, Nat.testBit_xor, Nat.testBit_two_pow] at hi
      by_cases e : j = i
      · (first | lia | omega)
      · rw [decide_eq_false e, Bool.xor_false] at hi
        exact Nat.le_of_lt (t1 i hi).1
  have h1 : m.testBit d = true := by
    rw [Bool.and_eq_true] at hd1
    exact hd1.1
  have := whole c (by (first | lia | omega)) hc1 d h1
  (first | lia | omega)
end
end RM

namespace Ring
open PySem L2
def touchedOf (L : Nat → Nat) (p : Nat) : List Nat := (rootsOf L p).filter fun s => decide (1 < (pieceOf L p s).length)
def oneB (L : Nat → Nat) (p k : Nat) : List Nat → Bool
  | [s] => decide ((pieceOf L p s).length = k)
  | _ => false
def ringB (p : Nat) (ts : List Tie) (g : GoodWeb p ts) (m : Nat) : Bool := decide (oddOf p ts (m : Int) = []) && oneB (labOf p ts g m) p (tiesOf (m : Int)).length (touchedOf (labOf p ts g m) p)
theorem piece_cnt (L : Nat → Nat) (p s : Nat) : (pieceOf L p s).length = RM.cnt (fun x => decide (L x = s)) p := RM.cnt_range _ _
theorem ties_cnt {m n : Nat} (hm : m < 2 ^ n) : (tiesOf (m : Int)).length = RM.cnt (fun k => m.testBit k) n := by
  rw [ties_nat hm]
  exact RM.cnt_range _ _
theorem filter_is {f : Nat → Bool} {n c : Nat} (hc : c < n) (h : ∀ k, k < n → f k = decide (k = c)) : (List.range n).filter f = [c] := by
  rw [← filter_single hc]
  exact List.filter_congr fun k hk => h k (List.mem_range.mp hk)
theorem ringB_iff {p : Nat} {ts : List Tie} (g : GoodWeb p ts) {m : Nat} (hm : m < 2 ^ ts.length) : ringB p ts g m = true ↔ (netOf p ts g).Ring m := by
  have eL : labOf p ts g m = (netOf p ts g).labs (fun k => m.testBit k) (netOf p ts g).n := rfl
  have ep : (netOf p ts g).p = p := rfl
  constructor
  · intro h
    unfold ringB at h
    rw [Bool.and_eq_true] at h
    obtain ⟨h1, h2⟩ := h
    have ev := (even_net g hm).mp (of_decide_eq_true h1)
    unfold oneB at h2
    split at h2
    · rename_i s hs
      have h2 := of_decide_eq_true h2
      have hmem : s ∈ touchedOf (labOf p ts g m) p := by rw [hs]; exact List.mem_singleton.mpr rfl
      unfold touchedOf at hmem
      have hlen := of_decide_eq_true (List.mem_filter.mp hmem).2
      refine RM.ring_of (s := s) hm ev (fun x => decide (labOf p ts g m x = s)) (fun x _ => by rw [eL]) ?_ (fun k hk hb => ?_) ?_
      · rw [ep, ← piece_cnt]
        exact hlen
      · -- the piece of a tie is touched
        have hak := (netOf p ts g).al k hk
        have hbk := (netOf p ts g).bl k hk
        have e : labOf p ts g m ((netOf p ts g).b k) = labOf p ts g m ((netOf p ts g).a k) := (RM.labs_tie (S := fun k => m.testBit k) hk hb).symm
        have hr : labOf p ts g m (labOf p ts g m ((netOf p ts g).a k)) = labOf p ts g m ((netOf p ts g).a k) := RM.labs_root _ _
        have hlt : labOf p ts g m ((netOf p ts g).a k) < p := RM.labs_lt hak
        have ht : labOf p ts g m ((netOf p ts g).a k) ∈ touchedOf (labOf p ts g m) p := by
          unfold touchedOf rootsOf
          refine List.mem_filter.mpr ⟨List.mem_filter.mpr ⟨List.mem_range.mpr hlt, decide_eq_true hr⟩, decide_eq_true ?_⟩
          rw [piece_cnt]
          exact RM.two_cnt (u := (netOf p ts g).a k) (v := (netOf p ts g).b k) (decide_eq_true rfl) (decide_eq_true e) ((netOf p ts g).ne k hk) hak hbk
        rw [hs] at ht
        exact decide_eq_true (List.mem_singleton.mp ht)
      · rw [ep, ← piece_cnt, h2]
        exact ties_cnt hm
    · cases h2
  · intro r
    obtain ⟨k0, hk0, hb0, hall⟩ := RM.ring_piece hm r
    generalize hs : (netOf p ts g).labs (fun k => m.testBit k) (netOf p ts g).n ((netOf p ts g).a k0) = s at hall
    obtain ⟨h2, hl, solo⟩ := RM.ring_len (s := s) hm r (fun x => decide (labOf p ts g m x = s)) (fun x _ => by rw [eL]) (fun k hk hb => decide_eq_true (hall k hk hb))
    have hsp : s < p := by rw [← hs]; exact RM.labs_lt ((netOf p ts g).al k0 hk0)
    have hss : labOf p ts g m s = s := by rw [eL, ← hs]; exact RM.labs_root _ _
    have ht : touchedOf (labOf p ts g m) p = [s] := by
      unfold touchedOf rootsOf
      rw [List.filter_filter]
      refine filter_is hsp fun x hx => ?_
      by_cases e : x = s
      · subst e
        rw [decide_eq_true hss, piece_cnt, decide_eq_true rfl, Bool.and_true]
        exact decide_eq_true h2
      · rw [decide_eq_false e]
        by_cases hx2 : labOf p ts g m x = x
        · have hc : decide (labOf p ts g m x = s) = false := decide_eq_false (by rw [hx2]; exact e)
          obtain ⟨_, q⟩ := solo x hx hc
          have : ¬ 1 < (pieceOf (labOf p ts g m) p x).length := fun z => by
            rw [piece_cnt] at z
            obtain ⟨c, d, h1, _, h3, h4⟩ := RM.cnt_two z
            have h3 := q c (of_decide_eq_true h3)
            have h4 := q d (of_decide_eq_true h4)
            (first | lia | omega)
          rw [decide_eq_false this, Bool.false_and]
        · rw [decide_eq_false hx2, Bool.and_false]
    unfold ringB
    rw [decide_eq_true ((even_net g hm).mpr r.2.1), ht, Bool.true_and]
    refine decide_eq_true ?_
    rw [piece_cnt, ties_cnt hm]
    exact hl
theorem ringB_even {p : Nat} {ts : List Tie} {g : GoodWeb p ts} {m : Nat} (ev : oddOf p ts (m : Int) = []) : ringB p ts g m = oneB (labOf p ts g m) p (tiesOf (m : Int)).length (touchedOf (labOf p ts g m) p) := by
  unfold ringB
  rw [decide_eq_true ev, Bool.true_and]
def LstA (H : Hp) (y : V) (l : List Nat) : Prop := ∃ b, y = .ref b ∧ H b = some (.lst (natsV l))
def Sift (f : List Nat → Bool) (ls : List (List Nat)) (H : Hp) (D : Addr) (i : Nat) (acc : List V) (H2 : Hp) : Prop := Same H H2 ∧ H2 D = some (.lst acc) ∧ Paired (LstA H) acc ((ls.take i).filter f)
section
variable {f : List Nat → Bool} {ls : List (List Nat)} {H H2 H3 : Hp} {D : Addr} {i : Nat} {acc : List V} {y : V} {l : List Nat}
theorem Sift.start (hD : H D = none) : Sift f ls H D 0 [] (upd H D (.lst [])) := ⟨Same.new hD, upd_same, .nil⟩
theorem Sift.len (h : Sift f ls H D i acc H2) : H2 D = some (.lst acc) ∧ acc.length ≤ i := ⟨h.2.1, by
  rw [h.2.2.length]
  exact Nat.le_trans (List.length_filter_le _ _) (by rw [List.length_take]; (first | lia | omega))⟩
theorem Sift.yes (h : Sift f ls H D i acc H2) (hD : H D = none) (hl : ls[i]? = some l) (hf : f l = true) (hy : LstA H y l) : H2 D = some (.lst acc) ∧ Sift f ls H D (i + 1) (acc ++ [y]) (upd H2 D (.lst (acc ++ [y]))) := by
  refine ⟨h.2.1, h.1.put hD, upd_same, ?_⟩
  rw [List.take_add_one, hl, List.filter_append]
  show Paired _ _ (_ ++ List.filter f [l])
  rw [List.filter_cons, if_pos hf]
  exact Paired.snoc h.2.2 hy
theorem Sift.no (h : Sift f ls H D i acc H2) (hl : ls[i]? = some l) (hf : f l = false) : Sift f ls H D (i + 1) acc H2 := by
  refine ⟨h.1, h.2.1, ?_⟩
  rw [List.take_add_one, hl, List.filter_append]
  show Paired _ _ (_ ++ List.filter f [l])
  rw [List.filter_cons, if_neg (by rw [hf]; exact Bool.false_ne_true)]
  simpa using h.2.2
end
end Ring

namespace L2
open PySem PySem.Spec PyProof.Rows
section
variable {prog : Program} {w : World} {A : Around} {E : Value → Shared → Prop} {s : Shared}
end
open AutoSeq1 (wpAny_loadPart') in
section
variable {prog : Program} {w : World} {A : Around} {E : Value → Shared → Prop} {s : Shared}
end
section
variable {X : Cx} {elts : List Expr} {n : Nat} {tp : Pos}
end
section
variable {K : PySem.W.Frag} {a : Addr} {xs : List V} {g : TG} {tt : TT} {te : TE} {n : Nat} {fr : St} {D : Addr} {Q : Hp → Prop} {H1 : Hp}
end
end L2

namespace RM
variable {N : Net}
def Net.par (N : Net) (q m : Nat) : Bool := xsum (fun k => q.testBit k && m.testBit k) N.n
end RM

namespace Ring
def orM (ks : List Nat) : Nat := ks.foldl (fun m k => m ||| 2 ^ k) 0
theorem orM_from (ks : List Nat) (j : Nat) : ∀ m, (ks.foldl (fun m k => m ||| 2 ^ k) m).testBit j = (m.testBit j || decide (j ∈ ks)) := by
  induction ks with
  | nil => intro m; simp
  | cons k r ih =>
    intro m
    rw [List.foldl_cons, ih, Nat.testBit_or, Nat.testBit_two_pow]
    by_cases h : k = j
    · subst h
      simp
    · have h' : ¬ j = k := fun z => h z.symm
      simp [h, h']
theorem orM_bit (ks : List Nat) (j : Nat) : (orM ks).testBit j = decide (j ∈ ks) := by
  unfold orM
  rw [orM_from]
  simp
theorem orM_lt {ks : List Nat} {n : Nat} (h : ∀ k ∈ ks, k < n) : orM ks < 2 ^ n := RM.lt_of_bits fun k hk => by
  rw [orM_bit] at hk
  exact h k (of_decide_eq_true hk)
end Ring
namespace RM
variable {N : Net}
section
variable {even left v : Nat} {pre ks : List Nat}
end
end RM

namespace Ring
open PySem L2
def xorL (rs : List Nat) : Nat := rs.foldl (fun m r => m ^^^ r) 0
theorem xorL_from (rs : List Nat) : ∀ m, rs.foldl (fun m r => m ^^^ r) m = m ^^^ xorL rs := by
  induction rs with
  | nil => intro m; show m = m ^^^ 0; simp
  | cons r rs ih =>
    intro m
    show rs.foldl (fun m r => m ^^^ r) (m ^^^ r) = m ^^^ rs.foldl (fun m r => m ^^^ r) (0 ^^^ r)
    rw [ih, ih, Nat.zero_xor, Nat.xor_assoc]
theorem xorL_cons (rs : List Nat) (r : Nat) : xorL (r :: rs) = r ^^^ xorL rs := by
  show rs.foldl (fun m r => m ^^^ r) (0 ^^^ r) = _
  rw [xorL_from, Nat.zero_xor]
end Ring

namespace Ring
open PySem L2
end Ring

namespace L2
open PySem PySem.Spec PyProof.Rows

section
variable {κ : Type} [DecidableEq κ]
def valV (kvs : List (κ × V)) (k : κ) : Option V := (kvs.find? fun kv => decide (kv.1 = k)).map (·.2)
def putK (kvs : List (κ × V)) (k : κ) (v : V) : List (κ × V) :=
  if (kvs.any fun kv => decide (kv.1 = k)) = true then kvs.map (fun kv => if kv.1 = k then (kv.1, v) else kv) else kvs ++ [(k, v)]
theorem valV_pos {p : κ × V} {r : List (κ × V)} {k : κ} (e : p.1 = k) : valV (p :: r) k = some p.2 := by simp [valV, List.find?_cons, e]
theorem valV_neg {p : κ × V} {r : List (κ × V)} {k : κ} (e : ¬ p.1 = k) : valV (p :: r) k = valV r k := by simp [valV, List.find?_cons, e]
theorem valV_any (k : κ) : ∀ kvs : List (κ × V), (kvs.any fun kv => decide (kv.1 = k)) = (valV kvs k).isSome
  | [] => rfl
  | p :: r => by
    rw [List.any_cons]
    by_cases e : p.1 = k
    · simp only [valV_pos e, decide_eq_true e, Bool.true_or, Option.isSome_some]
    · rw [valV_neg e, decide_eq_false e, Bool.false_or]; exact valV_any k r
theorem length_putK (kvs : List (κ × V)) (k : κ) (v : V) : (putK kvs k v).length ≤ kvs.length + 1 := by
  unfold putK
  split
  · rw [List.length_map]; (first | lia | omega)
  · rw [List.length_append, List.length_cons, List.length_nil]; (first | lia | omega)
theorem RelO.isSome_eq {o : Option V} {u : Option Value} (r : RelO o u) : o.isSome = u.isSome := by
  cases o with
  | none => cases u with
    | none => rfl
    | some _ => exact (show False from r).elim
  | some _ => cases u with
    | none => exact (show False from r).elim
    | some _ => rfl
theorem RelO.getD {o : Option V} {u : Option Value} {d : V} {d' : Value} (r : RelO o u) (rd : RelV d d') : RelV (o.getD d) (u.getD d') := by
  cases o with
  | none => cases u with
    | none => exact rd
    | some _ => exact (show False from r).elim
  | some _ => cases u with
    | none => exact (show False from r).elim
    | some _ => exact r

theorem KV.val {kvs : List (κ × V)} {vs : List (κ × Value)} (r : KV kvs vs) (k : κ) : RelO (valV kvs k) (valueAt vs k) := by
  unfold KV at r
  induction r with
  | nil => exact True.intro
  | @cons p q ps qs h t ih =>
    obtain ⟨h1, h2⟩ := h
    by_cases e : p.1 = k
    · have e' : q.1 = k := h1.symm.trans e
      have b : valueAt (q :: qs) k = some q.2 := by simp [valueAt, List.find?_cons, e']
      rw [valV_pos e, b]; exact h2
    · have e' : ¬ q.1 = k := fun z => e (h1.trans z)
      have b : valueAt (q :: qs) k = valueAt qs k := by simp [valueAt, List.find?_cons, e']
      rw [valV_neg e, b]; exact ih
theorem KV.any {kvs : List (κ × V)} {vs : List (κ × Value)} (r : KV kvs vs) (k : κ) : (kvs.any fun kv => decide (kv.1 = k)) = vs.any fun kv => decide (kv.1 = k) := by
  unfold KV at r
  induction r with
  | nil => rfl
  | cons h t ih => rw [List.any_cons, List.any_cons, ih, h.1]
theorem KV.repl {kvs : List (κ × V)} {vs : List (κ × Value)} (r : KV kvs vs) (k : κ) {y : V} {u : Value} (ry : RelV y u) :
    KV (kvs.map fun kv => if kv.1 = k then (kv.1, y) else kv) (vs.map fun kv => if kv.1 = k then (kv.1, u) else kv) := by
  unfold KV at r ⊢
  induction r with
  | nil => exact .nil
  | @cons p q ps qs h t ih =>
    rw [List.map_cons, List.map_cons]
    refine .cons ?_ ih
    obtain ⟨h1, h2⟩ := h
    by_cases e : p.1 = k
    · rw [if_pos e, if_pos (h1.symm.trans e)]; exact ⟨h1, ry⟩
    · rw [if_neg e, if_neg (fun z => e (h1.trans z))]; exact ⟨h1, h2⟩
theorem KV.put {kvs : List (κ × V)} {vs : List (κ × Value)} (r : KV kvs vs) (k : κ) {y : V} {u : Value} (ry : RelV y u) : KV (putK kvs k y) (stored vs k u) := by
  unfold putK stored
  rw [r.any k]
  by_cases e : (vs.any fun kv => decide (kv.1 = k)) = true
  · rw [if_pos e, if_pos e]; exact r.repl k ry
  · rw [if_neg e, if_neg e]; exact Paired.snoc r ⟨rfl, ry⟩
theorem KV.length {kvs : List (κ × V)} {vs : List (κ × Value)} (r : KV kvs vs) : kvs.length = vs.length := Paired.length r
end


theorem kV_is {P : Program} {w : World} {k : Key} {u : Value} (r : RelV (kV k) u) : (mixKind P w).is k u = true := by
  cases k with
  | inl i => obtain ⟨t, e⟩ := (show ∃ t, u = Value.int i t from r); subst e; exact mixKind_int P w i t
  | inr x => obtain ⟨t, e⟩ := (show ∃ t, u = Value.str x t from r); subst e; exact mixKind_str P w x t
theorem items_are {P : Program} {w : World} : ∀ {ks : List Key} {us : List Value}, Vals (ks.map kV) us → ItemsAre (mixKind P w) ks us
  | [], _, r => by rw [List.map_nil] at r; cases r; exact .nil
  | k :: ks, _, r => by
    rw [List.map_cons] at r
    cases r with
    | cons h t => exact .cons (kV_is h) (items_are t)

abbrev KT (H : Hp) : List (List Key × V) → List (List Key × Addr × Value) → Prop := Paired fun p q => p.1 = q.1 ∧ H q.2.1 = some (.tup (p.1.map kV)) ∧ RelV p.2 q.2.2
theorem KT.val {H : Hp} {kvs : List (List Key × V)} {xs : List (List Key × Addr × Value)} (r : KT H kvs xs) (k : List Key) : RelO (valV kvs k) ((atKey xs k).map (·.2)) := by
  induction r with
  | nil => exact True.intro
  | @cons p q ps qs h t ih =>
    obtain ⟨h1, _, h2⟩ := h
    by_cases e : p.1 = k
    · have e' : q.1 = k := h1.symm.trans e
      have b : atKey (q :: qs) k = some q.2 := by simp [atKey, List.find?_cons, e']
      rw [valV_pos e, b]; exact h2
    · have e' : ¬ q.1 = k := fun z => e (h1.trans z)
      have b : atKey (q :: qs) k = atKey qs k := by simp [atKey, List.find?_cons, e']
      rw [valV_neg e, b]; exact ih
theorem KT.repl {H : Hp} {kvs : List (List Key × V)} {xs : List (List Key × Addr × Value)} (r : KT H kvs xs) (k : List Key) {y : V} {u : Value} (ry : RelV y u) :
    KT H (kvs.map fun kv => if kv.1 = k then (kv.1, y) else kv) (xs.map (putAt k u)) := by
  induction r with
  | nil => exact .nil
  | @cons p q ps qs h t ih =>
    rw [List.map_cons, List.map_cons]
    refine .cons ?_ ih
    obtain ⟨h1, h2, h3⟩ := h
    unfold putAt
    by_cases e : p.1 = k
    · rw [if_pos e, if_pos (h1.symm.trans e)]; exact ⟨h1, h2, ry⟩
    · rw [if_neg e, if_neg (fun z => e (h1.trans z))]; exact ⟨h1, h2, h3⟩
theorem KT.put {H : Hp} {kvs : List (List Key × V)} {xs : List (List Key × Addr × Value)} (r : KT H kvs xs) (k : List Key) {b : Addr} {y : V} {u : Value} (hb : H b = some (.tup (k.map kV))) (ry : RelV y u) :
    KT H (putK kvs k y) (storedH xs k b u) := by
  have e : (kvs.any fun kv => decide (kv.1 = k)) = (atKey xs k).isSome := by
    rw [valV_any, (r.val k).isSome_eq, Option.isSome_map]
  unfold putK storedH
  rw [e]
  by_cases q : (atKey xs k).isSome = true
  · rw [if_pos q, if_pos q]; exact r.repl k ry
  · rw [if_neg q, if_neg q]; exact Paired.snoc r ⟨rfl, hb, ry⟩
theorem KT.keeps {H H' : Hp} {kvs : List (List Key × V)} {xs : List (List Key × Addr × Value)} (r : KT H kvs xs) (ht : ∀ b ys, H b = some (.tup ys) → H' b = some (.tup ys)) : KT H' kvs xs :=
  Paired.mapP r fun _ _ z => ⟨z.1, ht _ _ z.2.1, z.2.2⟩

section
variable {P : Program} {w : World} {H : Hp} {h : Heap} {a : Addr}
theorem rd_of {u : HO} (ok : HOk P w H h) (e : Rd H a u) : ObjOk P w H h a u := e.ok ok
theorem dk_rd {kvs : List (Key × V)} (ok : HOk P w H h) (e : Rd H a (.dK kvs)) : kvs.length ≤ sizeLine ∧ (a == sysModules) = false ∧ ∃ vs, KV kvs vs ∧ h.DictOf (mixKind P w) a vs :=
  show ObjOk P w H h a (.dK kvs) from rd_of ok e
theorem dk_of {kvs : List (Key × V)} (ok : HOk P w H h) (e : H a = some (.dK kvs)) : kvs.length ≤ sizeLine ∧ (a == sysModules) = false ∧ ∃ vs, KV kvs vs ∧ h.DictOf (mixKind P w) a vs := dk_rd ok (.inl e)
theorem key_of {ks : List Key} (ok : HOk P w H h) (e : H a = some (.tup (ks.map kV))) : (tupleKind (mixKind P w)).is h ks a := by
  obtain ⟨_, its, r, o, h1, h2, n, h3⟩ := (show ObjOk P w H h a (.tup (ks.map kV)) from ok a _ e)
  exact ⟨o, its.toArray, n, h1, h2, h3, by simpa using items_are r⟩
theorem dt_rd {kvs : List (List Key × V)} (ok : HOk P w H h) (e : Rd H a (.dT kvs)) : kvs.length ≤ sizeLine ∧ (a == sysModules) = false ∧
    ∃ xs, KT H kvs xs ∧ h.DictOfH (tupleKind (mixKind P w)) a xs := by
  obtain ⟨z, y, xs, r, o, es, ep, h1, h2, h3, h4, h5⟩ := (show ObjOk P w H h a (.dT kvs) from rd_of ok e)
  refine ⟨z, y, xs, r, o, es, ep, h1, h2, h3, h4, fun x hx => ?_, h5⟩
  have all : ∀ {l : List (List Key × V)} {m : List (List Key × Addr × Value)}, KT H l m → ∀ x ∈ m, (tupleKind (mixKind P w)).is h x.1 x.2.1 := by
    intro l m q
    induction q with
    | nil => intro x hx; exact nomatch hx
    | @cons p q ps qs hq t ih =>
      intro x hx
      rcases List.mem_cons.mp hx with e | hx
      · subst e
        exact key_of ok (by rw [← hq.1]; exact hq.2.1)
      · exact ih x hx
  exact all r x hx
theorem dt_of {kvs : List (List Key × V)} (ok : HOk P w H h) (e : H a = some (.dT kvs)) : kvs.length ≤ sizeLine ∧ (a == sysModules) = false ∧
    ∃ xs, KT H kvs xs ∧ h.DictOfH (tupleKind (mixKind P w)) a xs := dt_rd ok (.inl e)
end

def DGet (H : Hp) (a : Addr) (y : V) (r : Option V) : Prop :=
  (∃ kvs k, Rd H a (.dK kvs) ∧ y = kV k ∧ r = valV kvs k) ∨ ∃ kvs k b, Rd H a (.dT kvs) ∧ y = .ref b ∧ H b = some (.tup (k.map kV)) ∧ r = valV kvs k
def DPut (H : Hp) (a : Addr) (y v : V) (H' : Hp) : Prop :=
  (∃ kvs k, H a = some (.dK kvs) ∧ y = kV k ∧ kvs.length < sizeLine ∧ H' = upd H a (.dK (putK kvs k v))) ∨
  ∃ kvs k b, H a = some (.dT kvs) ∧ y = .ref b ∧ H b = some (.tup (k.map kV)) ∧ kvs.length < sizeLine ∧ H' = upd H a (.dT (putK kvs k v))
theorem DGet.k {H : Hp} {a : Addr} {kvs : List (Key × V)} {k : Key} (e : H a = some (.dK kvs)) : DGet H a (kV k) (valV kvs k) := .inl ⟨kvs, k, .inl e, rfl, rfl⟩
theorem DPut.k {H : Hp} {a : Addr} {kvs : List (Key × V)} {k : Key} {v : V} (e : H a = some (.dK kvs)) (hl : kvs.length < sizeLine) : DPut H a (kV k) v (upd H a (.dK (putK kvs k v))) := .inl ⟨kvs, k, e, rfl, hl, rfl⟩
section
variable {X : Cx} {pins : List (Addr × Obj)} {σ : St} {H : Hp} {s : Shared} {a : Addr} {y v : V} {u r : Value} {o : Option V} {A : Around} {E : Value → Shared → Prop}

theorem Inv.big (I : Inv X pins σ H s) : sysModules < s.heap.objs.size := by
  have h : mainGlobals < s.heap.objs.size := (I.mod.glob.keeps I.bk).lt
  exact Nat.lt_trans (by decide) h

theorem d_getItem {Q : Value → Shared → Prop} (hu : A.units + 1 < cLine) (I : Inv X pins σ H s) (g : DGet H a y (some v)) (ry : RelV y u) (h : ∀ w' s', Inv X pins σ H s' → RelV v w' → Q w' s') :
    wpAny (model X.prog X.w) A (getItem (.ref a) u) Q E s := by
  rcases g with ⟨kvs, k, e, ey, l⟩ | ⟨kvs, k, b, e, ey, eb, l⟩
  · subst ey
    obtain ⟨z, hd, vs, rel, dd⟩ := dk_rd I.hok e
    obtain ⟨w', hw, rw'⟩ := RelO.some_of (v := v) (o := valueAt vs k) (by rw [l]; exact rel.val k)
    exact wpAny_getItem_of (kV_is ry) dd.mapOf hw (h w' _ (I.tok _) rw')
  · subst ey
    cases (show u = Value.ref b from ry)
    obtain ⟨z, hd, xs, rel, dd⟩ := dt_rd I.hok e
    obtain ⟨w', hw, rw'⟩ := RelO.some_of (v := v) (o := (atKey xs k).map (·.2)) (by rw [l]; exact rel.val k)
    obtain ⟨p, hp, hp2⟩ := Option.map_eq_some_iff.mp hw
    refine wpAny_getItem_heap (tupleKind_room_in1 hu) (key_of I.hok eb) dd hp ?_
    rw [hp2]
    exact h w' _ (I.tok _) rw'
theorem d_notIn {Q : Value → Shared → Prop} (hu : A.units + 1 < cLine) (I : Inv X pins σ H s) (g : DGet H a y o) (ry : RelV y u) (h : ∀ s', Inv X pins σ H s' → Q (.bool (!o.isSome)) s') :
    wpAny (model X.prog X.w) A (compareOp .NotIn u (.ref a)) Q E s := by
  rcases g with ⟨kvs, k, e, ey, l⟩ | ⟨kvs, k, b, e, ey, eb, l⟩
  · subst ey
    obtain ⟨z, hd, vs, rel, dd⟩ := dk_rd I.hok e
    refine wpAny_notIn_of (kV_is ry) hd dd.mapOf ?_
    rw [← (rel.val k).isSome_eq, ← l]
    exact h _ (I.tok _)
  · subst ey
    cases (show u = Value.ref b from ry)
    obtain ⟨z, hd, xs, rel, dd⟩ := dt_rd I.hok e
    refine wpAny_notIn_heap (tupleKind_room_in1 hu) (key_of I.hok eb) hd dd ?_
    have q := (rel.val k).isSome_eq
    rw [Option.isSome_map] at q
    rw [← q, ← l]
    exact h _ (I.tok _)
theorem d_write {h' : Heap} {t' : Nat} {ob : HO} (I : Inv X pins σ H s) (mu : Mut (H a)) (hs : Heap.SameBut a s.heap h') (he : ∃ q, h'.get? a = some q) (new : ObjOk X.prog X.w (upd H a ob) h' a ob) :
    Inv X pins σ (upd H a ob) { s with heap := h', toks := t' } :=
  I.write (x := a) (e := a) mu (.inl rfl) (fun b q hb z => (hs.2 b hb).trans z) he new
theorem dk_new {P : Program} {w : World} {H' : Hp} {h' : Heap} {kvs : List (Key × V)} {vs : List (Key × Value)} (z : kvs.length ≤ sizeLine) (hd : (a == sysModules) = false) (rel : KV kvs vs) (dd : h'.DictOf (mixKind P w) a vs) :
    ObjOk P w H' h' a (.dK kvs) := ⟨z, hd, vs, rel, dd⟩
theorem d_setItem {H' : Hp} {Q : Unit → Shared → Prop} (hu : A.units + 1 < cLine) (I : Inv X pins σ H s) (g : DPut H a y v H') (ry : RelV y u) (rv : RelV v r) (h : ∀ s', Inv X pins σ H' s' → Q () s') :
    wpAny (model X.prog X.w) A (setItem (.ref a) u r) Q E s := by
  rcases g with ⟨kvs, k, e, ey, l, eH⟩ | ⟨kvs, k, b, e, ey, eb, l, eH⟩
  · subst ey eH
    obtain ⟨z, hd, vs, rel, dd⟩ := dk_of I.hok e
    have hz : vs.length ≤ sizeLine := by rw [← rel.length]; exact z
    have hl : (putK kvs k v).length ≤ sizeLine := by have := length_putK kvs k v; (first | lia | omega)
    refine wpAny_setItem_pairs (hsz := hz) (kV_is ry) dd fun h' dd' hs => h _ ?_
    have he : ∃ q, h'.get? a = some q := let ⟨q, _, _, hq, _⟩ := dd'; ⟨q, hq⟩
    exact d_write I (by rw [e]; exact True.intro) hs he (dk_new hl hd (rel.put k rv) dd')
  · subst ey eH
    cases (show u = Value.ref b from ry)
    obtain ⟨z, hd, xs, rel, dd⟩ := dt_of I.hok e
    have hz : xs.length ≤ sizeLine := by rw [← Paired.length rel]; exact z
    have hl : (putK kvs k v).length ≤ sizeLine := by have := length_putK kvs k v; (first | lia | omega)
    refine wpAny_setItem_heap (hsz := hz) (tupleKind_room_in1 hu) (key_of I.hok eb) dd fun h' dd' hs => h _ ?_
    obtain ⟨q, es, ep, hq, h2, h3, h4, _, h5⟩ := dd'
    refine d_write I (by rw [e]; exact True.intro) hs ⟨q, hq⟩ ⟨hl, hd, _, (rel.put k eb rv).keeps fun c ys ec => ?_, q, es, ep, hq, h2, h3, h4, h5⟩
    rw [upd_ne (ne_of ec e (fun z => nomatch z))]
    exact ec
end

section
variable {X : Cx} {pins : List (Addr × Obj)} {σ : St} {H : Hp} {s : Shared} {a : Addr} {kvs : List (Key × V)} {k : Key} {u : Value} {A : Around} {E : Value → Shared → Prop}
end


def NoSl (i : Expr) : Prop := ∀ ov iv, subscripted i false ov iv = operate [ov, iv] (getItem ov iv)
theorem subD_of {prog : Program} {w : World} {A : Around} {E : Value → Shared → Prop} {s : Shared} {env : Env} {value slice : Expr} {pos : Pos} {T id : String} {Q : Value → Shared → Prop}
    (hl : typeLookup (.type T) "__getitem__" = pure (some (.builtin id))) (hs : NoSl slice)
    (h : wpAny (model prog w) A (eval value env) (fun o s₁ => wpAny (model prog w) A (eval slice env) (fun i s₂ => s₂.TypeIs o T ∧ wpAny (model prog w) A (getItem o i) Q E s₂) E s₁) E s) :
    wpAny (model prog w) A (eval (.Subscript value slice pos) env) Q E s := by
  refine Subscript_ (wpAny_mono h (fun o s₁ h₁ => wpAny_mono h₁ (fun i s₂ h₂ => ?_) fun _ _ x => x) fun _ _ x => x)
  obtain ⟨hT, h₂⟩ := h₂
  unfold subscriptTail
  refine wpAny_bind ?_
  rw [getitemInPython_of_ne hT.not_modules]
  refine wpAny_bind (wpAny_specialOf hT hl ?_)
  have fin : wpAny (model prog w) A (subscripted slice false o i) (fun r s₃ => wpAny (model prog w) A (letTemporaryGo value o r >>= fun _ => pure r) Q E s₃) E s₂ := by
    rw [hs o i]
    exact wpAny_operating (wpAny_mono h₂ (fun r s₃ h₃ => wpAny_bind (wpAny_letTemporaryGo (wpAny_pure h₃))) fun _ _ x => x)
  first
    | exact wpAny_pure (wpAny_bind fin)
    | exact wpAny_bind (wpAny_pure (wpAny_bind fin))
    | exact wpAny_bind fin

theorem dict_typeIs {X : Cx} {pins : List (Addr × Obj)} {σ : St} {H : Hp} {s : Shared} {a : Addr} {y : V} {o : Option V} (I : Inv X pins σ H s) (g : DGet H a y o) : s.TypeIs (.ref a) "dict" := by
  rcases g with ⟨kvs, k, e, _, _⟩ | ⟨kvs, k, b, e, _, _, _⟩
  · obtain ⟨_, _, vs, _, dd⟩ := dk_rd I.hok e
    exact dd.typeIs
  · obtain ⟨_, _, xs, _, dd⟩ := dt_rd I.hok e
    exact dd.typeIs
def tDGet (td ty : TE) : TE := fun σ H Q => td σ H fun x H1 => ty σ H1 fun y H2 => ∃ a v, x = .ref a ∧ DGet H2 a y (some v) ∧ Q v H2
def tDNotIn (ty td : TE) : TE := fun σ H Q => ty σ H fun y H1 => td σ H1 fun x H2 => ∃ a o, x = .ref a ∧ DGet H2 a y o ∧ Q (.bl (!o.isSome)) H2
def sDPut (td ty tv : TE) : TS := fun D σ H => tv σ H fun v H1 => td σ H1 fun x H2 => ty σ H2 fun y H3 => ∃ a H4, x = .ref a ∧ DPut H3 a y v H4 ∧ D.nx σ H4
section
variable {X : Cx} {o i e value : Expr} {pos pos' tpos : Pos} {td ty tv : TE}
theorem pe_dget (hu : X.A.units + 1 < cLine) (ho : PE X o td) (hi : PE X i ty) (hs : NoSl i) : PE X (.Subscript o i pos) (tDGet td ty) := by
  intro pins s σ H Q I h
  refine subD_of PySem.F.slot_dict_getitem.lookup hs (thn (ho pins s σ H _ I h) fun u s1 ⟨x, H1, I1, rx, q1⟩ => thn (hi pins s1 σ H1 _ I1 q1) fun iv s2 ⟨y, H2, I2, ry, a, v, ex, g, q2⟩ => ?_)
  subst ex
  obtain rfl : u = Value.ref a := rx
  exact ⟨dict_typeIs I2 g, d_getItem hu I2 g ry fun w' s3 I3 rw' => ⟨v, H2, I3, rw', q2⟩⟩
theorem pc_dnotin (hu : X.A.units + 1 < cLine) (hi : PE X i ty) (ho : PE X o td) : PC X .NotIn i o (tDNotIn ty td) := by
  intro pins s σ H Q I h
  refine thn (hi pins s σ H _ I h) fun iv s1 ⟨y, H1, I1, ry, q1⟩ => thn (ho pins s1 σ H1 _ I1 q1) fun u s2 ⟨x, H2, I2, rx, a, ov, ex, g, q2⟩ => ?_
  subst ex
  obtain rfl : u = Value.ref a := rx
  exact d_notIn hu I2 g ry fun s3 I3 => ⟨.bl (!ov.isSome), H2, I3, rfl, q2⟩
theorem ps_dput (hu : X.A.units + 1 < cLine) (ho : PE X o td) (hi : PE X i ty) (hv : PE X value tv) (hs : swapsWith value (some (.Subscript o i pos')) pos.line X.env = pure false) :
    PS X (.Assign [.Subscript o i pos'] value pos) (sDPut td ty tv) := by
  intro pins s σ H D I h
  refine wpAny_Assign_Subscript (thn (hv pins s σ H _ I h) fun r s1 ⟨v, H1, I1, rv, q1⟩ => thn (ho pins s1 σ H1 _ I1 q1) fun u s2 ⟨x, H2, I2, rx, q2⟩ => thn (hi pins s2 σ H2 _ I2 q2) fun iv s3 ⟨y, H3, I3, ry, a, H4, ex, g, q3⟩ => ?_) hs
  subst ex
  obtain rfl : u = Value.ref a := rx
  exact d_setItem hu I3 g ry rv fun s4 I4 => ⟨σ, H4, I4, q3⟩
end


theorem dk_empty {P : Program} {w : World} {H : Hp} (h : Heap) (hb : sysModules < h.objs.size) : ObjOk P w H (h.push { cls := .type "dict", data := .dict #[] }) h.objs.size (.dK []) :=
  ⟨Nat.zero_le _, beq_eq_false_iff_ne.mpr (Ne.symm (Nat.ne_of_lt hb)), [], .nil, Heap.DictOf.new h⟩
section
variable {X : Cx} {pos : Pos}
end

def tPairs : List (TE × TE) → St → Hp → (List (V × V) → Hp → Prop) → Prop
  | [], _, H, Q => Q [] H
  | (tk, tv) :: r, σ, H, Q => tk σ H fun x H1 => tv σ H1 fun y H2 => tPairs r σ H2 fun ps H3 => Q ((x, y) :: ps) H3
abbrev VV : List (V × V) → List (Value × Value) → Prop := Paired fun p q => RelV p.1 q.1 ∧ RelV p.2 q.2
def PPs (X : Cx) (pos : Pos) (keys : List (Option Expr)) (values : List Expr) (trs : List (TE × TE)) : Prop :=
  ∀ (pins : List (Addr × Obj)) (s : Shared) (σ : St) (H : Hp) (Q : List (V × V) → Hp → Prop), Inv X pins σ H s → tPairs trs σ H Q →
    wpAny (model X.prog X.w) X.A (evalPairs (pairTrees keys values X.env pos)) (fun vs s' => ∃ ps H', Inv X pins σ H' s' ∧ VV ps vs ∧ Q ps H') X.xe s
theorem pps_nil {X : Cx} {pos : Pos} : PPs X pos [] [] [] := fun pins s σ H Q I h => pairTrees_nil_walk ⟨[], H, I, .nil, h⟩
theorem pps_cons {X : Cx} {pos : Pos} {k v : Expr} {ks : List (Option Expr)} {vs : List Expr} {tk tv : TE} {trs : List (TE × TE)} (hk : PE X k tk) (hv : PE X v tv) (hr : PPs X pos ks vs trs) :
    PPs X pos (some k :: ks) (v :: vs) ((tk, tv) :: trs) := fun pins s σ H Q I h =>
  pairTrees_cons_walk (thn (hk pins s σ H _ I h) fun u s1 ⟨x, H1, I1, rx, q1⟩ => thn (hv pins s1 σ H1 _ I1 q1) fun w2 s2 ⟨y, H2, I2, ry, q2⟩ =>
    thn (hr pins s2 σ H2 _ I2 q2) fun ws s3 ⟨ps, H3, I3, rel, q3⟩ => ⟨(x, y) :: ps, H3, I3, .cons ⟨rx, ry⟩ rel, q3⟩)

def mergeK (kvs more : List (Key × V)) : List (Key × V) := more.foldl (fun acc kv => putK acc kv.1 kv.2) kvs
theorem KV.merge : ∀ {more : List (Key × V)} {rs : List (Key × Value)} {kvs : List (Key × V)} {vs : List (Key × Value)}, KV more rs → KV kvs vs → KV (mergeK kvs more) (merged vs rs) := by
  intro more rs kvs vs r
  unfold KV at r
  induction r generalizing kvs vs with
  | nil => intro q; exact q
  | @cons p q ps qs h t ih =>
    intro r0
    have e : KV (putK kvs p.1 p.2) (stored vs q.1 q.2) := by
      have := r0.put p.1 h.2
      rw [← h.1]; exact this
    exact ih e
theorem length_mergeK : ∀ (more kvs : List (Key × V)), (mergeK kvs more).length ≤ kvs.length + more.length
  | [], kvs => by show kvs.length ≤ kvs.length + 0; (first | lia | omega)
  | p :: r, kvs => by
    have h1 := length_mergeK r (putK kvs p.1 p.2)
    have h2 := length_putK kvs p.1 p.2
    show (mergeK (putK kvs p.1 p.2) r).length ≤ _
    rw [List.length_cons]; (first | lia | omega)
theorem carries_of {P : Program} {w : World} : ∀ {kvs : List (Key × V)} {ws : List (Value × Value)}, VV (kvs.map fun kv => (kV kv.1, kv.2)) ws → ∃ rs, Carries (mixKind P w) ws rs ∧ KV kvs rs
  | [], _, r => by rw [List.map_nil] at r; cases r; exact ⟨[], True.intro, .nil⟩
  | p :: kvs, _, r => by
    rw [List.map_cons] at r
    cases r with
    | @cons a b as bs h t =>
      obtain ⟨rs, c, q⟩ := carries_of (P := P) (w := w) t
      obtain ⟨b1, b2⟩ := b
      exact ⟨(p.1, b2) :: rs, ⟨kV_is h.1, rfl, c⟩, .cons ⟨rfl, h.2⟩ q⟩
def tDisp (trs : List (TE × TE)) : TE := fun σ H Q => ∀ p, H p = none → tPairs trs σ (upd H p (.dK [])) fun ps H2 => H2 p = some (.dK []) ∧ ∃ kvs : List (Key × V), ps = kvs.map (fun kv => (kV kv.1, kv.2)) ∧ kvs.length ≤ 15 ∧ Q (.ref p) (upd H2 p (.dK (mergeK [] kvs)))
theorem pe_disp {X : Cx} {pos : Pos} {keys : List (Option Expr)} {values : List Expr} {trs : List (TE × TE)} (h : PPs X pos keys values trs) (hall : keys.all (·.isSome) = true) (hl : keys.length = values.length) (h0 : keys ≠ [])
    (h15 : keys.length ≤ 15) : PE X (.Dict keys values pos) (tDisp trs) := by
  intro pins s σ H Q I q
  have hn := I.hok.fresh (Nat.le_refl s.heap.objs.size)
  have I1 := I.laid (a := s.heap.objs.size) (o := .dK []) (h' := s.heap.push { cls := .type "dict", data := .dict #[] }) (t' := s.toks) (fun _ _ q => Heap.get?_push_of_some _ q) (Nat.le_refl _) (dk_empty s.heap I.big)
  refine wpAny_Dict_walk (knd := mixKind X.prog X.w) hall hl h0 h15 (thn (h pins _ σ _ _ I1 (q _ hn)) fun ws s2 ⟨ps, H2, I2, rel, e, kvs, ep, lk, q2⟩ => ?_)
  subst ep
  obtain ⟨rs, c, rk⟩ := carries_of (P := X.prog) (w := X.w) rel
  obtain ⟨z, hd, vs0, r0, dd⟩ := dk_of I2.hok e
  cases r0
  refine ⟨rs, c, dd, fun h' dd' hs => ⟨.ref s.heap.objs.size, _, ?_, rfl, q2⟩⟩
  have hz : (mergeK [] kvs).length ≤ sizeLine := by
    have h1 := length_mergeK kvs []
    rw [List.length_nil] at h1
    rw [sizeLine_eq]; (first | lia | omega)
  have he : ∃ q, h'.get? s.heap.objs.size = some q := let ⟨q, _, _, hq, _⟩ := dd'; ⟨q, hq⟩
  exact d_write I2 (by rw [e]; exact True.intro) hs he (dk_new hz hd (rk.merge .nil) dd')


structure M1 (X : Cx) (o : Expr) (m : Str) (apos : Pos) (e : Expr) (cpos : Pos) : Prop where
  base : attributeBase o m X.env (eval o X.env) = eval o X.env
  few : ((backTo cpos (starEach [e] X.env)).all (fun x => !x.1) && (backToKw cpos (keywordEach [] X.env)).all (fun x => x.1.isSome)
    && decide (([e] : List Expr).length + ([] : List Keyword).length + (if ([] : List Keyword).isEmpty then 0 else 1) < 30)) = true
  line : (apos.endLine == cpos.line) = true
  trees : backTo cpos (starEach [e] X.env) = [(false, eval e X.env)]
def IsD (H : Hp) (a : Addr) : Prop := (∃ kvs, Rd H a (.dK kvs)) ∨ ∃ kvs, Rd H a (.dT kvs)
theorem isD_at {X : Cx} {pins : List (Addr × Obj)} {σ : St} {H : Hp} {s : Shared} {a : Addr} (I : Inv X pins σ H s) (d : IsD H a) :
    s.TypeIs (.ref a) "dict" ∧ (∀ b, Value.ref a = .ref b → ∃ ob, s.heap.get? b = some ob ∧ ob.dict = none) ∧ (a == sysModules) = false := by
  rcases d with ⟨kvs, e⟩ | ⟨kvs, e⟩
  · obtain ⟨_, hd, vs, _, dd⟩ := dk_rd I.hok e
    refine ⟨dd.typeIs, fun b q => ?_, hd⟩
    cases q
    obtain ⟨ob, _, _, h1, h2, _⟩ := dd
    exact ⟨ob, h1, h2.2.1⟩
  · obtain ⟨_, hd, xs, _, dd⟩ := dt_rd I.hok e
    refine ⟨dd.typeIs, fun b q => ?_, hd⟩
    cases q
    obtain ⟨ob, _, _, h1, h2, _⟩ := dd
    exact ⟨ob, h1, h2.2.1⟩

section
variable {X : Cx} {pins : List (Addr × Obj)} {σ : St} {H : Hp} {s : Shared} {a : Addr} {y d : V} {u r : Value} {o : Option V} {A : Around} {E : Value → Shared → Prop}
theorem d_get1 {Q : Value → Shared → Prop} (hu : A.units + 1 < cLine) (I : Inv X pins σ H s) (g : DGet H a y o) (ry : RelV y u) (h : ∀ w' s', Inv X pins σ H s' → RelV (o.getD .non) w' → Q w' s') :
    wpAny (model X.prog X.w) A (call (.builtin "dict.get") [.ref a, u]) Q E s := by
  rcases g with ⟨kvs, k, e, ey, l⟩ | ⟨kvs, k, b, e, ey, eb, l⟩
  · subst ey
    obtain ⟨z, hd, vs, rel, dd⟩ := dk_rd I.hok e
    refine call_meetsIn PySem.F.slot_dict_get dd.typeIs PySem.F.entry_dict_get (PySem.F.args_dict_get_2 _ _) (meets_dict_get (mixKind X.prog X.w) a (kV_is ry) hd) ⟨_, dd.mapOf, h _ _ (I.tok _) ?_⟩
    rw [l]
    exact (rel.val k).getD rfl
  · subst ey
    cases (show u = Value.ref b from ry)
    obtain ⟨z, hd, xs, rel, dd⟩ := dt_rd I.hok e
    refine call_meetsIn PySem.F.slot_dict_get dd.typeIs PySem.F.entry_dict_get (PySem.F.args_dict_get_2 _ _) (meetsH_dict_get (tupleKind (mixKind X.prog X.w)) a b hd) ⟨tupleKind_room_in1 hu, k, xs, key_of I.hok eb, dd, h _ _ (I.tok _) ?_⟩
    rw [l]
    exact (rel.val k).getD rfl
end

def tDGet1 (td ty : TE) : TE := fun σ H Q => td σ H fun x H1 => ∃ a, x = .ref a ∧ IsD H1 a ∧ ty σ H1 fun y H2 => ∃ o, DGet H2 a y o ∧ Q (o.getD .non) H2
section
variable {X : Cx} {o e f : Expr} {apos cpos : Pos} {td ty tx : TE}
theorem pe_dget1 (hu : X.A.units + 1 < cLine) (ho : PE X o td) (he : PE X e ty) (m : M1 X o "get" apos e cpos) : PE X (.Call (.Attribute o "get" apos) [e] [] cpos) (tDGet1 td ty) := by
  intro pins s σ H Q I h
  refine wpAny_Call_method m.base m.few m.line PySem.F.plainAttrs_dict PySem.F.slot_dict_get PySem.F.type_dict_get (thn (ho pins s σ H _ I h) fun u s1 ⟨x, H1, I1, rx, a, ex, d, q1⟩ => ?_)
  subst ex
  obtain rfl : u = Value.ref a := rx
  obtain ⟨t1, t2, _⟩ := isD_at I1 d
  refine ⟨t1, t2, ?_⟩
  rw [m.trees]
  refine Calls.callWith_builtin rfl (Calls.evalArgs_plain (Calls.spliced_cons (thn (he pins s1 σ H1 _ I1 q1) fun iv s2 ⟨y, H2, I2, ry, ov, g, q2⟩ => Calls.spliced_nil ?_)))
  exact d_get1 hu I2 g ry fun w' s3 I3 rw' => ⟨_, H2, I3, rw', q2⟩
end

section
variable {X : Cx} {pins : List (Addr × Obj)} {σ : St} {H : Hp} {s : Shared} {a : Addr} {kvs : List (Key × V)} {A : Around} {E : Value → Shared → Prop}
end


section
variable {X : Cx} {pins : List (Addr × Obj)} {σ : St} {H : Hp} {s : Shared} {a : Addr} {y : V} {u : Value} {A : Around} {E : Value → Shared → Prop}
end
end L2
namespace L2
open PySem PySem.Spec PyProof.Rows
section
variable {X : Cx}
end
section
variable {κ : Type} [DecidableEq κ]
end
end L2

namespace L2
open PySem PySem.Spec PyProof.Rows
section
variable {prog : Program} {w : World} {A : Around} {E : Value → Shared → Prop} {s : Shared} {T : String} {r d : Addr} {n : Nat} {P : Nat → Value → Prop} {OK : Heap → Prop}
end
section
variable {X : Cx}
end
end L2

namespace Ring
open PySem L2
section
variable {p f n : Nat} {m m' : Held} {hs : List (Nat × Held)} {ds : List Deed} {t : Tie}
end
section
variable {H H' : Hp} {a b : Addr} {p f n : Nat} {m m' : Held} {es : List Ent} {t : Tie}
end
section
variable {n f : Nat} {d q : Addr}
end
section
variable {C p d q L : Addr} {H H' H2 : Hp} {n : Nat} {hs : List (Nat × Held)} {ds : List Deed} {xs ys : List V} {x : V} {r : Nat × Held}
end
section
variable {K : PySem.W.Frag}
end
end Ring

namespace L2
open PySem PySem.Spec PyProof.Rows
section
variable {X : Cx} {pins : List (Addr × Obj)} {σ : St} {H : Hp} {s : Shared}
end
section
variable {X : Cx} {tg : Expr}
end
end L2

namespace RM
variable {N : Net}
end RM

namespace Ring
open PySem L2
section
variable {p : Nat} {ts : List Tie} {g : GoodWeb p ts}
end
section
variable (p : Nat) (ts : List Tie) (g : GoodWeb p ts)
end
section
variable {p : Nat} {ts : List Tie} {g : GoodWeb p ts} {H H' : Hp} {kvs : List (Key × V)} {zs : List Nat}
end
end Ring

namespace L2
open PySem PySem.Spec PyProof.Rows
end L2

namespace Ring
end Ring

namespace Ring
open PySem L2
end Ring
namespace Ring
open PySem L2
end Ring

namespace Ring
open PySem L2
end Ring

namespace L2
open PySem PySem.Spec PyProof.Rows
section
variable {X : Cx}
end

section
variable {X : Cx} {elt iter tg : Expr} {ifs : List Expr} {scope : Scope} {xc : Str} {pos : Pos} {own frees : List Str} {js : List Nat} {wi : TI} {g : TG} {tt : TT} {te : TE}
end

end L2

namespace L2
open PySem PySem.Spec PyProof.Rows
section
variable {X : Cx} {E : XK} {pins : List (Addr × Obj)} {σ : St} {H : Hp} {s : Shared} {N : List Str} {scope : Scope} {C : Addr} {fp : List Addr}
end
section
variable {X : Cx} {EE : XK} {elt iter tg : Expr} {ifs : List Expr} {scope : Scope} {pos : Pos} {own frees : List Str} {js : List Nat} {wi : TI} {g : TG} {tt : TT} {te : TE}
end
end L2

namespace L2
open PySem PySem.Spec PyProof.Rows
section
variable {X : Cx}
end
end L2

namespace L2
open PySem PySem.Spec PyProof.Rows
end L2
namespace Ring
open PySem L2
end Ring

namespace L2
open PySem PySem.Spec PyProof.Rows
end L2

namespace RM
variable {N : Net} {m t0 : Nat}
end RM

namespace RM
variable {N : Net} {m t0 : Nat}
def Net.D2 (N : Net) (m : Nat) : Prop := ∀ x, x < N.p → N.dg m x = 0 ∨ N.dg m x = 2
theorem D2.even (h : N.D2 m) : N.Even m := fun x hx => by
  rw [bd_dg]
  refine decide_eq_false ?_
  rcases h x hx with e | e <;> (first | lia | omega)
theorem sm_two (C : Nat → Bool) : ∀ n, sm (fun x => if C x = true then 2 else 0) n = 2 * cnt C n := fun n => by
  rw [cnt_sm]
  have : sm (fun k => if C k = true then 2 else 0) n = sm (fun k => (if C k = true then 1 else 0) + (if C k = true then 1 else 0)) n := sm_congr fun k _ => by
    by_cases h : C k = true
    · rw [if_pos h, if_pos h]
    · rw [if_neg h, if_neg h]
  rw [this, sm_add]
  (first | lia | omega)
theorem ring_d2 (hm : m < 2 ^ N.n) (r : N.Ring m) : N.D2 m := by
  obtain ⟨k0, hk0, hb0, hall⟩ := ring_piece hm r
  generalize hs : N.labs (fun k => m.testBit k) N.n (N.a k0) = s at hall
  have hC : ∀ x, x < N.p → (fun x => decide (N.labs (fun k => m.testBit k) N.n x = s)) x = decide (N.labs (fun k => m.testBit k) N.n x = s) := fun x _ => rfl
  obtain ⟨h2, hl, solo⟩ := ring_len (s := s) hm r _ hC (fun k hk hb => decide_eq_true (hall k hk hb))
  generalize hCC : (fun x => decide (N.labs (fun k => m.testBit k) N.n x = s)) = C at hC h2 hl solo
  have none : ∀ x, x < N.p → C x = false → N.dg m x = 0 := fun x hx hc => by
    cases hz : N.dg m x with
    | zero => rfl
    | succ d =>
      exfalso
      obtain ⟨k, hk, hb, hx2⟩ := dg_some (N := N) (m := m) (x := x) (by (first | lia | omega))
      rw [hC x hx] at hc
      refine of_decide_eq_false hc ?_
      rcases hx2 with e | e
      · rw [← e]
        exact hall k hk hb
      · rw [← e, ← labs_tie (S := fun k => m.testBit k) hk hb]
        exact hall k hk hb
  have pos : ∀ x, x < N.p → C x = true → 0 < N.dg m x := fun x hx hc => by
    cases hz : N.dg m x with
    | succ d => (first | lia | omega)
    | zero =>
      exfalso
      obtain ⟨y, hy, hcy, hne⟩ : ∃ y, y < N.p ∧ C y = true ∧ y ≠ x := by
        obtain ⟨c, d, h1, h3, h4, h5⟩ := cnt_two h2
        by_cases e : c = x
        · exact ⟨d, h3, h5, by (first | lia | omega)⟩
        · exact ⟨c, by (first | lia | omega), h4, e⟩
      rw [hC x hx] at hc
      rw [hC y hy] at hcy
      exact hne (alone hz (labs_conn _ _ _ ((of_decide_eq_true hc).trans (of_decide_eq_true hcy).symm)))
  have hle : ∀ x, x < N.p → (if C x = true then 2 else 0) ≤ N.dg m x := fun x hx => by
    by_cases hc : C x = true
    · rw [if_pos hc]
      have h1 := pos x hx hc
      have h3 := even_dg r.2.1 hx
      (first | lia | omega)
    · rw [if_neg hc]
      exact Nat.zero_le _
  have he : sm (fun x => if C x = true then 2 else 0) N.p = sm (fun x => N.dg m x) N.p := by
    rw [sm_two, dg_sum, hl]
  intro x hx
  have := sm_eq hle he x hx
  by_cases hc : C x = true
  · rw [if_pos hc] at this
    exact .inr this.symm
  · rw [if_neg hc] at this
    exact .inl this.symm
end RM

namespace Ring
open PySem L2
theorem tie_in {H : Hp} {xs : List V} {p : Nat} {ts : List Tie} {g : GoodWeb p ts} {k : Nat} (h3 : Paired (TupAt H) xs ts) (hk : k < ts.length) : ∃ c, xs[k]? = some (.ref c) ∧ H c = some (.tup [.int (((netOf p ts g).a k : Nat) : Int), .int (((netOf p ts g).b k : Nat) : Int), .int (tieAt ts k).2.2]) := by
  have hkx : k < xs.length := by rw [h3.length]; exact hk
  obtain ⟨t, ht, c, hc, hct⟩ := Paired.getP h3 (i := k) (x := xs[k]) (by simp [hkx])
  have htt : t = tieAt ts k := by
    have z := tieAt_get hk
    rw [ht] at z
    exact Option.some.inj z
  refine ⟨c, by rw [← hc]; simp [hkx], ?_⟩
  rw [hct, ← net_a hk, ← net_b hk, htt]
  rfl
section
variable {α : Type} {f : α → Int} {l : List α} {H H2 H3 : Hp} {D : Addr} {i : Nat} {k : α} {acc : List V} {v : V}
end
end Ring

namespace RM
variable {N : Net} {row : Nat → Int}
end RM

namespace Ring
open PySem L2
section
variable {H H2 H3 : Hp} {D : Addr} {i : Nat} {acc : List V}
end
end Ring

namespace RM
variable {N : Net} {row : Nat → Int}
end RM

namespace RM
variable {N : Net} {row row' : Nat → Int}
variable {N' : Net}
end RM

namespace RM
variable {N : Net} {m t0 : Nat}
end RM

namespace RM
variable {N : Net}
theorem bd_off {m x : Nat} (h : ∀ k, k < N.n → m.testBit k = true → N.a k ≠ x ∧ N.b k ≠ x) : N.bd m x = false := by
  unfold Net.bd
  have e : xsum (fun k => m.testBit k && N.inc k x) N.n = xsum (fun _ => false) N.n := by
    refine xsum_congr fun k hk => ?_
    cases hb : m.testBit k with
    | false => rfl
    | true =>
      obtain ⟨h1, h2⟩ := h k hk hb
      unfold Net.inc
      rw [decide_eq_false h1, decide_eq_false h2]
      rfl
  rw [e]
  exact xsum_false _
end RM

namespace RM
variable {N : Net}
section
variable {even left v : Nat} {pre ks : List Nat}
end
section
variable {m left : Nat} {rs : List Nat}
end
end RM

namespace RM
variable {N : Net}
theorem d2_one {m x0 : Nat} (hm : m < 2 ^ N.n) (d2 : N.D2 m) (hx0 : x0 < N.p) (hd0 : N.dg m x0 = 2) :
    N.Ring m ↔ ∀ x, x < N.p → (N.labs (fun k => m.testBit k) N.n x = N.labs (fun k => m.testBit k) N.n x0 ↔ N.dg m x = 2) := by
  constructor
  · intro r x hx
    obtain ⟨k0, hk0, hb0, hall⟩ := ring_piece hm r
    have on : ∀ y, y < N.p → N.dg m y = 2 → N.labs (fun k => m.testBit k) N.n y = N.labs (fun k => m.testBit k) N.n (N.a k0) := fun y hy hd => by
      obtain ⟨k, hk, hb, hx2⟩ := dg_some (N := N) (m := m) (x := y) (by (first | lia | omega))
      rw [← hall k hk hb]
      rcases hx2 with e | e
      · rw [e]
      · rw [← e]
        exact (labs_tie (S := fun k => m.testBit k) hk hb).symm
    constructor
    · intro e
      rcases d2 x hx with z | z
      · exfalso
        have := alone z (labs_conn _ _ _ e)
        rw [this] at hd0
        (first | lia | omega)
      · exact z
    · intro hd
      rw [on x hx hd, on x0 hx0 hd0]
  · intro h
    have hpos : ∀ k, k < N.n → m.testBit k = true → N.labs (fun k => m.testBit k) N.n (N.a k) = N.labs (fun k => m.testBit k) N.n x0 := fun k hk hb => by
      refine (h _ (N.al k hk)).mpr ?_
      have h1 := dg_at hk hb (.inl rfl)
      rcases d2 _ (N.al k hk) with z | z
      · (first | lia | omega)
      · exact z
    have hs : sm (fun x => N.dg m x) N.p = 2 * cnt (fun x => decide (N.labs (fun k => m.testBit k) N.n x = N.labs (fun k => m.testBit k) N.n x0)) N.p := by
      rw [← sm_two]
      refine sm_congr fun x hx => ?_
      by_cases e : N.labs (fun k => m.testBit k) N.n x = N.labs (fun k => m.testBit k) N.n x0
      · rw [if_pos (decide_eq_true e)]
        exact (h x hx).mp e
      · rw [if_neg (by rw [decide_eq_false e]; decide)]
        rcases d2 x hx with z | z
        · exact z
        · exact absurd ((h x hx).mpr z) e
    have hl : cnt (fun x => decide (N.labs (fun k => m.testBit k) N.n x = N.labs (fun k => m.testBit k) N.n x0)) N.p = cnt (fun k => m.testBit k) N.n := by
      rw [dg_sum] at hs
      (first | lia | omega)
    refine ring_of hm (D2.even d2) (fun x => decide (N.labs (fun k => m.testBit k) N.n x = N.labs (fun k => m.testBit k) N.n x0)) (fun x _ => rfl) ?_ (fun k hk hb => decide_eq_true (hpos k hk hb)) hl
    rw [hl]
    have : N.dg m x0 ≤ cnt (fun k => m.testBit k) N.n := cnt_le fun k _ hk => (Bool.and_eq_true_iff.mp hk).1
    (first | lia | omega)
end RM

namespace RM
inductive Sp (B : List Nat) : Nat → Prop
  | zero : Sp B 0
  | add {x b : Nat} (h : Sp B x) (hb : b ∈ B) : Sp B (x ^^^ b)
section
variable {B C : List Nat} {x y b : Nat}
theorem Sp.mem (h : b ∈ B) : Sp B b := by
  have := Sp.add .zero h
  rw [Nat.zero_xor] at this
  exact this
theorem Sp.xor (h : Sp B x) (h' : Sp B y) : Sp B (x ^^^ y) := by
  induction h' with
  | zero => rw [Nat.xor_zero]; exact h
  | add _ hb ih => rw [← Nat.xor_assoc]; exact .add ih hb
theorem Sp.mono (h : Sp B x) (hc : ∀ b ∈ B, Sp C b) : Sp C x := by
  induction h with
  | zero => exact .zero
  | add _ hb ih => exact ih.xor (hc _ hb)
theorem xor_twice (x b : Nat) : x ^^^ b ^^^ b = x := by rw [Nat.xor_assoc, Nat.xor_self, Nat.xor_zero]
theorem Sp.cons_iff : Sp (b :: B) x ↔ Sp B x ∨ Sp B (x ^^^ b) := by
  constructor
  · intro h
    induction h with
    | zero => exact .inl .zero
    | add h hc ih =>
      rename_i x c
      rcases List.mem_cons.mp hc with e | e
      · subst e
        rcases ih with ih | ih
        · exact .inr (by rw [xor_twice]; exact ih)
        · exact .inl ih
      · rcases ih with ih | ih
        · exact .inl (.add ih e)
        · exact .inr (by rw [Nat.xor_assoc, Nat.xor_comm c, ← Nat.xor_assoc]; exact .add ih e)
  · rintro (h | h)
    · exact h.mono fun c hc => .mem (List.mem_cons_of_mem _ hc)
    · have h2 : Sp (b :: B) (x ^^^ b) := h.mono fun c hc => .mem (List.mem_cons_of_mem _ hc)
      have := h2.add (b := b) List.mem_cons_self
      rw [xor_twice] at this
      exact this
theorem Sp.off {t : Nat} (h : Sp B x) (hz : ∀ b ∈ B, b.testBit t = false) : x.testBit t = false := by
  induction h with
  | zero => exact Nat.zero_testBit t
  | add _ hb ih => rw [Nat.testBit_xor, ih, hz _ hb]; rfl
theorem Sp.lt {n : Nat} (h : Sp B x) (hz : ∀ b ∈ B, b < 2 ^ n) : x < 2 ^ n := by
  induction h with
  | zero => exact Nat.two_pow_pos n
  | add _ hb ih => exact Nat.xor_lt_two_pow ih (hz _ hb)
end
inductive Tri : List (Nat × Nat) → Prop
  | nil : Tri []
  | cons {t r : Nat} {rest : List (Nat × Nat)} (h : Tri rest) (hr : r.testBit t = true) (hz : ∀ q ∈ rest, q.2.testBit t = false) : Tri ((t, r) :: rest)
def redu (rows : List (Nat × Nat)) (x : Nat) : Nat := rows.foldl (fun x q => if x.testBit q.1 = true then x ^^^ q.2 else x) x
section
variable {rows : List (Nat × Nat)} {x t : Nat}
theorem redu_sp (rows : List (Nat × Nat)) : ∀ x, Sp (rows.map (·.2)) (x ^^^ redu rows x) := by
  induction rows with
  | nil => intro x; show Sp [] (x ^^^ x); rw [Nat.xor_self]; exact .zero
  | cons q rest ih =>
    intro x
    show Sp (q.2 :: rest.map (·.2)) (x ^^^ redu rest (if x.testBit q.1 = true then x ^^^ q.2 else x))
    have h := ih (if x.testBit q.1 = true then x ^^^ q.2 else x)
    by_cases e : x.testBit q.1 = true
    · rw [if_pos e] at h ⊢
      refine Sp.cons_iff.mpr (.inr ?_)
      rw [Nat.xor_assoc, Nat.xor_comm _ q.2, ← Nat.xor_assoc]
      exact h
    · rw [if_neg e] at h ⊢
      exact Sp.cons_iff.mpr (.inl h)
theorem redu_keep (hz : ∀ q ∈ rows, q.2.testBit t = false) : ∀ {x}, x.testBit t = false → (redu rows x).testBit t = false := by
  induction rows with
  | nil => intro x h; exact h
  | cons q rest ih =>
    intro x h
    have h2 : (if x.testBit q.1 = true then x ^^^ q.2 else x).testBit t = false := by
      by_cases e : x.testBit q.1 = true
      · rw [if_pos e, Nat.testBit_xor, h, hz q List.mem_cons_self]; rfl
      · rw [if_neg e]; exact h
    exact ih (fun q' hq => hz q' (List.mem_cons_of_mem _ hq)) h2
theorem redu_none (h : Tri rows) : ∀ x, ∀ q ∈ rows, (redu rows x).testBit q.1 = false := by
  induction h with
  | nil => intro x q hq; cases hq
  | cons h hr hz ih =>
    rename_i t r rest
    intro x q hq
    show (redu rest (if x.testBit t = true then x ^^^ r else x)).testBit q.1 = false
    rcases List.mem_cons.mp hq with e | e
    · subst e
      refine redu_keep hz ?_
      by_cases e : x.testBit t = true
      · rw [if_pos e, Nat.testBit_xor, e, hr]; rfl
      · rw [if_neg e]; exact Bool.eq_false_iff.mpr e
    · exact ih _ q e
theorem tri_zero (h : Tri rows) : ∀ {x}, Sp (rows.map (·.2)) x → (∀ q ∈ rows, x.testBit q.1 = false) → x = 0 := by
  induction h with
  | nil => intro x hs _; cases hs with
    | zero => rfl
    | add _ hb => cases hb
  | cons h hr hz ih =>
    rename_i t r rest
    intro x hs hx
    have off : ∀ y, Sp (rest.map (·.2)) y → y.testBit t = false := fun y hy => hy.off fun b hb => by
      obtain ⟨q, hq, rfl⟩ := List.mem_map.mp hb
      exact hz q hq
    rcases Sp.cons_iff.mp hs with hs | hs
    · exact ih hs fun q hq => hx q (List.mem_cons_of_mem _ hq)
    · exfalso
      have h1 := off _ hs
      have h2 := hx (t, r) List.mem_cons_self
      rw [Nat.testBit_xor] at h1
      have h2 : x.testBit t = false := h2
      rw [h2, hr] at h1
      cases h1
theorem redu_zero (h : Tri rows) (x : Nat) : redu rows x = 0 ↔ Sp (rows.map (·.2)) x := by
  have hs := redu_sp rows x
  constructor
  · intro e
    rw [e, Nat.xor_zero] at hs
    exact hs
  · intro hx
    refine tri_zero h ?_ (redu_none h x)
    have := hx.xor hs
    rw [← Nat.xor_assoc, Nat.xor_self, Nat.zero_xor] at this
    exact this
end
open Classical in
open Classical in
theorem top_bit {x : Nat} (h : x ≠ 0) : x.testBit x.log2 = true := Nat.testBit_log2 h
end RM

namespace RM
open Ring (xorL xorL_cons maskOf)
variable {N : Net}
theorem chords_nd : N.chords.Nodup := List.Pairwise.filter _ List.nodup_range
theorem eN_bit {z j d : Nat} (h : N.chords[j]? = some d) : (N.sumR z N.chords 0).testBit d = z.testBit j := by
  rw [sumR_bit chords_nd (fun c hc => (chords_mem.mp hc).2) h, Nat.zero_add]
end RM

namespace L2
open PySem PySem.Spec PyProof.Rows
section
variable {prog : Program} {w : World} {A : Around} {E : Value → Shared → Prop} {s : Shared} {I l : Addr}
end
section
variable {X : Cx}
end
end L2

namespace L2
open PySem PySem.Spec PyProof.Rows
section
variable {X : Cx}
theorem vals_bl : ∀ {bs : List Bool} {its : List Value}, Vals (bs.map V.bl) its → its = bs.map Value.bool
  | [], _, .nil => rfl
  | b :: bs, _, .cons r rr => by
    cases r
    rw [vals_bl rr]
    rfl
theorem range_alls : ∀ bs : List Bool, ((List.range bs.length).all fun i => (bs[i]?).getD true) = bs.all id := fun bs => by
  rw [Bool.eq_iff_iff, List.all_eq_true, List.all_eq_true]
  constructor
  · intro h b hb
    obtain ⟨i, hi, e⟩ := List.getElem_of_mem hb
    have := h i (List.mem_range.mpr hi)
    rw [List.getElem?_eq_getElem hi, e] at this
    exact this
  · intro h i hi
    have hi := List.mem_range.mp hi
    rw [List.getElem?_eq_getElem hi]
    exact h _ (List.getElem_mem hi)
theorem allK (K : PySem.W.Frag) (hc : X.calm = true) (hK : X.K = K := by rfl) : CallR X (.builtin "all") (fun xs H Q => ∃ (p : Addr) (bs : List Bool), xs = [.ref p] ∧ SqL K H p (bs.map V.bl) ∧ Q (.bl (bs.all id)) H) := by
  subst hK
  intro pins s σ H xs us Q I r h
  obtain ⟨p, bs, rfl, hq, q⟩ := h
  obtain ⟨u, rfl, rx⟩ := vals1 r
  cases rx
  obtain ⟨its, rv, pl, hz⟩ := I.list hq
  obtain rfl := vals_bl rv
  have lt : p < s.heap.objs.size := by obtain ⟨_, e, _⟩ := pl.isList; exact Heap.lt_size e
  refine call_all_walk (wpAny_pyIter_list pl.isList ⟨_, [_, p], [_], _, _, _, fun i => (bs[i]?).getD true, rfl, Walks.list (A := X.A.in1) (I.ok.hd hc) _ p (Nat.ne_of_lt lt) _,
    ⟨⟨_, Heap.get?_push_size _ rfl, rfl, rfl⟩, pl.isList.push _⟩, fun i v s' Q' E' hP hQ => ?_, fun h' tk hk => ?_⟩)
  · have hP : (bs.map Value.bool)[i]? = some v := by simpa using hP
    rw [List.getElem?_map] at hP
    obtain ⟨b, e, rfl⟩ := Option.map_eq_some_iff.mp hP
    simp only [e, Option.getD_some] at hQ
    exact wpAny_truthy_bool hQ
  · have z : (bs.map Value.bool).toArray.size = bs.length := by simp
    rw [z, range_alls]
    refine ⟨.bl _, H, I.kept fun b o e => hk b o (fun hm => ?_) (Heap.get?_push_of_some _ e), rfl, q⟩
    rw [List.mem_singleton.mp hm] at e
    exact Nat.lt_irrefl _ (Heap.lt_size e)
end
section
variable {X : Cx} {tg : Expr}
end
section
variable {X : Cx}
end
end L2

namespace RM
section
variable {L : Nat → Int}
end
def Jn (N : Net) (k v w : Nat) : Prop := (N.a k = v ∧ N.b k = w) ∨ (N.b k = v ∧ N.a k = w)
theorem Jn.lt {N : Net} {k v w : Nat} (hk : k < N.n) (h : Jn N k v w) : w < N.p := by
  rcases h with ⟨_, rfl⟩ | ⟨_, rfl⟩
  · exact N.bl k hk
  · exact N.al k hk
section
variable {N : Net} {L : Nat → Int} {m u : Nat}
end
end RM

namespace RM
open Ring (maskOf mask_bit mask_lt)
theorem xor_zero_eq {a b : Nat} (h : a ^^^ b = 0) : a = b := by
  have := congrArg (fun y => y ^^^ b) h
  simp only [Nat.zero_xor] at this
  rwa [Nat.xor_assoc, Nat.xor_self, Nat.xor_zero] at this
def comb : List Nat → Nat → Nat
  | [], _ => 0
  | b :: B, z => (if z.testBit 0 = true then b else 0) ^^^ comb B (z / 2)
theorem xor_four (a b c d : Nat) : (a ^^^ b) ^^^ (c ^^^ d) = (a ^^^ c) ^^^ (b ^^^ d) := Nat.eq_of_testBit_eq fun i => by
  simp only [Nat.testBit_xor]
  cases a.testBit i <;> cases b.testBit i <;> cases c.testBit i <;> cases d.testBit i <;> rfl
theorem xor_half (z y : Nat) : (z ^^^ y) / 2 = z / 2 ^^^ y / 2 := Nat.eq_of_testBit_eq fun i => by
  rw [Nat.testBit_xor, ← Nat.testBit_succ, ← Nat.testBit_succ, ← Nat.testBit_succ, Nat.testBit_xor]
theorem comb_xor : ∀ (B : List Nat) (z y : Nat), comb B (z ^^^ y) = comb B z ^^^ comb B y
  | [], _, _ => by simp [comb]
  | b :: B, z, y => by
    unfold comb
    rw [xor_half, comb_xor B, Nat.testBit_xor, xor_four]
    congr 1
    cases z.testBit 0 <;> cases y.testBit 0 <;> simp
theorem comb_zero : ∀ (B : List Nat), comb B 0 = 0
  | [] => rfl
  | b :: B => by
    unfold comb
    rw [Nat.zero_testBit, show 0 / 2 = 0 from rfl, comb_zero B]
    simp
theorem pow_half (i : Nat) : 2 ^ (i + 1) / 2 = 2 ^ i := by
  rw [Nat.pow_succ, Nat.mul_div_cancel _ (by decide)]
theorem comb_pow : ∀ {B : List Nat} {i b : Nat}, B[i]? = some b → comb B (2 ^ i) = b
  | [], i, b, h => by simp at h
  | b' :: B, 0, b, h => by
    have : b' = b := by simpa using h
    subst this
    unfold comb
    rw [show (2 ^ 0 : Nat).testBit 0 = true from rfl, if_pos rfl, show (2 ^ 0 : Nat) / 2 = 0 from rfl, comb_zero, Nat.xor_zero]
  | b' :: B, i + 1, b, h => by
    unfold comb
    have h0 : (2 ^ (i + 1)).testBit 0 = false := by rw [Nat.testBit_two_pow]; simp
    rw [h0, if_neg (by decide), Nat.zero_xor, pow_half]
    exact comb_pow (B := B) h
theorem comb_snoc : ∀ (B : List Nat) (b z : Nat), comb (B ++ [b]) z = comb B z ^^^ (if z.testBit B.length = true then b else 0)
  | [], b, z => by
    show (if z.testBit 0 = true then b else 0) ^^^ 0 = 0 ^^^ _
    rw [Nat.xor_zero, Nat.zero_xor]
    rfl
  | b' :: B, b, z => by
    show (if z.testBit 0 = true then b' else 0) ^^^ comb (B ++ [b]) (z / 2) = ((if z.testBit 0 = true then b' else 0) ^^^ comb B (z / 2)) ^^^ _
    rw [comb_snoc B b (z / 2), Nat.xor_assoc, ← Nat.testBit_succ]
    rfl
theorem comb_high : ∀ (B : List Nat) {z : Nat}, (∀ i, i < B.length → z.testBit i = false) → comb B z = 0
  | [], _, _ => rfl
  | b :: B, z, h => by
    unfold comb
    rw [h 0 (by simp), if_neg (by decide), Nat.zero_xor]
    exact comb_high B fun i hi => by rw [← Nat.testBit_succ]; exact h (i + 1) (by simp; (first | lia | omega))
theorem comb_sp (B : List Nat) : ∀ z, Sp B (comb B z) := by
  induction B with
  | nil => intro z; exact .zero
  | cons b B ih =>
    intro z
    have h : Sp (b :: B) (comb B (z / 2)) := (ih (z / 2)).mono fun c hc => .mem (List.mem_cons_of_mem _ hc)
    unfold comb
    rw [Nat.xor_comm]
    by_cases e : z.testBit 0 = true
    · rw [if_pos e]; exact h.add List.mem_cons_self
    · rw [if_neg e, Nat.xor_zero]; exact h
theorem sp_comb {B : List Nat} {x : Nat} (h : Sp B x) : ∃ z, z < 2 ^ B.length ∧ comb B z = x := by
  induction h with
  | zero => exact ⟨0, Nat.two_pow_pos _, comb_zero B⟩
  | add h hb ih =>
    obtain ⟨z, hz, e⟩ := ih
    obtain ⟨i, hi⟩ := List.getElem?_of_mem hb
    have hil := (List.getElem?_eq_some_iff.mp hi).1
    exact ⟨z ^^^ 2 ^ i, Nat.xor_lt_two_pow hz (Nat.pow_lt_pow_right (by decide) hil), by rw [comb_xor, e, comb_pow hi]⟩
def Ind (B : List Nat) : Prop := ∀ z, z < 2 ^ B.length → comb B z = 0 → z = 0
theorem ind_snoc {B : List Nat} {b : Nat} : Ind (B ++ [b]) ↔ Ind B ∧ ¬ Sp B b := by
  have hl : (B ++ [b]).length = B.length + 1 := by simp
  constructor
  · intro h
    refine ⟨fun z hz e => h z ?_ ?_, fun hs => ?_⟩
    · rw [hl, Nat.pow_succ]; (first | lia | omega)
    · rw [comb_snoc, e, Nat.testBit_lt_two_pow hz]; simp
    · obtain ⟨y, hy, e⟩ := sp_comb hs
      have hlt : 2 ^ B.length < 2 ^ (B.length + 1) := Nat.pow_lt_pow_right (by decide) (by (first | lia | omega))
      have := h (y ^^^ 2 ^ B.length) (by rw [hl]; exact Nat.xor_lt_two_pow (by (first | lia | omega)) hlt) (by
        have h1 : (y ^^^ 2 ^ B.length).testBit B.length = true := by
          rw [Nat.testBit_xor, Nat.testBit_lt_two_pow hy, Nat.testBit_two_pow_self]
          rfl
        have h2 : comb B (2 ^ B.length) = 0 := comb_high B fun i hi => by
          rw [Nat.testBit_two_pow]
          exact decide_eq_false (by (first | lia | omega))
        rw [comb_snoc, h1, if_pos rfl, comb_xor, h2, e, Nat.xor_zero, Nat.xor_self])
      have h3 : (y ^^^ 2 ^ B.length).testBit B.length = false := by rw [this, Nat.zero_testBit]
      rw [Nat.testBit_xor, Nat.testBit_lt_two_pow hy, Nat.testBit_two_pow_self] at h3
      cases h3
  · rintro ⟨h, hs⟩ z hz e
    rw [comb_snoc] at e
    by_cases hb : z.testBit B.length = true
    · rw [if_pos hb] at e
      have e2 : comb B z = b := by
        have := congrArg (fun y => y ^^^ b) e
        simp only [xor_twice, Nat.zero_xor] at this
        exact this
      exact absurd (e2 ▸ comb_sp B z) hs
    · rw [if_neg hb, Nat.xor_zero] at e
      refine h z ?_ e
      refine lt_of_bits fun k hk => ?_
      have := bits_lt hz hk
      rw [hl] at this
      have : k ≠ B.length := fun e => hb (e ▸ hk)
      (first | lia | omega)
theorem ind_zero (B : List Nat) (h : Ind B) {z y : Nat} (hz : z < 2 ^ B.length) (hy : y < 2 ^ B.length) (e : comb B z = comb B y) : z = y := by
  have := h (z ^^^ y) (Nat.xor_lt_two_pow hz hy) (by rw [comb_xor, e, Nat.xor_self])
  exact xor_zero_eq this
section
variable {N : Net}
theorem comb_even {B : List Nat} (h : ∀ b ∈ B, N.Even b ∧ b < 2 ^ N.n) (z : Nat) : N.Even (comb B z) ∧ comb B z < 2 ^ N.n := by
  have hs := comb_sp B z
  refine ⟨?_, hs.lt fun b hb => (h b hb).2⟩
  generalize comb B z = x at hs
  induction hs with
  | zero => exact Even.zero
  | add _ hb ih => exact Even.xor ih (h _ hb).1
theorem map_few {f : Nat → Nat} {a b : Nat} (hf : ∀ z, z < 2 ^ a → f z < 2 ^ b) (inj : ∀ z y, z < 2 ^ a → y < 2 ^ a → f z = f y → z = y) : a ≤ b := by
  have nd : ((List.range (2 ^ a)).map f).Nodup := by
    refine List.pairwise_map.mpr ?_
    refine List.Pairwise.imp_of_mem (fun {z y} hz hy hne e => ?_) List.nodup_range
    exact hne (inj z y (List.mem_range.mp hz) (List.mem_range.mp hy) e)
  have := nodup_le nd fun x hx => by
    obtain ⟨z, hz, rfl⟩ := List.mem_map.mp hx
    exact hf z (List.mem_range.mp hz)
  rw [List.length_map, List.length_range] at this
  exact (Nat.pow_le_pow_iff_right (by decide)).mp this
def meets (ks : List Nat) (m : Nat) : Nat := maskOf (fun i => m.testBit (ks.getD i 0)) ks.length
theorem meets_lt (ks : List Nat) (m : Nat) : meets ks m < 2 ^ ks.length := mask_lt _ _
theorem meets_bit {ks : List Nat} {m i k : Nat} (h : ks[i]? = some k) : (meets ks m).testBit i = m.testBit k := by
  unfold meets
  rw [mask_bit, List.getD_eq_getElem?_getD, h, decide_eq_true (List.getElem?_eq_some_iff.mp h).1]
  rfl
theorem ind_le {B : List Nat} (hi : Ind B) (h : ∀ b ∈ B, N.Even b ∧ b < 2 ^ N.n) : B.length ≤ N.chords.length := by
  refine map_few (f := fun z => meets N.chords (comb B z)) (fun z _ => meets_lt _ _) fun z y hz hy e => ind_zero B hi hz hy ?_
  have h1 := comb_even h z
  have h2 := comb_even h y
  refine xor_zero_eq (forest_empty (N := N) (fun k hk => ?_) (Even.xor h1.1 h2.1))
  have hkn := bits_lt (Nat.xor_lt_two_pow h1.2 h2.2) hk
  refine ⟨hkn, ?_⟩
  cases hf : N.inF k with
  | true => rfl
  | false =>
    obtain ⟨j, hj⟩ := List.getElem?_of_mem (chords_mem.mpr ⟨hkn, hf⟩)
    have e : meets N.chords (comb B z) = meets N.chords (comb B y) := e
    have := congrArg (fun x => x.testBit j) e
    simp only [meets_bit hj] at this
    rw [Nat.testBit_xor, this, Bool.xor_self] at hk
    cases hk
theorem keys_ge {ks : List Nat} (h : ∀ m, m < 2 ^ N.n → N.Even m → (∀ k ∈ ks, m.testBit k = false) → m = 0) : N.chords.length ≤ ks.length := by
  refine map_few (f := fun z => meets ks (N.sumR z N.chords 0)) (fun z _ => meets_lt _ _) fun z y hz hy e => ?_
  have h1 := sumR_even (N := N) (number := z) (l := N.chords) (i := 0) fun c hc => (chords_mem.mp hc).1
  have h2 := sumR_even (N := N) (number := y) (l := N.chords) (i := 0) fun c hc => (chords_mem.mp hc).1
  have e0 : N.sumR z N.chords 0 = N.sumR y N.chords 0 := xor_zero_eq (h _ (Nat.xor_lt_two_pow h1.2 h2.2) (Even.xor h1.1 h2.1) fun k hk => by
    obtain ⟨j, hj⟩ := List.getElem?_of_mem hk
    have e : meets ks (N.sumR z N.chords 0) = meets ks (N.sumR y N.chords 0) := e
    have := congrArg (fun x => x.testBit j) e
    simp only [meets_bit hj] at this
    rw [Nat.testBit_xor, this, Bool.xor_self])
  refine Nat.eq_of_testBit_eq fun j => ?_
  by_cases hj : j < N.chords.length
  · have hc : N.chords[j]? = some N.chords[j] := List.getElem?_eq_getElem hj
    rw [← eN_bit hc, ← eN_bit hc, e0]
  · rw [Nat.testBit_lt_two_pow (Nat.lt_of_lt_of_le hz (Nat.pow_le_pow_right (by decide) (by (first | lia | omega)))), Nat.testBit_lt_two_pow (Nat.lt_of_lt_of_le hy (Nat.pow_le_pow_right (by decide) (by (first | lia | omega))))]
structure Base (N : Net) (rs : List Nat) : Prop where
  len : rs.length = N.chords.length
  ring : ∀ r ∈ rs, N.Ring r ∧ r < 2 ^ N.n
  ind : Ind rs
def Acy (N : Net) (s : Nat) : Prop := ∀ q, (∀ k, q.testBit k = true → s.testBit k = true) → N.Even q → q = 0
open Classical in
theorem bd_conn {s t u v : Nat} (hs : s < 2 ^ N.n) (ht : ∀ k, t.testBit k = true → s.testBit k = true) (hu : u < N.p) (hv : v < N.p) (hb : ∀ x, N.bd t x = (decide (u = x) ^^ decide (v = x))) : N.Conn (fun k => s.testBit k) N.n u v := by
  apply Classical.byContradiction
  intro hn
  let C : Nat → Bool := fun x => decide (N.Conn (fun k => s.testBit k) N.n u x)
  have h1 := bd_class (N := N) (m := t) C fun k hk hb => by
    have hsk := ht k hb
    have : N.Conn (fun k => s.testBit k) N.n (N.a k) (N.b k) := labs_conn _ _ _ (labs_tie hk hsk)
    show decide _ = decide _
    rw [decide_eq_decide]
    exact ⟨fun h => h.trans this, fun h => h.trans this.symm⟩
  have h2 : xsum (fun x => C x && N.bd t x) N.p = xsum (fun x => C x && decide (u = x)) N.p := xsum_congr fun x _ => by
    rw [hb]
    by_cases e : v = x
    · subst e
      have : C v = false := decide_eq_false hn
      rw [this]
      rfl
    · rw [decide_eq_false e, Bool.xor_false]
  rw [h2, xsum_point C hu] at h1
  have : C u = true := decide_eq_true .refl
  rw [this] at h1
  cases h1
theorem or_pow {s k : Nat} (j : Nat) : (s ||| 2 ^ k).testBit j = (s.testBit j || decide (k = j)) := by
  rw [Nat.testBit_or, Nat.testBit_two_pow]
theorem Acy.put {s k : Nat} (hs : s < 2 ^ N.n) (h : Acy N s) (hk : k < N.n) (hn : ¬ N.Conn (fun j => s.testBit j) N.n (N.a k) (N.b k)) : Acy N (s ||| 2 ^ k) := by
  intro q hq ev
  by_cases hb : q.testBit k = true
  · exfalso
    refine hn (bd_conn (t := q ^^^ 2 ^ k) hs (fun j hj => ?_) (N.al k hk) (N.bl k hk) fun x => ?_)
    · rw [Nat.testBit_xor, Nat.testBit_two_pow] at hj
      by_cases e : k = j
      · subst e
        rw [hb] at hj
        simp at hj
      · rw [decide_eq_false e, Bool.xor_false] at hj
        have := hq j hj
        rw [or_pow, decide_eq_false e, Bool.or_false] at this
        exact this
    · have hx : N.bd q x = false := by
        by_cases hx : x < N.p
        · exact ev x hx
        · refine bd_off fun j hj _ => ⟨?_, ?_⟩
          · have := N.al j hj; (first | lia | omega)
          · have := N.bl j hj; (first | lia | omega)
      rw [bd_xor, hx, bd_pow hk]
      unfold Net.inc
      rw [Bool.false_xor]
  · refine h q (fun j hj => ?_) ev
    have := hq j hj
    rw [or_pow] at this
    by_cases e : k = j
    · subst e
      exact absurd hj hb
    · rw [decide_eq_false e, Bool.or_false] at this
      exact this
theorem acy_ring {s t k : Nat} (hs : s < 2 ^ N.n) (h : Acy N s) (hk : k < N.n) (hsk : s.testBit k = false) (ht : ∀ j, t.testBit j = true → s.testBit j = true) (hb : ∀ x, N.bd t x = (decide (N.a k = x) ^^ decide (N.b k = x))) : N.Ring (t ||| 2 ^ k) ∧ t ||| 2 ^ k < 2 ^ N.n := by
  have htk : t.testBit k = false := by
    cases e : t.testBit k with
    | false => rfl
    | true => rw [ht k e] at hsk; cases hsk
  have eor : t ||| 2 ^ k = t ^^^ 2 ^ k := Nat.eq_of_testBit_eq fun j => by
    rw [or_pow, Nat.testBit_xor, Nat.testBit_two_pow]
    by_cases e : k = j
    · subst e
      rw [htk]
      simp
    · rw [decide_eq_false e, Bool.or_false, Bool.xor_false]
  have hlt : t ||| 2 ^ k < 2 ^ N.n := lt_of_bits fun j hj => by
    rw [or_pow] at hj
    by_cases e : k = j
    · (first | lia | omega)
    · rw [decide_eq_false e, Bool.or_false] at hj
      exact bits_lt hs (ht j hj)
  have own : (t ||| 2 ^ k).testBit k = true := by rw [or_pow, decide_eq_true rfl, Bool.or_true]
  have ev : N.Even (t ||| 2 ^ k) := fun x _ => by
    rw [eor, bd_xor, hb, bd_pow hk]
    unfold Net.inc
    rw [Bool.xor_self]
  refine ⟨⟨fun z => ?_, ev, fun q hq evq => ?_⟩, hlt⟩
  · rw [z, Nat.zero_testBit] at own
    cases own
  · have sub : ∀ j, (t ||| 2 ^ k).testBit j = true → j ≠ k → s.testBit j = true := fun j hj hne => by
      rw [or_pow, decide_eq_false (fun z => hne z.symm), Bool.or_false] at hj
      exact ht j hj
    by_cases hq1 : q.testBit k = true
    · refine .inr ?_
      have := h ((t ||| 2 ^ k) ^^^ q) (fun j hj => ?_) (Even.xor ev evq)
      · exact (xor_zero_eq this).symm
      · rw [Nat.testBit_xor] at hj
        have hne : j ≠ k := fun z => by subst z; rw [own, hq1] at hj; cases hj
        cases hr : (t ||| 2 ^ k).testBit j with
        | true => exact sub j hr hne
        | false =>
          rw [hr, Bool.false_xor] at hj
          rw [hq j hj] at hr
          cases hr
    · refine .inl (h q (fun j hj => ?_) evq)
      exact sub j (hq j hj) fun z => hq1 (z ▸ hj)
structure Fr (N : Net) (done : List Nat) (s : Nat) (ks rs : List Nat) : Prop where
  lt : s < 2 ^ N.n
  acy : Acy N s
  sub : ∀ k, s.testBit k = true → k ∈ done
  ksub : ∀ k ∈ ks, k ∈ done ∧ s.testBit k = false
  nd : ks.Nodup
  all : ∀ k ∈ done, s.testBit k = true ∨ k ∈ ks
  len : rs.length = ks.length
  ring : ∀ r ∈ rs, N.Ring r ∧ r < 2 ^ N.n
  at_ : ∀ (i j r k : Nat), rs[i]? = some r → ks[j]? = some k → r.testBit k = decide (i = j)
  rdone : ∀ r ∈ rs, ∀ k, r.testBit k = true → k ∈ done
theorem Fr.start : Fr N [] 0 [] [] :=
  ⟨Nat.two_pow_pos _, (fun q hq _ => Nat.eq_of_testBit_eq fun i => by
    cases e : q.testBit i with
    | false => rw [Nat.zero_testBit]
    | true => have := hq i e; rw [Nat.zero_testBit] at this; cases this), (fun k hk => by rw [Nat.zero_testBit] at hk; cases hk), (fun k hk => nomatch hk), List.nodup_nil, (fun k hk => nomatch hk), rfl, (fun r hr => nomatch hr), (fun i j r k h => by simp at h), (fun r hr => nomatch hr)⟩
theorem Fr.tree {done : List Nat} {s k : Nat} {ks rs : List Nat} (f : Fr N done s ks rs) (hk : k < N.n) (hd : k ∉ done) (hn : ¬ N.Conn (fun j => s.testBit j) N.n (N.a k) (N.b k)) : Fr N (done ++ [k]) (s ||| 2 ^ k) ks rs := by
  refine ⟨lt_of_bits fun j hj => ?_, f.acy.put f.lt hk hn, fun j hj => ?_, fun j hj => ⟨List.mem_append_left _ (f.ksub j hj).1, ?_⟩, f.nd, fun j hj => ?_, f.len, f.ring, f.at_, fun r hr j hj => List.mem_append_left _ (f.rdone r hr j hj)⟩
  · rw [or_pow] at hj
    by_cases e : k = j
    · (first | lia | omega)
    · rw [decide_eq_false e, Bool.or_false] at hj
      exact bits_lt f.lt hj
  · rw [or_pow] at hj
    by_cases e : k = j
    · exact List.mem_append_right _ (by simp [e])
    · rw [decide_eq_false e, Bool.or_false] at hj
      exact List.mem_append_left _ (f.sub j hj)
  · rw [or_pow, (f.ksub j hj).2, Bool.false_or]
    exact decide_eq_false fun e => hd (e ▸ (f.ksub j hj).1)
  · rcases List.mem_append.mp hj with hj | hj
    · rcases f.all j hj with h | h
      · exact .inl (by rw [or_pow, h]; rfl)
      · exact .inr h
    · have e : j = k := by simpa using hj
      exact .inl (by rw [or_pow, e, decide_eq_true rfl, Bool.or_true])
theorem Fr.chord {done : List Nat} {s k t : Nat} {ks rs : List Nat} (f : Fr N done s ks rs) (hk : k < N.n) (hd : k ∉ done) (ht : ∀ j, t.testBit j = true → s.testBit j = true) (hb : ∀ x, N.bd t x = (decide (N.a k = x) ^^ decide (N.b k = x))) : Fr N (done ++ [k]) s (ks ++ [k]) (rs ++ [t ||| 2 ^ k]) := by
  have hsk : s.testBit k = false := by
    cases e : s.testBit k with
    | false => rfl
    | true => exact absurd (f.sub k e) hd
  have hr := acy_ring f.lt f.acy hk hsk ht hb
  refine ⟨f.lt, f.acy, fun j hj => List.mem_append_left _ (f.sub j hj), fun j hj => ?_, ?_, fun j hj => ?_, ?_, fun r hr' => ?_, ?_, fun r hr' j hj => ?_⟩
  · rcases List.mem_append.mp hj with hj | hj
    · exact ⟨List.mem_append_left _ (f.ksub j hj).1, (f.ksub j hj).2⟩
    · have e : j = k := by simpa using hj
      rw [e]
      exact ⟨List.mem_append_right _ (by simp), hsk⟩
  · exact List.nodup_append.mpr ⟨f.nd, by simp, fun x hx y hy => by
      have e : y = k := by simpa using hy
      rw [e]
      rintro rfl
      exact hd (f.ksub x hx).1⟩
  · rcases List.mem_append.mp hj with hj | hj
    · rcases f.all j hj with h | h
      · exact .inl h
      · exact .inr (List.mem_append_left _ h)
    · exact .inr (List.mem_append_right _ hj)
  · rw [List.length_append, List.length_append, f.len]
    rfl
  · rcases List.mem_append.mp hr' with h | h
    · exact f.ring r h
    · have e : r = t ||| 2 ^ k := by simpa using h
      rw [e]
      exact hr
  · intro i j r q hi hj
    have hil := (List.getElem?_eq_some_iff.mp hi).1
    have hjl := (List.getElem?_eq_some_iff.mp hj).1
    rw [List.length_append, f.len] at hil
    rw [List.length_append] at hjl
    have one : ∀ x : Nat, ([x] : List Nat).length = 1 := fun _ => rfl
    rw [one] at hil hjl
    by_cases i1 : i < rs.length
    · rw [List.getElem?_append_left i1] at hi
      by_cases j1 : j < ks.length
      · rw [List.getElem?_append_left j1] at hj
        exact f.at_ i j r q hi hj
      · rw [List.getElem?_append_right (by (first | lia | omega))] at hj
        have e : q = k := by
          have := List.mem_of_getElem? hj
          simpa using this
        rw [e, decide_eq_false (by have := f.len; (first | lia | omega))]
        cases h : r.testBit k with
        | false => rfl
        | true => exact absurd (f.rdone r (List.mem_of_getElem? hi) k h) hd
    · rw [List.getElem?_append_right (by (first | lia | omega))] at hi
      have e : r = t ||| 2 ^ k := by
        have := List.mem_of_getElem? hi
        simpa using this
      by_cases j1 : j < ks.length
      · rw [List.getElem?_append_left j1] at hj
        have hq := f.ksub q (List.mem_of_getElem? hj)
        rw [e, or_pow, decide_eq_false (show ¬ i = j by have := f.len; (first | lia | omega)), decide_eq_false (show ¬ k = q from fun z => hd (z ▸ hq.1)), Bool.or_false]
        cases h : t.testBit q with
        | false => rfl
        | true => rw [ht q h] at hq; cases hq.2
      · rw [List.getElem?_append_right (by (first | lia | omega))] at hj
        have e2 : q = k := by
          have := List.mem_of_getElem? hj
          simpa using this
        rw [e, e2, or_pow, decide_eq_true rfl, Bool.or_true, decide_eq_true (by have := f.len; (first | lia | omega))]
  · rcases List.mem_append.mp hr' with h | h
    · exact List.mem_append_left _ (f.rdone r h j hj)
    · have e : r = t ||| 2 ^ k := by simpa using h
      rw [e, or_pow] at hj
      by_cases e : k = j
      · exact List.mem_append_right _ (by simp [e])
      · rw [decide_eq_false e, Bool.or_false] at hj
        exact List.mem_append_left _ (f.sub j (ht j hj))
theorem comb_keys : ∀ (rs : List Nat) {k z : Nat} {f : Nat → Bool}, (∀ i r, rs[i]? = some r → r.testBit k = f i) → (comb rs z).testBit k = xsum (fun i => z.testBit i && f i) rs.length
  | [], _, _, _, _ => Nat.zero_testBit _
  | r :: rs, k, z, f, h => by
    have ih := comb_keys rs (k := k) (z := z / 2) (f := fun i => f (i + 1)) fun i r hr => h (i + 1) r hr
    have h0 := h 0 r rfl
    have shift : ∀ (g : Nat → Bool) n, xsum g (n + 1) = (g 0 ^^ xsum (fun i => g (i + 1)) n) := fun g n => by
      induction n with
      | zero =>
        show (false ^^ g 0) = (g 0 ^^ false)
        cases g 0 <;> rfl
      | succ n ih =>
        show (xsum g (n + 1) ^^ g (n + 1)) = (g 0 ^^ (xsum (fun i => g (i + 1)) n ^^ g (n + 1)))
        rw [ih, Bool.xor_assoc]
    unfold comb
    rw [Nat.testBit_xor, ih, List.length_cons, shift]
    congr 1
    · cases z.testBit 0 with
      | true => rw [if_pos rfl, h0, Bool.true_and]
      | false => rw [if_neg (by decide), Nat.zero_testBit, Bool.false_and]
    · exact xsum_congr fun i _ => by rw [Nat.testBit_succ]
theorem Fr.base {done : List Nat} {s : Nat} {ks rs : List Nat} (f : Fr N done s ks rs) (hd : ∀ k, k < N.n → k ∈ done) : Base N rs := by
  have ind : Ind rs := fun z hz e => Nat.eq_of_testBit_eq fun j => by
    by_cases hj : j < rs.length
    · have hk : ks[j]? = some (ks[j]'(by rw [← f.len]; exact hj)) := List.getElem?_eq_getElem _
      have := comb_keys rs (z := z) (f := fun i => decide (i = j)) fun i r hr => f.at_ i j r _ hr hk
      rw [e, Nat.zero_testBit, xsum_one hj (fun k _ hne => by rw [decide_eq_false hne, Bool.and_false]), decide_eq_true rfl, Bool.and_true] at this
      rw [← this, Nat.zero_testBit]
    · rw [Nat.testBit_lt_two_pow (Nat.lt_of_lt_of_le hz (Nat.pow_le_pow_right (by decide) (by (first | lia | omega)))), Nat.zero_testBit]
  refine ⟨Nat.le_antisymm (ind_le ind fun r hr => ⟨(f.ring r hr).1.2.1, (f.ring r hr).2⟩) ?_, f.ring, ind⟩
  rw [f.len]
  refine keys_ge fun m hm ev hz => f.acy m (fun k hk => ?_) ev
  rcases f.all k (hd k (bits_lt hm hk)) with h | h
  · exact h
  · rw [hz k h] at hk
    cases hk
theorem comb_set : ∀ (B : List Nat) {k b v : Nat} (z : Nat), B[k]? = some b → comb (B.set k v) z = comb B z ^^^ (if z.testBit k = true then b ^^^ v else 0)
  | [], k, b, v, z, h => by simp at h
  | b' :: B, 0, b, v, z, h => by
    have e : b' = b := by simpa using h
    subst e
    show (if z.testBit 0 = true then v else 0) ^^^ comb B (z / 2) = ((if z.testBit 0 = true then b' else 0) ^^^ comb B (z / 2)) ^^^ _
    cases z.testBit 0 with
    | false => simp
    | true =>
      simp only [if_true]
      refine Nat.eq_of_testBit_eq fun i => ?_
      simp only [Nat.testBit_xor]
      cases v.testBit i <;> cases b'.testBit i <;> cases (comb B (z / 2)).testBit i <;> rfl
  | b' :: B, k + 1, b, v, z, h => by
    show (if z.testBit 0 = true then b' else 0) ^^^ comb (B.set k v) (z / 2) = ((if z.testBit 0 = true then b' else 0) ^^^ comb B (z / 2)) ^^^ _
    rw [comb_set B (z / 2) (show B[k]? = some b from h), Nat.xor_assoc, ← Nat.testBit_succ]
theorem Ind.put {B : List Nat} (h : Ind B) {k o x y : Nat} (hk : B[k]? = some x) (ho : B[o]? = some y) (ne : o ≠ k) : Ind (B.set k (x ^^^ y)) := by
  intro z hz e
  rw [List.length_set] at hz
  have e3 : x ^^^ (x ^^^ y) = y := by rw [← Nat.xor_assoc, Nat.xor_self, Nat.zero_xor]
  rw [comb_set B z hk, e3] at e
  by_cases hb : z.testBit k = true
  · rw [if_pos hb, ← comb_pow ho, ← comb_xor] at e
    have hol := (List.getElem?_eq_some_iff.mp ho).1
    have := h _ (Nat.xor_lt_two_pow hz (Nat.pow_lt_pow_right (by decide) hol)) e
    have h2 : (z ^^^ 2 ^ o).testBit k = false := by rw [this, Nat.zero_testBit]
    rw [Nat.testBit_xor, hb, Nat.testBit_two_pow, decide_eq_false ne] at h2
    cases h2
  · rw [if_neg hb, Nat.xor_zero] at e
    exact h z hz e
theorem Base.put {rs : List Nat} (h : Base N rs) {k o x y : Nat} (hk : rs[k]? = some x) (ho : rs[o]? = some y) (ne : o ≠ k) (hr : N.Ring (x ^^^ y)) : Base N (rs.set k (x ^^^ y)) := by
  refine ⟨by rw [List.length_set]; exact h.len, fun r hr' => ?_, h.ind.put hk ho ne⟩
  rcases List.mem_or_eq_of_mem_set hr' with h1 | h1
  · exact h.ring r h1
  · rw [h1]
    exact ⟨hr, Nat.xor_lt_two_pow (h.ring x (List.mem_of_getElem? hk)).2 (h.ring y (List.mem_of_getElem? ho)).2⟩
end
end RM

namespace RM
abbrev Row3 := Nat × Nat × Nat
def two (q : Row3) : Nat × Nat := (q.1, q.2.1)
def red3 (rows : List Row3) (x u : Nat) : Nat × Nat := rows.foldl (fun s q => if s.1.testBit q.1 = true then (s.1 ^^^ q.2.1, s.2 ^^^ q.2.2) else s) (x, u)
theorem red3_cons (q : Row3) (rows : List Row3) (x u : Nat) : red3 (q :: rows) x u = if x.testBit q.1 = true then red3 rows (x ^^^ q.2.1) (u ^^^ q.2.2) else red3 rows x u := by
  unfold red3
  rw [List.foldl_cons]
  by_cases h : x.testBit q.1 = true
  · rw [if_pos h, if_pos h]
  · rw [if_neg h, if_neg h]
theorem red3_fst : ∀ (rows : List Row3) (x u : Nat), (red3 rows x u).1 = redu (rows.map two) x
  | [], _, _ => rfl
  | q :: rows, x, u => by
    rw [red3_cons]
    show _ = redu (rows.map two) (if x.testBit q.1 = true then x ^^^ q.2.1 else x)
    by_cases h : x.testBit q.1 = true
    · rw [if_pos h, if_pos h]; exact red3_fst rows _ _
    · rw [if_neg h, if_neg h]; exact red3_fst rows _ _
def putR (rows : List Row3) (a : Row3) : List Row3 := a :: rows.map fun q => if q.2.1.testBit a.1 = true then (q.1, q.2.1 ^^^ a.2.1, q.2.2 ^^^ a.2.2) else q
structure Rw (B : List Nat) (rows : List Row3) : Prop where
  own : ∀ q ∈ rows, q.2.1.testBit q.1 = true
  oth : rows.Pairwise fun q q' => q'.2.1.testBit q.1 = false ∧ q.2.1.testBit q'.1 = false
  cmb : ∀ q ∈ rows, q.2.2 < 2 ^ B.length ∧ comb B q.2.2 = q.2.1
  span : ∀ b ∈ B, Sp (rows.map fun q => q.2.1) b
  le : rows.length ≤ B.length
  len : rows.length = B.length ↔ Ind B
section
variable {B : List Nat} {rows : List Row3}
theorem Rw.start : Rw [] [] := ⟨(fun q hq => nomatch hq), .nil, (fun q hq => nomatch hq), (fun b hb => nomatch hb), Nat.le_refl _, ⟨fun _ z hz _ => by simp at hz; exact hz, fun _ => rfl⟩⟩
theorem tri_of (own : ∀ q ∈ rows, q.2.1.testBit q.1 = true) (oth : rows.Pairwise fun q q' => q'.2.1.testBit q.1 = false ∧ q.2.1.testBit q'.1 = false) : Tri (rows.map two) := by
  induction rows with
  | nil => exact .nil
  | cons q rows ih =>
    obtain ⟨h1, h2⟩ := List.pairwise_cons.mp oth
    refine .cons (ih (fun q' hq => own q' (List.mem_cons_of_mem _ hq)) h2) (own q List.mem_cons_self) fun x hx => ?_
    obtain ⟨q', hq', rfl⟩ := List.mem_map.mp hx
    exact (h1 q' hq').1
theorem Rw.tri (h : Rw B rows) : Tri (rows.map two) := tri_of h.own h.oth
theorem map_two (rows : List Row3) : (rows.map two).map (fun q => q.2) = rows.map fun q => q.2.1 := by
  rw [List.map_map]
  rfl
theorem Rw.left_zero (h : Rw B rows) (x u : Nat) : (red3 rows x u).1 = 0 ↔ Sp B x := by
  rw [red3_fst, redu_zero h.tri, map_two]
  constructor
  · intro hs
    refine hs.mono fun b hb => ?_
    obtain ⟨q, hq, rfl⟩ := List.mem_map.mp hb
    rw [← (h.cmb q hq).2]
    exact comb_sp B _
  · exact fun hs => hs.mono h.span
theorem Rw.left_off (h : Rw B rows) (x u : Nat) : ∀ q ∈ rows, (red3 rows x u).1.testBit q.1 = false := fun q hq => by
  rw [red3_fst]
  exact redu_none h.tri x (two q) (List.mem_map.mpr ⟨q, hq, rfl⟩)
theorem red3_comb (hc : ∀ q ∈ rows, q.2.2 < 2 ^ B.length ∧ comb B q.2.2 = q.2.1) : ∀ (x u : Nat), u < 2 ^ B.length → (red3 rows x u).2 < 2 ^ B.length ∧ comb B (red3 rows x u).2 = comb B u ^^^ (x ^^^ (red3 rows x u).1) := by
  induction rows with
  | nil => intro x u hu; exact ⟨hu, by show _ = _ ^^^ (x ^^^ x); rw [Nat.xor_self, Nat.xor_zero]; rfl⟩
  | cons q rows ih =>
    intro x u hu
    have hq := hc q List.mem_cons_self
    have ih := ih fun q' hq' => hc q' (List.mem_cons_of_mem _ hq')
    rw [red3_cons]
    by_cases h : x.testBit q.1 = true
    · rw [if_pos h]
      obtain ⟨i1, i2⟩ := ih (x ^^^ q.2.1) (u ^^^ q.2.2) (Nat.xor_lt_two_pow hu hq.1)
      refine ⟨i1, ?_⟩
      rw [i2, comb_xor, hq.2]
      refine Nat.eq_of_testBit_eq fun i => ?_
      simp only [Nat.testBit_xor]
      generalize (red3 rows (x ^^^ q.2.1) (u ^^^ q.2.2)).1.testBit i = y
      cases (comb B u).testBit i <;> cases q.2.1.testBit i <;> cases x.testBit i <;> cases y <;> rfl
    · rw [if_neg h]
      exact ih x u hu
theorem sp_off (h : Rw B rows) {x : Nat} (hx : ∀ b ∈ B, b < 2 ^ x) : ∀ q ∈ rows, q.2.1 < 2 ^ x := fun q hq => by
  rw [← (h.cmb q hq).2]
  exact (comb_sp B _).lt hx
theorem comb_low {z : Nat} (b : Nat) (hz : z < 2 ^ B.length) : comb (B ++ [b]) z = comb B z := by
  rw [comb_snoc, Nat.testBit_lt_two_pow hz]
  simp
theorem Rw.skip {b : Nat} (h : Rw B rows) (hs : Sp B b) : Rw (B ++ [b]) rows := by
  have hl : (B ++ [b]).length = B.length + 1 := by simp
  refine ⟨h.own, h.oth, fun q hq => ⟨?_, ?_⟩, fun c hc => ?_, ?_, ?_⟩
  · have := (h.cmb q hq).1
    rw [hl, Nat.pow_succ]
    (first | lia | omega)
  · rw [comb_low b (h.cmb q hq).1]
    exact (h.cmb q hq).2
  · rcases List.mem_append.mp hc with hc | hc
    · exact h.span c hc
    · have e : c = b := by simpa using hc
      rw [e]
      exact hs.mono h.span
  · have := h.le
    (first | lia | omega)
  · rw [ind_snoc]
    have := h.le
    exact ⟨fun e => by (first | lia | omega), fun z => absurd hs z.2⟩
theorem Rw.put {b : Nat} (h : Rw B rows) (h0 : (red3 rows b 0).1 ≠ 0) : Rw (B ++ [b]) (putR rows ((red3 rows b 0).1.log2, (red3 rows b 0).1, (red3 rows b 0).2 ^^^ 2 ^ B.length)) := by
  have hl : (B ++ [b]).length = B.length + 1 := by simp
  have hns : ¬ Sp B b := fun z => h0 ((h.left_zero b 0).mpr z)
  have off := h.left_off b 0
  obtain ⟨c1, c2⟩ := red3_comb h.cmb b 0 (Nat.two_pow_pos _)
  rw [comb_zero, Nat.zero_xor] at c2
  have hsp : Sp (rows.map fun q => q.2.1) (b ^^^ (red3 rows b 0).1) := by
    rw [red3_fst]
    have := redu_sp (rows.map two) b
    rwa [map_two] at this
  generalize red3 rows b 0 = lu at *
  obtain ⟨l, u⟩ := lu
  have h0 : l ≠ 0 := h0
  have top := top_bit h0
  have c1 : u < 2 ^ B.length := c1
  have c2 : comb B u = b ^^^ l := c2
  have off : ∀ q ∈ rows, l.testBit q.1 = false := off
  have hsp : Sp (rows.map fun q => q.2.1) (b ^^^ l) := hsp
  show Rw (B ++ [b]) (putR rows (l.log2, l, u ^^^ 2 ^ B.length))
  generalize l.log2 = t at top
  have p2 : 2 ^ B.length < 2 ^ (B ++ [b]).length := by rw [hl]; exact Nat.pow_lt_pow_right (by decide) (by (first | lia | omega))
  have hc : comb (B ++ [b]) (u ^^^ 2 ^ B.length) = l := by
    have h1 : (u ^^^ 2 ^ B.length).testBit B.length = true := by
      rw [Nat.testBit_xor, Nat.testBit_lt_two_pow c1, Nat.testBit_two_pow_self]
      rfl
    have h2 : comb B (2 ^ B.length) = 0 := comb_high B fun i hi => by
      rw [Nat.testBit_two_pow]
      exact decide_eq_false (by (first | lia | omega))
    rw [comb_snoc, h1, if_pos rfl, comb_xor, h2, c2, Nat.xor_zero]
    refine Nat.eq_of_testBit_eq fun i => ?_
    simp only [Nat.testBit_xor]
    cases b.testBit i <;> cases l.testBit i <;> rfl
  unfold putR
  refine ⟨fun q hq => ?_, List.pairwise_cons.mpr ⟨fun q hq => ?_, ?_⟩, fun q hq => ?_, fun c hc => ?_, ?_, ?_⟩
  · rcases List.mem_cons.mp hq with e | hq
    · rw [e]
      exact top
    · obtain ⟨q0, hq0, rfl⟩ := List.mem_map.mp hq
      by_cases e : q0.2.1.testBit t = true
      · rw [if_pos e]
        show (q0.2.1 ^^^ l).testBit q0.1 = true
        rw [Nat.testBit_xor, h.own q0 hq0, off q0 hq0]
        rfl
      · rw [if_neg e]
        exact h.own q0 hq0
  · obtain ⟨q0, hq0, rfl⟩ := List.mem_map.mp hq
    by_cases e : q0.2.1.testBit t = true
    · rw [if_pos e]
      refine ⟨?_, off q0 hq0⟩
      show (q0.2.1 ^^^ l).testBit t = false
      rw [Nat.testBit_xor, e, top]
      rfl
    · rw [if_neg e]
      exact ⟨Bool.eq_false_iff.mpr e, off q0 hq0⟩
  · refine List.pairwise_map.mpr (List.Pairwise.imp_of_mem (fun {q q'} hq hq' hz => ?_) h.oth)
    obtain ⟨z1, z2⟩ := hz
    have o1 := off q hq
    have o2 := off q' hq'
    have fst : ∀ q : Row3, (if q.2.1.testBit t = true then (q.1, q.2.1 ^^^ l, q.2.2 ^^^ (u ^^^ 2 ^ B.length)) else q).1 = q.1 := fun q => by
      split <;> rfl
    have snd : ∀ (q : Row3) (k : Nat), l.testBit k = false → (if q.2.1.testBit t = true then (q.1, q.2.1 ^^^ l, q.2.2 ^^^ (u ^^^ 2 ^ B.length)) else q).2.1.testBit k = q.2.1.testBit k := fun q k hk => by
      split
      · show (q.2.1 ^^^ l).testBit k = _
        rw [Nat.testBit_xor, hk, Bool.xor_false]
      · rfl
    refine ⟨?_, ?_⟩
    · rw [snd q' _ (by rw [fst]; exact o1), fst]
      exact z1
    · rw [snd q _ (by rw [fst]; exact o2), fst]
      exact z2
  · rcases List.mem_cons.mp hq with e | hq
    · rw [e]
      exact ⟨Nat.xor_lt_two_pow (by (first | lia | omega)) p2, hc⟩
    · obtain ⟨q0, hq0, rfl⟩ := List.mem_map.mp hq
      obtain ⟨d1, d2⟩ := h.cmb q0 hq0
      by_cases e : q0.2.1.testBit t = true
      · rw [if_pos e]
        refine ⟨Nat.xor_lt_two_pow (by (first | lia | omega)) (Nat.xor_lt_two_pow (by (first | lia | omega)) p2), ?_⟩
        show comb (B ++ [b]) (q0.2.2 ^^^ (u ^^^ 2 ^ B.length)) = q0.2.1 ^^^ l
        rw [comb_xor, hc, comb_low b d1, d2]
      · rw [if_neg e]
        exact ⟨by (first | lia | omega), by rw [comb_low b d1, d2]⟩
  · have inL : l ∈ (((t, l, u ^^^ 2 ^ B.length) : Row3) :: rows.map fun q => if q.2.1.testBit t = true then (q.1, q.2.1 ^^^ l, q.2.2 ^^^ (u ^^^ 2 ^ B.length)) else q).map fun q => q.2.1 := by
      rw [List.map_cons]
      exact List.mem_cons_self
    have old : ∀ x ∈ rows.map (fun q => q.2.1), Sp ((((t, l, u ^^^ 2 ^ B.length) : Row3) :: rows.map fun q => if q.2.1.testBit t = true then (q.1, q.2.1 ^^^ l, q.2.2 ^^^ (u ^^^ 2 ^ B.length)) else q).map fun q => q.2.1) x := fun x hx => by
      obtain ⟨q0, hq0, rfl⟩ := List.mem_map.mp hx
      have hm : (if q0.2.1.testBit t = true then (q0.1, q0.2.1 ^^^ l, q0.2.2 ^^^ (u ^^^ 2 ^ B.length)) else q0).2.1 ∈ (((t, l, u ^^^ 2 ^ B.length) : Row3) :: rows.map fun q => if q.2.1.testBit t = true then (q.1, q.2.1 ^^^ l, q.2.2 ^^^ (u ^^^ 2 ^ B.length)) else q).map fun q => q.2.1 :=
        List.mem_map.mpr ⟨_, List.mem_cons_of_mem _ (List.mem_map.mpr ⟨q0, hq0, rfl⟩), rfl⟩
      by_cases e : q0.2.1.testBit t = true
      · rw [if_pos e] at hm
        have := (Sp.mem hm).xor (Sp.mem inL)
        rwa [xor_twice] at this
      · rw [if_neg e] at hm
        exact .mem hm
    rcases List.mem_append.mp hc with hc | hc
    · exact (h.span c hc).mono old
    · have e : c = b := by simpa using hc
      rw [e]
      have := (hsp.mono old).xor (Sp.mem inL)
      rwa [xor_twice] at this
  · rw [List.length_cons, List.length_map, hl]
    have := h.le
    (first | lia | omega)
  · rw [List.length_cons, List.length_map, hl, ind_snoc]
    have := h.len
    constructor
    · exact fun e => ⟨this.mp (by (first | lia | omega)), hns⟩
    · exact fun e => by have := this.mpr e.1; (first | lia | omega)
def rx (f : Row3 → Bool) : List Row3 → Bool
  | [] => false
  | q :: rows => f q ^^ rx f rows
theorem rx_congr {f g : Row3 → Bool} : ∀ {rows : List Row3}, (∀ q ∈ rows, f q = g q) → rx f rows = rx g rows
  | [], _ => rfl
  | q :: rows, h => by
    unfold rx
    rw [h q List.mem_cons_self, rx_congr fun q' hq => h q' (List.mem_cons_of_mem _ hq)]
theorem red3_used (i : Nat) : ∀ {rows : List Row3}, (rows.Pairwise fun q q' => q'.2.1.testBit q.1 = false ∧ q.2.1.testBit q'.1 = false) → ∀ (x u : Nat), (red3 rows x u).2.testBit i = (u.testBit i ^^ rx (fun q => x.testBit q.1 && q.2.2.testBit i) rows)
  | [], _, x, u => by show u.testBit i = (u.testBit i ^^ false); rw [Bool.xor_false]
  | q :: rows, oth, x, u => by
    obtain ⟨h1, h2⟩ := List.pairwise_cons.mp oth
    have ih := red3_used i h2
    rw [red3_cons]
    unfold rx
    by_cases h : x.testBit q.1 = true
    · rw [if_pos h, ih, h, Bool.true_and, Nat.testBit_xor, Bool.xor_assoc]
      congr 2
      exact rx_congr fun q' hq => by rw [Nat.testBit_xor, (h1 q' hq).2, Bool.xor_false]
    · rw [if_neg h, ih, Bool.eq_false_iff.mpr h, Bool.false_and, Bool.false_xor]
def leadsAt (rows : List Row3) (i : Nat) : List Nat := (rows.filter fun q => q.2.2.testBit i).map fun q => q.1
theorem leads_nodup (own : ∀ q ∈ rows, q.2.1.testBit q.1 = true) (oth : rows.Pairwise fun q q' => q'.2.1.testBit q.1 = false ∧ q.2.1.testBit q'.1 = false) (i : Nat) : (leadsAt rows i).Nodup := by
  unfold leadsAt
  refine List.pairwise_map.mpr ((List.Pairwise.imp_of_mem (fun {q q'} hq hq' hz e => ?_) oth).filter _)
  have := own q' hq'
  rw [← e, hz.1] at this
  cases this
theorem xsum_list (f : Nat → Bool) (n : Nat) : ∀ {l : List Nat}, l.Nodup → (∀ k ∈ l, k < n) → xsum (fun k => f k && decide (k ∈ l)) n = l.foldr (fun k acc => f k ^^ acc) false
  | [], _, _ => xsum_none fun k _ => by simp
  | a :: l, nd, h => by
    obtain ⟨n1, n2⟩ := List.nodup_cons.mp nd
    have ih := xsum_list f n n2 fun k hk => h k (List.mem_cons_of_mem _ hk)
    have : xsum (fun k => f k && decide (k ∈ a :: l)) n = xsum (fun k => (f k && decide (a = k)) ^^ (f k && decide (k ∈ l))) n := xsum_congr fun k _ => by
      by_cases e : a = k
      · subst e
        rw [decide_eq_true List.mem_cons_self, decide_eq_true rfl, decide_eq_false n1, Bool.and_false, Bool.xor_false]
      · have : (k ∈ a :: l) ↔ k ∈ l := ⟨fun z => (List.mem_cons.mp z).resolve_left fun z => e z.symm, List.mem_cons_of_mem _⟩
        rw [decide_eq_false e, Bool.and_false, Bool.false_xor, decide_eq_decide.mpr this]
    rw [this, xsum_xor, xsum_point f (h a List.mem_cons_self), ih]
    rfl
theorem rx_leads (f : Nat → Bool) (i : Nat) : ∀ rows : List Row3, (leadsAt rows i).foldr (fun k acc => f k ^^ acc) false = rx (fun q => f q.1 && q.2.2.testBit i) rows
  | [] => rfl
  | q :: rows => by
    have ih := rx_leads f i rows
    unfold leadsAt at ih ⊢
    unfold rx
    cases h : q.2.2.testBit i with
    | true =>
      rw [List.filter_cons, if_pos h, List.map_cons, List.foldr_cons, ih, Bool.and_true]
    | false =>
      rw [List.filter_cons, if_neg (by rw [h]; decide), ih, Bool.and_false, Bool.false_xor]
theorem Rw.marks {N : Net} (h : Rw B rows) (hi : Ind B) (hb : ∀ b ∈ B, b < 2 ^ N.n) {i j b : Nat} (hj : B[j]? = some b) : N.par b (Ring.orM (leadsAt rows i)) = decide (i = j) ∧ ∀ k ∈ leadsAt rows i, k < N.n := by
  have lt : ∀ k ∈ leadsAt rows i, k < N.n := fun k hk => by
    obtain ⟨q, hq, rfl⟩ := List.mem_map.mp hk
    have hq := (List.mem_filter.mp hq).1
    exact bits_lt (sp_off h hb q hq) (h.own q hq)
  refine ⟨?_, lt⟩
  have e1 : N.par b (Ring.orM (leadsAt rows i)) = rx (fun q => b.testBit q.1 && q.2.2.testBit i) rows := by
    rw [← rx_leads (fun k => b.testBit k), ← xsum_list (fun k => b.testBit k) N.n (leads_nodup h.own h.oth i) lt]
    exact xsum_congr fun k _ => by rw [Ring.orM_bit]
  have hz : (red3 rows b 0).1 = 0 := (h.left_zero b 0).mpr (.mem (List.mem_of_getElem? hj))
  obtain ⟨c1, c2⟩ := red3_comb h.cmb b 0 (Nat.two_pow_pos _)
  rw [comb_zero, Nat.zero_xor, hz, Nat.xor_zero] at c2
  replace c2 := c2.trans (comb_pow hj).symm
  have hjl := (List.getElem?_eq_some_iff.mp hj).1
  have e2 := ind_zero B hi c1 (Nat.pow_lt_pow_right (by decide) hjl) c2
  have e3 := red3_used i h.oth b 0
  rw [e2, Nat.zero_testBit, Bool.false_xor, Nat.testBit_two_pow] at e3
  rw [e1, ← e3]
  exact decide_eq_decide.mpr eq_comm
end
end RM

namespace Ring
open PySem L2
def row3V (q : RM.Row3) : List V := [.int (q.1 : Int), .int (q.2.1 : Int), .int (q.2.2 : Int)]
def Row3At (H : Hp) (x : V) (q : RM.Row3) : Prop := ∃ b, x = .ref b ∧ H b = some (.tup (row3V q))
theorem Row3At.tups {H H' : Hp} (s : Tups H H') {x : V} {q : RM.Row3} (h : Row3At H x q) : Row3At H' x q := let ⟨b, e, z⟩ := h; ⟨b, e, s _ _ z⟩
def Rows3At (H : Hp) (l : Addr) (rows : List RM.Row3) : Prop := ∃ xs, H l = some (.lst xs) ∧ Paired (Row3At H) xs rows
theorem Rows3At.same {H H' : Hp} (s : Same H H') {l : Addr} {rows : List RM.Row3} (h : Rows3At H l rows) : Rows3At H' l rows := let ⟨xs, e, z⟩ := h; ⟨xs, s _ _ e, Paired.imp' (fun _ _ z => z.tups s.tups) z⟩
theorem red3_snoc (rows : List RM.Row3) (q : RM.Row3) (x u : Nat) : RM.red3 (rows ++ [q]) x u = if (RM.red3 rows x u).1.testBit q.1 = true then ((RM.red3 rows x u).1 ^^^ q.2.1, (RM.red3 rows x u).2 ^^^ q.2.2) else RM.red3 rows x u := by
  unfold RM.red3
  rw [List.foldl_append]
  rfl
theorem take3 {α : Type} {l : List α} {i : Nat} {q : α} (h : l[i]? = some q) : l.take (i + 1) = l.take i ++ [q] := by
  rw [List.take_add_one, h]
  rfl
theorem bits_log {m : Nat} (h : m ≠ 0) : ((Builtin.Int.intBits (m : Int) : Nat) : Int) - 1 = ((m.log2 : Nat) : Int) := by
  rw [bits_nat, if_neg h]
  (first | lia | omega)
end Ring

namespace L2
open PySem PySem.Spec PyProof.Rows
theorem comp_enumL {K : PySem.W.Frag} {a : Addr} {xs : List V} {g : TG} {tt : TT} {te : TE} {n : Nat} {fr : St} {D : Addr} {Q : Hp → Prop} {H1 : Hp} (Pv : Nat → List V → Hp → Prop) (h0 : Pv 0 [] H1) (hl : ∀ i acc H, i ≤ xs.length → Pv i acc H → SqL K H a xs ∧ H D = some (.lst acc) ∧ acc.length ≤ i) (hz : xs.length ≤ sizeLine)
    (hs : ∀ i x T acc H, xs[i]? = some x → Pv i acc H → H T = none → g (.ref T) (List.replicate n none ++ fr) (upd H T (.tup [.int (i : Int), x])) fun σ2 H2 => σ2.drop n = fr ∧ tt σ2 H2 fun b H3 =>
      if b = true then te σ2 H3 fun v H4 => H4 D = some (.lst acc) ∧ Pv (i + 1) (acc ++ [v]) (upd H4 D (.lst (acc ++ [v]))) else Pv (i + 1) acc H3)
    (hd : ∀ acc H, Pv xs.length acc H → Q H) : CompLoop (Ite K a) g tt te n fr D Q H1 := by
  refine ⟨fun i m acc H => m = xs.length - i ∧ i ≤ xs.length ∧ Pv i acc H, ⟨xs.length, by simp, Nat.zero_le _, h0⟩, ?_⟩
  rintro i m acc H ⟨rfl, hi, p⟩
  obtain ⟨q, hD, ha⟩ := hl i acc H hi p
  refine ⟨hD, ?_⟩
  by_cases hlt : i < xs.length
  · refine .inr ⟨⟨xs, xs[i], q, by simp [hlt]⟩, by (first | lia | omega), Pv (i + 1), fun acc' H' p' => ⟨xs.length - (i + 1), by (first | lia | omega), rfl, hlt, p'⟩, fun v H' y => ?_⟩
    obtain ⟨T, x, rfl, hT, rfl, y⟩ := y
    exact hs i x T acc _ (y xs q) p hT
  · have e : i = xs.length := by (first | lia | omega)
    subst e
    exact .inl ⟨⟨xs, q, Nat.le_refl _⟩, hd acc H p⟩
end L2

namespace RM
variable {N : Net} {S : Nat → Bool}
def RelS (N : Net) (S : Nat → Bool) (L : Nat → Nat) (k : Nat) : Prop := ∀ x y, x < N.p → y < N.p → (L x = L y ↔ N.labs S k x = N.labs S k y)
theorem RelS.start : RelS N S (fun x => x) 0 := fun _ _ _ _ => Iff.rfl
theorem RelS.skip {L : Nat → Nat} {k : Nat} (h : RelS N S L k) (hs : S k = false) : RelS N S L (k + 1) := by
  intro x y hx hy
  rw [labs_succ, if_neg (by rw [hs]; decide)]
  exact h x y hx hy
theorem RelS.put {L : Nat → Nat} {k : Nat} (h : RelS N S L k) (hk : k < N.n) (hs : S k = true) : RelS N S (mrg L (N.a k) (N.b k)) (k + 1) := by
  intro x y hx hy
  have ha := N.al k hk
  have hb := N.bl k hk
  rw [labs_succ, if_pos hs, mrg_iff, join_iff, h x y hx hy, h x _ hx ha, h y _ hy hb, h x _ hx hb, h y _ hy ha]
open Classical in
theorem met_cnt (val : Nat → Int) : ∀ n, (PyProof.Rows.firstMet val n).length = cnt (fun i => !decide (∃ j, j < i ∧ val j = val i)) n ∧ ∀ z, z ∈ PyProof.Rows.firstMet val n ↔ ∃ j, j < n ∧ val j = z
  | 0 => by
    rw [PyProof.Rows.firstMet_zero]
    exact ⟨rfl, fun z => ⟨fun h => (nomatch h), fun ⟨j, hj, _⟩ => absurd hj (Nat.not_lt_zero _)⟩⟩
  | n + 1 => by
    obtain ⟨h1, h2⟩ := met_cnt val n
    rw [PyProof.Rows.firstMet_succ]
    unfold PyProof.Rows.step_dedup
    have hm := h2 (val n)
    have ha : ((PyProof.Rows.firstMet val n).any fun x => x == val n) = true ↔ val n ∈ PyProof.Rows.firstMet val n := by simp
    have mem : ∀ z, (∃ j, j < n + 1 ∧ val j = z) ↔ (∃ j, j < n ∧ val j = z) ∨ val n = z := fun z => by
      constructor
      · rintro ⟨j, hj, e⟩
        by_cases ej : j = n
        · subst ej; exact .inr e
        · exact .inl ⟨j, by (first | lia | omega), e⟩
      · rintro (⟨j, hj, e⟩ | e)
        · exact ⟨j, by (first | lia | omega), e⟩
        · exact ⟨n, by (first | lia | omega), e⟩
    by_cases hin : val n ∈ PyProof.Rows.firstMet val n
    · rw [if_pos (ha.mpr hin)]
      refine ⟨?_, fun z => ?_⟩
      · show _ = cnt _ n + (if (!decide (∃ j, j < n ∧ val j = val n)) = true then 1 else 0)
        rw [h1, decide_eq_true (hm.mp hin)]
        rfl
      · rw [mem, h2]
        exact ⟨.inl, fun h => h.elim id fun e => e ▸ hm.mp hin⟩
    · rw [if_neg (fun z => hin (ha.mp z))]
      refine ⟨?_, fun z => ?_⟩
      · show _ = cnt _ n + (if (!decide (∃ j, j < n ∧ val j = val n)) = true then 1 else 0)
        rw [List.length_append, h1, decide_eq_false (fun z => hin (hm.mpr z))]
        rfl
      · rw [mem, List.mem_append, h2]
        exact ⟨fun h => h.elim .inl fun e => .inr (List.mem_singleton.mp e).symm, fun h => h.elim .inl fun e => .inr (by simp [e])⟩
theorem rel_cnt {L : Nat → Nat} (h : RelS N S L N.n) : (PyProof.Rows.firstMet (fun i => ((L i : Nat) : Int)) N.p).length = cnt (N.root S N.n) N.p := by
  rw [(met_cnt _ N.p).1]
  refine cnt_congr fun x hx => ?_
  unfold Net.root
  rw [Bool.eq_iff_iff, Bool.not_eq_true', decide_eq_false_iff_not, decide_eq_true_iff]
  constructor
  · intro hn
    apply Classical.byContradiction
    intro hne
    have hle := labs_le (N := N) (S := S) N.n x
    have hlt : N.labs S N.n x < x := by (first | lia | omega)
    exact hn ⟨N.labs S N.n x, hlt, by
      have := (h (N.labs S N.n x) x (by (first | lia | omega)) hx).mpr (labs_root N.n x)
      rw [this]⟩
  · rintro hr ⟨j, hj, e⟩
    have e : L j = L x := by (first | lia | omega)
    have e2 := (h j x (by (first | lia | omega)) hx).mp e
    have := labs_le (N := N) (S := S) N.n j
    (first | lia | omega)
theorem d2_count {m : Nat} (hm : m < 2 ^ N.n) (h0 : m ≠ 0) (d2 : N.D2 m) : N.Ring m ↔ cnt (N.root (fun k => m.testBit k) N.n) N.p + cnt (fun x => decide (N.dg m x = 2)) N.p = N.p + 1 := by
  have hR : ∀ x, x < N.p → N.dg m x = 0 → N.root (fun k => m.testBit k) N.n x = true := fun x hx hd => by
    unfold Net.root
    rw [decide_eq_true_iff]
    exact alone hd (labs_conn _ _ _ (labs_root N.n x).symm)
  -- roots: those without ties, and those with two that are roots
  have split : cnt (N.root (fun k => m.testBit k) N.n) N.p = cnt (fun x => !decide (N.dg m x = 2)) N.p + cnt (fun x => decide (N.dg m x = 2) && N.root (fun k => m.testBit k) N.n x) N.p := by
    rw [← cnt_or (fun x hx => by cases decide (N.dg m x = 2) <;> simp)]
    refine cnt_congr fun x hx => ?_
    rcases d2 x hx with h | h
    · rw [hR x hx h, decide_eq_false (by (first | lia | omega))]
      rfl
    · rw [decide_eq_true h]
      simp
  have cn := cnt_not (fun x => decide (N.dg m x = 2)) N.p
  obtain ⟨k0, hk0⟩ : ∃ k, m.testBit k = true := by
    apply Classical.byContradiction
    intro h
    exact h0 (Nat.eq_of_testBit_eq fun i => by
      rw [Nat.zero_testBit]
      cases e : m.testBit i with
      | false => rfl
      | true => exact absurd ⟨i, e⟩ h)
  have hkn := bits_lt hm hk0
  have hx0 := N.al k0 hkn
  have hd0 : N.dg m (N.a k0) = 2 := by
    have := dg_at hkn hk0 (.inl rfl : N.a k0 = N.a k0 ∨ N.b k0 = N.a k0)
    rcases d2 _ hx0 with h | h <;> (first | lia | omega)
  rw [d2_one hm d2 hx0 hd0]
  generalize hx : N.a k0 = x0 at hx0 hd0
  -- the root of a point with two ties has two ties
  have up : ∀ x, x < N.p → N.dg m x = 2 → N.dg m (N.labs (fun k => m.testBit k) N.n x) = 2 := fun x hx hd => by
    have hl := labs_lt (N := N) (S := fun k => m.testBit k) (k := N.n) hx
    rcases d2 _ hl with h | h
    · have e : x = N.labs (fun k => m.testBit k) N.n x := alone h (labs_conn _ _ _ (labs_root N.n x))
      rw [← e] at h
      (first | lia | omega)
    · exact h
  have r0 : N.labs (fun k => m.testBit k) N.n x0 < N.p := labs_lt hx0
  constructor
  · intro h
    have one : cnt (fun x => decide (N.dg m x = 2) && N.root (fun k => m.testBit k) N.n x) N.p = 1 := by
      have : cnt (fun x => decide (N.dg m x = 2) && N.root (fun k => m.testBit k) N.n x) N.p = cnt (fun x => decide (N.labs (fun k => m.testBit k) N.n x0 = x)) N.p := cnt_congr fun x hx => by
        rw [Bool.eq_iff_iff, Bool.and_eq_true, decide_eq_true_iff, decide_eq_true_iff]
        unfold Net.root
        rw [decide_eq_true_iff]
        constructor
        · rintro ⟨h1, h2⟩
          rw [← (h x hx).mpr h1]
          exact h2
        · rintro rfl
          exact ⟨up x0 hx0 hd0, labs_root N.n x0⟩
      rw [this, cnt_eq, if_pos r0]
    (first | lia | omega)
  · intro h x hx
    have one : cnt (fun x => decide (N.dg m x = 2) && N.root (fun k => m.testBit k) N.n x) N.p = 1 := by (first | lia | omega)
    have at0 : (decide (N.dg m (N.labs (fun k => m.testBit k) N.n x0) = 2) && N.root (fun k => m.testBit k) N.n (N.labs (fun k => m.testBit k) N.n x0)) = true := by
      rw [Bool.and_eq_true, decide_eq_true_iff]
      unfold Net.root
      rw [decide_eq_true_iff]
      exact ⟨up x0 hx0 hd0, labs_root N.n x0⟩
    constructor
    · intro e
      rcases d2 x hx with h | h
      · have e2 : x0 = x := alone h (labs_conn _ _ _ e)
        rw [← e2] at h
        (first | lia | omega)
      · exact h
    · intro hd
      have at1 : (decide (N.dg m (N.labs (fun k => m.testBit k) N.n x) = 2) && N.root (fun k => m.testBit k) N.n (N.labs (fun k => m.testBit k) N.n x)) = true := by
        rw [Bool.and_eq_true, decide_eq_true_iff]
        unfold Net.root
        rw [decide_eq_true_iff]
        exact ⟨up x hx hd, labs_root N.n x⟩
      apply Classical.byContradiction
      intro hne
      have := two_cnt (f := fun x => decide (N.dg m x = 2) && N.root (fun k => m.testBit k) N.n x) at1 at0 hne (labs_lt hx) r0
      (first | lia | omega)
end RM

namespace RM
variable {N : Net} {s u : Nat}
structure BF (N : Net) (s u : Nat) (l : List Nat) (c : Nat → Nat) : Prop where
  nd : l.Nodup
  mem : u ∈ l
  lt : ∀ x ∈ l, x < N.p
  sub : ∀ x ∈ l, ∀ k, (c x).testBit k = true → s.testBit k = true
  bd : ∀ x ∈ l, ∀ y, N.bd (c x) y = (decide (u = y) ^^ decide (x = y))
  ends : ∀ x ∈ l, ∀ k, (c x).testBit k = true → N.a k ∈ l ∧ N.b k ∈ l
def Lft (N : Net) (s : Nat) (l : List Nat) (x j : Nat) : Prop := ∀ k, k < j → s.testBit k = true → ∀ y, Jn N k x y → y ∈ l
theorem BF.start (hu : u < N.p) : BF N s u [u] (fun _ => 0) := by
  refine ⟨by simp, by simp, fun x hx => ?_, fun x _ k hk => ?_, fun x hx y => ?_, fun x _ k hk => ?_⟩
  · have e : x = u := by simpa using hx
    rw [e]; exact hu
  · rw [Nat.zero_testBit] at hk; cases hk
  · have e : x = u := by simpa using hx
    rw [bd_zero, e, Bool.xor_self]
  · rw [Nat.zero_testBit] at hk; cases hk
theorem BF.put {l : List Nat} {c : Nat → Nat} (h : BF N s u l c) (hs : s < 2 ^ N.n) {x y k : Nat} (hx : x ∈ l) (hk : k < N.n) (hb : s.testBit k = true) (hj : Jn N k x y) (hy : y ∉ l) : BF N s u (l ++ [y]) (fun z => if z = y then c x ||| 2 ^ k else c z) := by
  have hyp := hj.lt hk
  have off : (c x).testBit k = false := by
    cases e : (c x).testBit k with
    | false => rfl
    | true =>
      obtain ⟨e1, e2⟩ := h.ends x hx k e
      rcases hj with ⟨_, rfl⟩ | ⟨_, rfl⟩
      · exact absurd e2 hy
      · exact absurd e1 hy
  have ne : ∀ z ∈ l, z ≠ y := fun z hz e => hy (e ▸ hz)
  have eor : c x ||| 2 ^ k = c x ^^^ 2 ^ k := Nat.eq_of_testBit_eq fun j => by
    rw [Nat.testBit_or, Nat.testBit_xor, Nat.testBit_two_pow]
    by_cases e : k = j
    · subst e
      rw [off]
      simp
    · rw [decide_eq_false e, Bool.or_false, Bool.xor_false]
  have bits : ∀ j, (c x ||| 2 ^ k).testBit j = true → (c x).testBit j = true ∨ j = k := fun j hj => by
    rw [Nat.testBit_or, Nat.testBit_two_pow] at hj
    by_cases e : k = j
    · exact .inr e.symm
    · rw [decide_eq_false e, Bool.or_false] at hj
      exact .inl hj
  refine ⟨?_, List.mem_append_left _ h.mem, fun z hz => ?_, fun z hz j hj' => ?_, fun z hz w => ?_, fun z hz j hj' => ?_⟩
  · exact List.nodup_append.mpr ⟨h.nd, by simp, fun a ha b hb' => by
      have e : b = y := by simpa using hb'
      rw [e]
      exact ne a ha⟩
  · rcases List.mem_append.mp hz with hz | hz
    · exact h.lt z hz
    · have e : z = y := by simpa using hz
      rw [e]; exact hyp
  · rcases List.mem_append.mp hz with hz | hz
    · rw [if_neg (ne z hz)] at hj'
      exact h.sub z hz j hj'
    · have e : z = y := by simpa using hz
      rw [if_pos e] at hj'
      rcases bits j hj' with h1 | h1
      · exact h.sub x hx j h1
      · rw [h1]; exact hb
  · rcases List.mem_append.mp hz with hz | hz
    · rw [if_neg (ne z hz)]
      exact h.bd z hz w
    · have e : z = y := by simpa using hz
      rw [if_pos e, e, eor, bd_xor, h.bd x hx, bd_pow hk]
      unfold Net.inc
      rcases hj with ⟨rfl, rfl⟩ | ⟨rfl, rfl⟩
      · cases decide (u = w) <;> cases decide (N.a k = w) <;> cases decide (N.b k = w) <;> rfl
      · cases decide (u = w) <;> cases decide (N.a k = w) <;> cases decide (N.b k = w) <;> rfl
  · rcases List.mem_append.mp hz with hz | hz
    · rw [if_neg (ne z hz)] at hj'
      obtain ⟨e1, e2⟩ := h.ends z hz j hj'
      exact ⟨List.mem_append_left _ e1, List.mem_append_left _ e2⟩
    · have e : z = y := by simpa using hz
      rw [if_pos e] at hj'
      rcases bits j hj' with h1 | h1
      · obtain ⟨e1, e2⟩ := h.ends x hx j h1
        exact ⟨List.mem_append_left _ e1, List.mem_append_left _ e2⟩
      · subst h1
        have hy' : y ∈ l ++ [y] := List.mem_append_right _ (by simp)
        rcases hj with ⟨e1, e2⟩ | ⟨e1, e2⟩
        · rw [e1, e2]; exact ⟨List.mem_append_left _ hx, hy'⟩
        · rw [e1, e2]; exact ⟨hy', List.mem_append_left _ hx⟩
theorem BF.conn {l : List Nat} {c : Nat → Nat} (h : BF N s u l c) (hs : s < 2 ^ N.n) (all : ∀ x ∈ l, Lft N s l x N.n) {v : Nat} (hv : v < N.p) : v ∈ l ↔ N.Conn (fun k => s.testBit k) N.n u v := by
  constructor
  · intro hm
    exact bd_conn hs (h.sub v hm) (h.lt u h.mem) hv (h.bd v hm)
  · intro hc
    have key : ∀ v, N.Conn (fun k => s.testBit k) N.n u v → v ∈ l := by
      intro v hc
      induction hc with
      | refl => exact h.mem
      | fwd _ hk hb ih => exact all _ ih _ hk hb _ (.inl ⟨rfl, rfl⟩)
      | bwd _ hk hb ih => exact all _ ih _ hk hb _ (.inr ⟨rfl, rfl⟩)
    exact key v hc
end RM
namespace Ring
open PySem L2
def cameK (l : List Nat) (c : Nat → Nat) : List (Key × V) := l.map fun x => ((Sum.inl ((x : Nat) : Int) : Key), V.int ((c x : Nat) : Int))
theorem came_val (l : List Nat) (c : Nat → Nat) (x : Nat) : valV (cameK l c) (Sum.inl ((x : Nat) : Int)) = if x ∈ l then some (.int ((c x : Nat) : Int)) else none := by
  induction l with
  | nil => rfl
  | cons y l ih =>
    by_cases e : y = x
    · subst e
      rw [if_pos List.mem_cons_self]
      exact valV_pos rfl
    · have ne : ¬ (Sum.inl ((y : Nat) : Int) : Key) = Sum.inl ((x : Nat) : Int) := fun z => e (by have := Sum.inl.inj z; (first | lia | omega))
      show valV (((Sum.inl ((y : Nat) : Int) : Key), V.int ((c y : Nat) : Int)) :: cameK l c) _ = _
      rw [valV_neg ne, ih]
      by_cases hm : x ∈ l
      · rw [if_pos hm, if_pos (List.mem_cons_of_mem _ hm)]
      · rw [if_neg hm, if_neg (fun z => (List.mem_cons.mp z).elim (fun z => e z.symm) hm)]
theorem came_put {l : List Nat} {c : Nat → Nat} {x v : Nat} (h : x ∉ l) : putK (cameK l c) (Sum.inl ((x : Nat) : Int)) (.int ((v : Nat) : Int)) = cameK (l ++ [x]) (fun y => if y = x then v else c y) := by
  unfold putK
  rw [valV_any, came_val, if_neg h, if_neg (by decide)]
  unfold cameK
  rw [List.map_append]
  congr 1
  · refine List.map_congr_left fun y hy => ?_
    show _ = ((Sum.inl ((y : Nat) : Int) : Key), V.int (((if y = x then v else c y) : Nat) : Int))
    rw [if_neg (fun e : y = x => h (e ▸ hy))]
  · show _ = [((Sum.inl ((x : Nat) : Int) : Key), V.int (((if x = x then v else c x) : Nat) : Int))]
    rw [if_pos rfl]
end Ring

namespace L2
open PySem PySem.Spec PySem.Calls PyProof.Rows PySem.W
def clsVs (cs : List V) (us : List Value) : Prop := Paired (fun c u => clsV c = some u) cs us
theorem clsVs_of : ∀ {cs : List V} {us vs : List Value}, clsVs cs us → Vals cs vs → vs = us
  | _, _, _, .nil, .nil => rfl
  | _, _, _, .cons h t, .cons r rt => by rw [clsV_of h r, clsVs_of t rt]
def rIsiXT (K : Frag) : List V → Hp → VK → Prop := fun xs H Q => ∃ x tp cs us D b, xs = [.ref x, .ref tp] ∧ H tp = some (.tup cs) ∧ clsVs cs us ∧ H x = some (ExcO x (.ref D)) ∧ ExcCls K D ∧ kitAny K (.ref D) us = some b ∧ Q (.bl b) H
theorem isiXT {X : Cx} (K : Frag) (hK : X.K = K := by rfl) : CallR X (.builtin "isinstance") (rIsiXT K) := by
  subst hK
  intro pins s σ H xs us Q I r h
  obtain ⟨x, tp, cs, us', D, b, rfl, htp, rc, ty, C, e, q⟩ := h
  cases r with
  | cons r1 r2 =>
    cases r2 with
    | cons r2 r3 =>
      cases r3
      cases (show _ = Value.ref tp from r2)
      cases (show _ = Value.ref x from r1)
      obtain ⟨⟨oe, vs, e1, e2, _⟩, _⟩ := (show ObjOk X.prog X.w H s.heap x (ExcO x (.ref D)) from I.hok x _ ty)
      obtain ⟨_, its, rv, ⟨⟨c0, d0, dt0, sl0⟩, h1, h2, n, h3⟩⟩ := (show ObjOk X.prog X.w H s.heap tp (.tup cs) from I.hok tp _ htp)
      cases (show c0 = _ from h2)
      cases (show dt0 = _ from h3)
      rw [clsVs_of rc rv] at h1
      exact kia_tup (kitx_exc C) I.kIn ⟨oe, e1, e2⟩ h1 e (fun z => nomatch z) fun tk => ⟨.bl b, H, I.tok tk, rfl, q⟩
end L2

namespace RM
theorem xhalf (n : Nat) : ∀ e, xsum (fun j => n.testBit j) (e + 1) = (decide (n % 2 = 1) ^^ xsum (fun j => (n / 2).testBit j) e)
  | 0 => by
    show (false ^^ n.testBit 0) = (decide (n % 2 = 1) ^^ false)
    rw [Nat.testBit_zero, Bool.false_xor, Bool.xor_false]
  | e + 1 => by
    have ih := xhalf n e
    show (xsum (fun j => n.testBit j) (e + 1) ^^ n.testBit (e + 1)) = (decide (n % 2 = 1) ^^ (xsum (fun j => (n / 2).testBit j) e ^^ (n / 2).testBit e))
    rw [ih, Nat.testBit_succ, Bool.xor_assoc]
theorem and_half (a b : Nat) : (a &&& b) / 2 = a / 2 &&& b / 2 := Nat.eq_of_testBit_eq fun i => by
  rw [Nat.testBit_and, ← Nat.testBit_succ, ← Nat.testBit_succ, ← Nat.testBit_succ, Nat.testBit_and]
theorem low_off : ∀ (e n : Nat), n ≠ 0 → n < 2 ^ e → xsum (fun j => (n &&& (n - 1)).testBit j) e = !xsum (fun j => n.testBit j) e := by
  intro e
  induction e with
  | zero => intro n h0 hn; simp at hn; exact absurd hn h0
  | succ e ih =>
    intro n h0 hn
    have hb : (n &&& (n - 1)) % 2 = 1 ↔ False := by
      have := Nat.testBit_zero (n &&& (n - 1))
      rw [Nat.testBit_and, Nat.testBit_zero, Nat.testBit_zero] at this
      constructor
      · intro z
        rw [decide_eq_true z, Bool.and_eq_true, decide_eq_true_iff, decide_eq_true_iff] at this
        (first | lia | omega)
      · exact False.elim
    rw [xhalf, xhalf, and_half, decide_eq_false (fun z => hb.mp z), Bool.false_xor]
    by_cases h2 : n % 2 = 1
    · rw [decide_eq_true h2, show (n - 1) / 2 = n / 2 by (first | lia | omega), Nat.and_self]
      cases xsum (fun j => (n / 2).testBit j) e <;> rfl
    · rw [decide_eq_false h2, Bool.false_xor, show (n - 1) / 2 = n / 2 - 1 by (first | lia | omega)]
      exact ih (n / 2) (by (first | lia | omega)) (by rw [Nat.pow_succ] at hn; (first | lia | omega))
theorem ind_cons {b : Nat} {B : List Nat} : Ind (b :: B) ↔ Ind B ∧ ¬ Sp B b := by
  have dbl : ∀ z, (2 * z).testBit 0 = false := fun z => by rw [Nat.testBit_zero]; exact decide_eq_false (by (first | lia | omega))
  have dbl1 : ∀ z, (2 * z + 1).testBit 0 = true := fun z => by rw [Nat.testBit_zero]; exact decide_eq_true (by (first | lia | omega))
  constructor
  · intro h
    refine ⟨fun z hz e => ?_, fun hs => ?_⟩
    · have := h (2 * z) (by rw [List.length_cons, Nat.pow_succ]; (first | lia | omega)) (by
        unfold comb
        rw [dbl, if_neg (by decide), Nat.zero_xor, show 2 * z / 2 = z by (first | lia | omega)]
        exact e)
      (first | lia | omega)
    · obtain ⟨y, hy, e⟩ := sp_comb hs
      have := h (2 * y + 1) (by rw [List.length_cons, Nat.pow_succ]; (first | lia | omega)) (by
        unfold comb
        rw [dbl1, if_pos rfl, show (2 * y + 1) / 2 = y by (first | lia | omega), e, Nat.xor_self])
      (first | lia | omega)
  · rintro ⟨h, hs⟩ z hz e
    unfold comb at e
    rw [List.length_cons, Nat.pow_succ] at hz
    by_cases hb : z.testBit 0 = true
    · rw [if_pos hb] at e
      have e2 := xor_zero_eq e
      exact absurd (e2 ▸ comb_sp B (z / 2)) hs
    · rw [if_neg hb, Nat.zero_xor] at e
      have h0 := h (z / 2) (by (first | lia | omega)) e
      rw [Nat.testBit_zero, decide_eq_true_iff] at hb
      (first | lia | omega)
theorem sp_perm {B C : List Nat} (h : B.Perm C) (x : Nat) : Sp B x ↔ Sp C x :=
  ⟨fun z => z.mono fun b hb => .mem (h.mem_iff.mp hb), fun z => z.mono fun b hb => .mem (h.mem_iff.mpr hb)⟩
theorem ind_perm {B C : List Nat} (h : B.Perm C) : Ind B ↔ Ind C := by
  induction h with
  | nil => exact Iff.rfl
  | cons x h ih => rw [ind_cons, ind_cons, ih, sp_perm h]
  | swap x y l =>
    rw [ind_cons, ind_cons, ind_cons, ind_cons, Sp.cons_iff, Sp.cons_iff, Nat.xor_comm y x]
    constructor
    · rintro ⟨⟨h1, h2⟩, h3⟩
      exact ⟨⟨h1, fun z => h3 (.inl z)⟩, fun z => z.elim h2 fun z => h3 (.inr z)⟩
    · rintro ⟨⟨h1, h2⟩, h3⟩
      exact ⟨⟨h1, fun z => h3 (.inl z)⟩, fun z => z.elim h2 fun z => h3 (.inr z)⟩
  | trans _ _ i1 i2 => exact i1.trans i2
theorem Base.perm {N : Net} {rs rs' : List Nat} (b : Base N rs) (h : rs'.Perm rs) : Base N rs' :=
  ⟨by rw [h.length_eq]; exact b.len, fun r hr => b.ring r (h.mem_iff.mp hr), (ind_perm h).mpr b.ind⟩
end RM

namespace L2
open PySem
theorem for_range' {lo : Int} {n : Nat} {g : TG} {tb : TS} {D : Ends} {σ : St} {H : Hp} (Pv : Nat → St → Hp → Prop) (h0 : Pv 0 σ H)
    (hs : ∀ i, let D' : Ends := { D with nx := Pv (i + 1), ct := Pv (i + 1), bk := D.nx }; ∀ σ H, i < n → Pv i σ H → g (.int (lo + i)) σ H fun σ2 H2 => tb D' σ2 H2) (hd : ∀ σ H, Pv n σ H → D.nx σ H) :
    ∃ W : Nat → Nat → St → Hp → Prop, (∃ m, W 0 m σ H) ∧ ∀ i m σ H, W i m σ H →
      ((Itr lo n).stop i H ∧ D.nx σ H) ∨ ((Itr lo n).go i H ∧ ∃ N : St → Hp → Prop, (∀ σ' H', N σ' H' → ∃ m', m' < m ∧ W (i + 1) m' σ' H') ∧ ∀ x H', (Itr lo n).yld i H x H' → g x σ H' fun σ2 H2 => tb { D with nx := N, ct := N, bk := D.nx } σ2 H2) :=
  for_range Pv h0 (fun i σ H hi p => hs i σ H hi p) hd
theorem for_list' {K : PySem.W.Frag} {a : Addr} {xs : List V} {g : TG} {tb : TS} {D : Ends} {σ : St} {H : Hp} (Pv : Nat → St → Hp → Prop) (h0 : Pv 0 σ H) (hl : ∀ i σ H, i ≤ xs.length → Pv i σ H → SqL K H a xs)
    (hs : ∀ i x, let D' : Ends := { D with nx := Pv (i + 1), ct := Pv (i + 1), bk := D.nx }; ∀ σ H, xs[i]? = some x → Pv i σ H → g x σ H fun σ2 H2 => tb D' σ2 H2) (hd : ∀ σ H, Pv xs.length σ H → D.nx σ H) :
    ∃ W : Nat → Nat → St → Hp → Prop, (∃ m, W 0 m σ H) ∧ ∀ i m σ H, W i m σ H →
      ((Itl K a).stop i H ∧ D.nx σ H) ∨ ((Itl K a).go i H ∧ ∃ N : St → Hp → Prop, (∀ σ' H', N σ' H' → ∃ m', m' < m ∧ W (i + 1) m' σ' H') ∧ ∀ x H', (Itl K a).yld i H x H' → g x σ H' fun σ2 H2 => tb { D with nx := N, ct := N, bk := D.nx } σ2 H2) :=
  for_list Pv h0 hl (fun i x σ H hi p => hs i x σ H hi p) hd
theorem bmK {X : Cx} {e : Expr} {T : String} {r : V → List V → Hp → VK → Prop} {to : TE} {t : TA} (K : PySem.W.Frag) (p : PE X e (tBM X.K T r to t)) (h : X.K = K := by rfl) : PE X e (tBM K T r to t) := by subst h; exact p
end L2

namespace L2
open PySem
theorem ixq {K : PySem.W.Frag} {H : Hp} {a : Addr} {xs : List V} {k : Int} {v : V} {R : V → Prop} (hs : SqT K H a xs) (ha : atI xs k = some v) (q : R v) : ∃ p ys k' w, V.ref a = .ref p ∧ V.int k = .int k' ∧ SqT K H p ys ∧ atI ys k' = some w ∧ R w := ⟨a, xs, k, v, rfl, rfl, hs, ha, q⟩
theorem ixl {K : PySem.W.Frag} {H : Hp} {a : Addr} {xs : List V} {k : Int} {v : V} {R : V → Prop} (hs : SqL K H a xs) (ha : atI xs k = some v) (q : R v) : ∃ p ys k' w, V.ref a = .ref p ∧ V.int k = .int k' ∧ SqL K H p ys ∧ atI ys k' = some w ∧ R w := ⟨a, xs, k, v, rfl, rfl, hs, ha, q⟩
theorem ijq {i j : Int} {R : Int → Int → Prop} (h : R i j) : ∃ i' j', V.int i = .int i' ∧ V.int j = .int j' ∧ R i' j' := ⟨i, j, rfl, rfl, h⟩
end L2
namespace L2
open PySem
theorem lnq {K : PySem.W.Frag} {H : Hp} {a : Addr} {xs : List V} {E : Addr → Prop} {R : List V → Prop} (e : E a) (h : SqL K H a xs ∨ SqT K H a xs) (q : R xs) : ∃ p ys, E p ∧ (SqL K H p ys ∨ SqT K H p ys) ∧ R ys := ⟨a, xs, e, h, q⟩
theorem exq {α : Type} {A R : α → Prop} {x : α} (h : A x) (r : R x) : ∃ x, A x ∧ R x := ⟨x, h, r⟩
end L2

namespace L2
open PySem PySem.Spec PyProof.Rows
section
variable {P : Program} {w : World} {K : PySem.W.Frag} {mg : Str → Option Value} {base : Heap}
end
end L2

set_option Elab.async false
set_option maxRecDepth 100000
set_option maxHeartbeats 4000000
namespace K27
open PySem L2 Ring
def top (i : Nat) : Stmt := PySem.Challenge.pw_ringbase_k27_marks_for_bases.main.body.getD i (.Pass ⟨0, 0, 0, 0⟩)
abbrev s_has_tie : Stmt := top 9
theorem sc_has_tie : FnScope ["tie_set", "tie"] ["tie_set", "tie"] (defScope s_has_tie) := ⟨rfl, rfl, rfl, by decide +kernel, rfl, by decide +kernel, by decide +kernel⟩
abbrev s_ties_in : Stmt := top 10
theorem sc_ties_in : FnScope ["tie_set"] ["tie_set"] (defScope s_ties_in) := ⟨rfl, rfl, rfl, by decide +kernel, rfl, by decide +kernel, by decide +kernel⟩
abbrev s_set_of : Stmt := top 11
theorem sc_set_of : FnScope ["web", "ties", "found", "tie"] ["web", "ties"] (defScope s_set_of) := ⟨rfl, rfl, rfl, by decide +kernel, rfl, by decide +kernel, by decide +kernel⟩
theorem hd_set_of {sa0 sa1 sa2 sa3 : TS} {sc0 : TT} {si0 : TI} {sg0 : TG} {D : Ends} {σ : St} {H : Hp} (h : let zz0 : TS := sa0; let zz1 : TS := sa1; let zz2 : TS := sa2; let zz3 : TS := (tSeq (tIfS sc0 zz2 tNext) zz1); let zz4 : TS := (tSeq (tFor si0 sg0 zz3) zz0); (tSeq sa3 zz4) D σ H) : (tSeq sa3 (tSeq (tFor si0 sg0 (tSeq (tIfS sc0 sa2 tNext) sa1)) sa0)) D σ H := h
abbrev s_all_ties : Stmt := top 12
theorem sc_all_ties : FnScope ["web"] ["web"] (defScope s_all_ties) := ⟨rfl, rfl, rfl, by decide +kernel, rfl, by decide +kernel, by decide +kernel⟩
abbrev s_is_set : Stmt := top 13
theorem sc_is_set : FnScope ["web", "number"] ["web", "number"] (defScope s_is_set) := ⟨rfl, rfl, rfl, by decide +kernel, rfl, by decide +kernel, by decide +kernel⟩
abbrev s_check_set : Stmt := top 14
theorem sc_check_set : FnScope ["web", "tie_set"] ["web", "tie_set"] (defScope s_check_set) := ⟨rfl, rfl, rfl, by decide +kernel, rfl, by decide +kernel, by decide +kernel⟩
theorem hd_check_set {sa0 : TS} {sc0 : TT} {D : Ends} {σ : St} {H : Hp} (h : let zz0 : TS := sa0; (tIfS sc0 zz0 tNext) D σ H) : (tIfS sc0 sa0 tNext) D σ H := h
abbrev s_triples_in : Stmt := top 15
theorem sc_triples_in : FnScope ["web", "tie_set"] ["web", "tie_set"] (defScope s_triples_in) := ⟨rfl, rfl, rfl, by decide +kernel, rfl, by decide +kernel, by decide +kernel⟩
theorem hd_triples_in {sa0 sa1 : TS} {D : Ends} {σ : St} {H : Hp} (h : let zz0 : TS := sa0; (tSeq sa1 zz0) D σ H) : (tSeq sa1 sa0) D σ H := h
abbrev s_odd_points : Stmt := top 16
theorem sc_odd_points : FnScope ["web", "tie_set", "ends", "one", "other", "length"] ["web", "tie_set"] (defScope s_odd_points) := ⟨rfl, rfl, rfl, by decide +kernel, rfl, by decide +kernel, by decide +kernel⟩
theorem hd_odd_points {sa0 sa1 sa2 sa3 : TS} {si0 : TI} {sg0 : TG} {D : Ends} {σ : St} {H : Hp} (h : let zz0 : TS := sa0; let zz1 : TS := sa1; let zz2 : TS := (tSeq sa2 zz1); let zz3 : TS := (tSeq (tFor si0 sg0 zz2) zz0); (tSeq sa3 zz3) D σ H) : (tSeq sa3 (tSeq (tFor si0 sg0 (tSeq sa2 sa1)) sa0)) D σ H := h
abbrev s_drawn_together : Stmt := top 17
theorem sc_drawn_together : FnScope ["leasts", "one", "other", "low", "high"] ["leasts", "one", "other"] (defScope s_drawn_together) := ⟨rfl, rfl, rfl, by decide +kernel, rfl, by decide +kernel, by decide +kernel⟩
theorem hd_drawn_together {sa0 sa1 sa2 : TS} {D : Ends} {σ : St} {H : Hp} (h : let zz0 : TS := sa0; let zz1 : TS := (tSeq sa1 zz0); (tSeq sa2 zz1) D σ H) : (tSeq sa2 (tSeq sa1 sa0)) D σ H := h
abbrev s_pieces : Stmt := top 18
theorem sc_pieces : FnScope ["web", "tie_set", "leasts", "one", "other", "length", "found", "start"] ["web", "tie_set"] (defScope s_pieces) := ⟨rfl, rfl, rfl, by decide +kernel, rfl, by decide +kernel, by decide +kernel⟩
theorem hd_pieces {sa0 sa1 sa2 sa3 sa4 : TS} {sc0 : TT} {si0 si1 : TI} {sg0 sg1 : TG} {D : Ends} {σ : St} {H : Hp} (h : let zz0 : TS := sa0; let zz1 : TS := sa1; let zz2 : TS := (tIfS sc0 zz1 tNext); let zz3 : TS := (tSeq (tFor si0 sg0 zz2) zz0); let zz4 : TS := (tSeq sa2 zz3); let zz5 : TS := sa3; let zz6 : TS := (tSeq (tFor si1 sg1 zz5) zz4); (tSeq sa4 zz6) D σ H) : (tSeq sa4 (tSeq (tFor si1 sg1 sa3) (tSeq sa2 (tSeq (tFor si0 sg0 (tIfS sc0 sa1 tNext)) sa0)))) D σ H := h
abbrev s_rank : Stmt := top 19
theorem sc_rank : FnScope ["web"] ["web"] (defScope s_rank) := ⟨rfl, rfl, rfl, by decide +kernel, rfl, by decide +kernel, by decide +kernel⟩
abbrev s_is_even : Stmt := top 21
theorem sc_is_even : FnScope ["web", "tie_set"] ["web", "tie_set"] (defScope s_is_even) := ⟨rfl, rfl, rfl, by decide +kernel, rfl, by decide +kernel, by decide +kernel⟩
abbrev s_is_ring : Stmt := top 23
theorem sc_is_ring : FnScope ["web", "tie_set", "touched"] ["web", "tie_set"] (defScope s_is_ring) := ⟨rfl, rfl, rfl, by decide +kernel, rfl, by decide +kernel, by decide +kernel⟩
theorem hd_is_ring {sa0 sa1 sa2 : TS} {sc0 : TT} {D : Ends} {σ : St} {H : Hp} (h : let zz0 : TS := sa0; let zz1 : TS := (tSeq sa1 zz0); let zz2 : TS := sa2; (tSeq (tIfS sc0 zz2 tNext) zz1) D σ H) : (tSeq (tIfS sc0 sa2 tNext) (tSeq sa1 sa0)) D σ H := h
abbrev s_is_ring_number : Stmt := top 24
theorem sc_is_ring_number : FnScope ["web", "number"] ["web", "number"] (defScope s_is_ring_number) := ⟨rfl, rfl, rfl, by decide +kernel, rfl, by decide +kernel, by decide +kernel⟩
abbrev s_reduced : Stmt := top 26
theorem sc_reduced : FnScope ["rows", "tie_set", "left", "used", "lead", "row", "places"] ["rows", "tie_set"] (defScope s_reduced) := ⟨rfl, rfl, rfl, by decide +kernel, rfl, by decide +kernel, by decide +kernel⟩
theorem hd_reduced {sa0 sa1 sa2 sa3 sa4 : TS} {sc0 : TT} {si0 : TI} {sg0 : TG} {D : Ends} {σ : St} {H : Hp} (h : let zz0 : TS := sa0; let zz1 : TS := sa1; let zz2 : TS := (tSeq sa2 zz1); let zz3 : TS := (tIfS sc0 zz2 tNext); let zz4 : TS := (tSeq (tFor si0 sg0 zz3) zz0); let zz5 : TS := (tSeq sa3 zz4); (tSeq sa4 zz5) D σ H) : (tSeq sa4 (tSeq sa3 (tSeq (tFor si0 sg0 (tIfS sc0 (tSeq sa2 sa1) tNext)) sa0))) D σ H := h
abbrev s_with_row : Stmt := top 27
theorem sc_with_row : FnScope ["rows", "added", "found", "old"] ["rows", "added"] (defScope s_with_row) := ⟨rfl, rfl, rfl, by decide +kernel, rfl, by decide +kernel, by decide +kernel⟩
theorem hd_with_row {sa0 sa1 sa2 sa3 : TS} {sc0 : TT} {si0 : TI} {sg0 : TG} {D : Ends} {σ : St} {H : Hp} (h : let zz0 : TS := sa0; let zz1 : TS := sa1; let zz2 : TS := sa2; let zz3 : TS := (tIfS sc0 zz1 zz2); let zz4 : TS := (tSeq (tFor si0 sg0 zz3) zz0); (tSeq sa3 zz4) D σ H) : (tSeq sa3 (tSeq (tFor si0 sg0 (tIfS sc0 sa1 sa2)) sa0)) D σ H := h
abbrev s_rows_of : Stmt := top 28
theorem sc_rows_of : FnScope ["sets", "rows", "place", "tie_set", "rest"] ["sets"] (defScope s_rows_of) := ⟨rfl, rfl, rfl, by decide +kernel, rfl, by decide +kernel, by decide +kernel⟩
theorem hd_rows_of {sa0 sa1 sa2 sa3 : TS} {sc0 : TT} {si0 : TI} {sg0 : TG} {D : Ends} {σ : St} {H : Hp} (h : let zz0 : TS := sa0; let zz1 : TS := sa1; let zz2 : TS := (tIfS sc0 zz1 tNext); let zz3 : TS := (tSeq sa2 zz2); let zz4 : TS := (tSeq (tFor si0 sg0 zz3) zz0); (tSeq sa3 zz4) D σ H) : (tSeq sa3 (tSeq (tFor si0 sg0 (tSeq sa2 (tIfS sc0 sa1 tNext))) sa0)) D σ H := h
abbrev s_is_base : Stmt := top 29
theorem sc_is_base : FnScope ["web", "rings"] ["web", "rings"] (defScope s_is_base) := ⟨rfl, rfl, rfl, by decide +kernel, rfl, by decide +kernel, by decide +kernel⟩
theorem hd_is_base {sa0 sa1 : TS} {sc0 : TT} {D : Ends} {σ : St} {H : Hp} (h : let zz0 : TS := sa0; let zz1 : TS := sa1; (tSeq (tIfS sc0 zz1 tNext) zz0) D σ H) : (tSeq (tIfS sc0 sa1 tNext) sa0) D σ H := h
abbrev s_marks_for : Stmt := top 30
theorem sc_marks_for : FnScope ["web", "rings", "rows", "found", "place"] ["web", "rings"] (defScope s_marks_for) := ⟨rfl, rfl, rfl, by decide +kernel, rfl, by decide +kernel, by decide +kernel⟩
theorem hd_marks_for {sa0 sa1 sa2 sa3 sa4 : TS} {sc0 : TT} {si0 : TI} {sg0 : TG} {D : Ends} {σ : St} {H : Hp} (h : let zz0 : TS := sa0; let zz1 : TS := sa1; let zz2 : TS := (tSeq (tFor si0 sg0 zz1) zz0); let zz3 : TS := (tSeq sa2 zz2); let zz4 : TS := (tSeq sa3 zz3); let zz5 : TS := sa4; (tSeq (tIfS sc0 zz5 tNext) zz4) D σ H) : (tSeq (tIfS sc0 sa4 tNext) (tSeq sa3 (tSeq sa2 (tSeq (tFor si0 sg0 sa1) sa0)))) D σ H := h
abbrev s_law_cell_at : Stmt := top 32
theorem sc_law_cell_at : FnScope ["script", "k"] ["script", "k"] (defScope s_law_cell_at) := ⟨rfl, rfl, rfl, by decide +kernel, rfl, by decide +kernel, by decide +kernel⟩
theorem hd_law_cell_at {sa0 sa1 : TS} {sc0 : TT} {D : Ends} {σ : St} {H : Hp} (h : let zz0 : TS := sa0; let zz1 : TS := sa1; (tSeq (tIfS sc0 zz1 tNext) zz0) D σ H) : (tSeq (tIfS sc0 sa1 tNext) sa0) D σ H := h
abbrev s_law_mixed : Stmt := top 33
theorem sc_law_mixed : FnScope ["cell", "k", "near", "stir"] ["cell", "k"] (defScope s_law_mixed) := ⟨rfl, rfl, rfl, by decide +kernel, rfl, by decide +kernel, by decide +kernel⟩
theorem hd_law_mixed {sa0 sa1 sa2 : TS} {D : Ends} {σ : St} {H : Hp} (h : let zz0 : TS := sa0; let zz1 : TS := (tSeq sa1 zz0); (tSeq sa2 zz1) D σ H) : (tSeq sa2 (tSeq sa1 sa0)) D σ H := h
abbrev s_law_length : Stmt := top 34
theorem sc_law_length : FnScope ["cell", "way"] ["cell", "way"] (defScope s_law_length) := ⟨rfl, rfl, rfl, by decide +kernel, rfl, by decide +kernel, by decide +kernel⟩
theorem hd_law_length {sa0 sa1 sa2 : TS} {sc0 sc1 : TT} {D : Ends} {σ : St} {H : Hp} (h : let zz0 : TS := sa0; let zz1 : TS := sa1; let zz2 : TS := (tSeq (tIfS sc0 zz1 tNext) zz0); let zz3 : TS := sa2; (tSeq (tIfS sc1 zz3 tNext) zz2) D σ H) : (tSeq (tIfS sc1 sa2 tNext) (tSeq (tIfS sc0 sa1 tNext) sa0)) D σ H := h
abbrev s_law_tie : Stmt := top 35
theorem sc_law_tie : FnScope ["cell", "points", "way", "one", "other"] ["cell", "points", "way"] (defScope s_law_tie) := ⟨rfl, rfl, rfl, by decide +kernel, rfl, by decide +kernel, by decide +kernel⟩
theorem hd_law_tie {sa0 sa1 sa2 sa3 : TS} {D : Ends} {σ : St} {H : Hp} (h : let zz0 : TS := sa0; let zz1 : TS := (tSeq sa1 zz0); let zz2 : TS := (tSeq sa2 zz1); (tSeq sa3 zz2) D σ H) : (tSeq sa3 (tSeq sa2 (tSeq sa1 sa0))) D σ H := h
abbrev s_law_web : Stmt := top 36
theorem sc_law_web : FnScope ["script", "most", "ranked", "head", "points", "way", "cells", "ties", "marks", "free", "cell", "tie", "joined", "old"] ["script", "most", "ranked"] (defScope s_law_web) := ⟨rfl, rfl, rfl, by decide +kernel, rfl, by decide +kernel, by decide +kernel⟩
theorem hd_law_web {sa0 sa1 sa2 sa3 sa4 sa5 sa6 sa7 sa8 sa9 sa10 sa11 sa12 sa13 sa14 sa15 : TS} {sc0 sc1 : TT} {si0 : TI} {sg0 : TG} {D : Ends} {σ : St} {H : Hp} (h : let zz0 : TS := sa0; let zz1 : TS := sa1; let zz2 : TS := (tSeq sa2 zz1); let zz3 : TS := (tSeq sa3 zz2); let zz4 : TS := (tSeq sa4 zz3); let zz5 : TS := (tIfS sc0 zz4 tNext); let zz6 : TS := (tSeq sa5 zz5); let zz7 : TS := (tSeq sa6 zz6); let zz8 : TS := (tSeq (tFor si0 sg0 zz7) zz0); let zz9 : TS := (tSeq sa7 zz8); let zz10 : TS := (tSeq sa8 zz9); let zz11 : TS := (tSeq sa9 zz10); let zz12 : TS := sa10; let zz13 : TS := (tSeq sa11 zz12); let zz14 : TS := (tSeq (tIfS sc1 zz13 tNext) zz11); let zz15 : TS := (tSeq sa12 zz14); let zz16 : TS := (tSeq sa13 zz15); let zz17 : TS := (tSeq sa14 zz16); (tSeq sa15 zz17) D σ H) : (tSeq sa15 (tSeq sa14 (tSeq sa13 (tSeq sa12 (tSeq (tIfS sc1 (tSeq sa11 sa10) tNext) (tSeq sa9 (tSeq sa8 (tSeq sa7 (tSeq (tFor si0 sg0 (tSeq sa6 (tSeq sa5 (tIfS sc0 (tSeq sa4 (tSeq sa3 (tSeq sa2 sa1))) tNext)))) sa0))))))))) D σ H := h
abbrev s_law_whole : Stmt := top 37
theorem sc_law_whole : FnScope ["found"] ["found"] (defScope s_law_whole) := ⟨rfl, rfl, rfl, by decide +kernel, rfl, by decide +kernel, by decide +kernel⟩
abbrev s_law_counts : Stmt := top 38
theorem sc_law_counts : FnScope ["web", "some", "counts", "k"] ["web", "some"] (defScope s_law_counts) := ⟨rfl, rfl, rfl, by decide +kernel, rfl, by decide +kernel, by decide +kernel⟩
theorem hd_law_counts {sa0 sa1 sa2 sa3 : TS} {sc0 : TT} {si0 : TI} {sg0 : TG} {D : Ends} {σ : St} {H : Hp} (h : let zz0 : TS := sa0; let zz1 : TS := sa1; let zz2 : TS := (tSeq sa2 zz1); let zz3 : TS := (tIfS sc0 zz2 tNext); let zz4 : TS := (tSeq (tFor si0 sg0 zz3) zz0); (tSeq sa3 zz4) D σ H) : (tSeq sa3 (tSeq (tFor si0 sg0 (tIfS sc0 (tSeq sa2 sa1) tNext)) sa0)) D σ H := h
abbrev s_law_pieces : Stmt := top 39
theorem sc_law_pieces : FnScope ["web", "some", "marks", "k", "old"] ["web", "some"] (defScope s_law_pieces) := ⟨rfl, rfl, rfl, by decide +kernel, rfl, by decide +kernel, by decide +kernel⟩
theorem hd_law_pieces {sa0 sa1 sa2 sa3 : TS} {sc0 : TT} {si0 : TI} {sg0 : TG} {D : Ends} {σ : St} {H : Hp} (h : let zz0 : TS := sa0; let zz1 : TS := sa1; let zz2 : TS := (tSeq sa2 zz1); let zz3 : TS := (tIfS sc0 zz2 tNext); let zz4 : TS := (tSeq (tFor si0 sg0 zz3) zz0); (tSeq sa3 zz4) D σ H) : (tSeq sa3 (tSeq (tFor si0 sg0 (tIfS sc0 (tSeq sa2 sa1) tNext)) sa0)) D σ H := h
abbrev s_law_ring : Stmt := top 42
theorem sc_law_ring : FnScope ["web", "some", "counts"] ["web", "some"] (defScope s_law_ring) := ⟨rfl, rfl, rfl, by decide +kernel, rfl, by decide +kernel, by decide +kernel⟩
theorem hd_law_ring {sa0 sa1 sa2 : TS} {sc0 : TT} {D : Ends} {σ : St} {H : Hp} (h : let zz0 : TS := sa0; let zz1 : TS := sa1; let zz2 : TS := (tSeq (tIfS sc0 zz1 tNext) zz0); (tSeq sa2 zz2) D σ H) : (tSeq sa2 (tSeq (tIfS sc0 sa1 tNext) sa0)) D σ H := h
abbrev s_law_odd : Stmt := top 44
theorem sc_law_odd : FnScope ["one", "other", "both", "odd"] ["one", "other"] (defScope s_law_odd) := ⟨rfl, rfl, rfl, by decide +kernel, rfl, by decide +kernel, by decide +kernel⟩
theorem hd_law_odd {sa0 sa1 sa2 sa3 sa4 : TS} {sc0 : TT} {D : Ends} {σ : St} {H : Hp} (h : let zz0 : TS := sa0; let zz1 : TS := sa1; let zz2 : TS := (tSeq sa2 zz1); let zz3 : TS := (tSeq (tWhile sc0 zz2) zz0); let zz4 : TS := (tSeq sa3 zz3); (tSeq sa4 zz4) D σ H) : (tSeq sa4 (tSeq sa3 (tSeq (tWhile sc0 (tSeq sa2 sa1)) sa0))) D σ H := h
abbrev s_law_way : Stmt := top 45
theorem sc_law_way : FnScope ["web", "some", "one", "other", "came", "line", "at", "here", "k", "there"] ["web", "some", "one", "other"] (defScope s_law_way) := ⟨rfl, rfl, rfl, by decide +kernel, rfl, by decide +kernel, by decide +kernel⟩
theorem hd_law_way {sa0 sa1 sa2 sa3 sa4 sa5 sa6 sa7 sa8 : TS} {sc0 sc1 sc2 : TT} {si0 : TI} {sg0 : TG} {D : Ends} {σ : St} {H : Hp} (h : let zz0 : TS := sa0; let zz1 : TS := sa1; let zz2 : TS := (tSeq sa2 zz1); let zz3 : TS := (tIfS sc2 zz2 tNext); let zz4 : TS := (tSeq sa3 zz3); let zz5 : TS := (tIfS sc1 zz4 tNext); let zz6 : TS := (tFor si0 sg0 zz5); let zz7 : TS := (tSeq sa4 zz6); let zz8 : TS := (tSeq sa5 zz7); let zz9 : TS := (tSeq (tWhile sc0 zz8) zz0); let zz10 : TS := (tSeq sa6 zz9); let zz11 : TS := (tSeq sa7 zz10); (tSeq sa8 zz11) D σ H) : (tSeq sa8 (tSeq sa7 (tSeq sa6 (tSeq (tWhile sc0 (tSeq sa5 (tSeq sa4 (tFor si0 sg0 (tIfS sc1 (tSeq sa3 (tIfS sc2 (tSeq sa2 sa1) tNext)) tNext))))) sa0)))) D σ H := h
abbrev s_law_chord_rings : Stmt := top 46
theorem sc_law_chord_rings : FnScope ["web", "order", "some", "rings", "k", "way"] ["web", "order"] (defScope s_law_chord_rings) := ⟨rfl, rfl, rfl, by decide +kernel, rfl, by decide +kernel, by decide +kernel⟩
theorem hd_law_chord_rings {sa0 sa1 sa2 sa3 sa4 sa5 : TS} {sc0 : TT} {si0 : TI} {sg0 : TG} {D : Ends} {σ : St} {H : Hp} (h : let zz0 : TS := sa0; let zz1 : TS := sa1; let zz2 : TS := sa2; let zz3 : TS := (tIfS sc0 zz1 zz2); let zz4 : TS := (tSeq sa3 zz3); let zz5 : TS := (tSeq (tFor si0 sg0 zz4) zz0); let zz6 : TS := (tSeq sa4 zz5); (tSeq sa5 zz6) D σ H) : (tSeq sa5 (tSeq sa4 (tSeq (tFor si0 sg0 (tSeq sa3 (tIfS sc0 sa1 sa2))) sa0))) D σ H := h
abbrev s_law_order : Stmt := top 47
theorem sc_law_order : FnScope ["cell", "many", "row", "k"] ["cell", "many"] (defScope s_law_order) := ⟨rfl, rfl, rfl, by decide +kernel, rfl, by decide +kernel, by decide +kernel⟩
theorem hd_law_order {sa0 sa1 sa2 : TS} {si0 : TI} {sg0 : TG} {D : Ends} {σ : St} {H : Hp} (h : let zz0 : TS := sa0; let zz1 : TS := sa1; let zz2 : TS := (tSeq (tFor si0 sg0 zz1) zz0); (tSeq sa2 zz2) D σ H) : (tSeq sa2 (tSeq (tFor si0 sg0 sa1) sa0)) D σ H := h
abbrev s_law_exchanged : Stmt := top 48
theorem sc_law_exchanged : FnScope ["web", "rings", "cell", "made", "k", "other"] ["web", "rings", "cell"] (defScope s_law_exchanged) := ⟨rfl, rfl, rfl, by decide +kernel, rfl, by decide +kernel, by decide +kernel⟩
theorem hd_law_exchanged {sa0 sa1 sa2 sa3 : TS} {sc0 : TT} {si0 : TI} {sg0 : TG} {D : Ends} {σ : St} {H : Hp} (h : let zz0 : TS := sa0; let zz1 : TS := sa1; let zz2 : TS := (tIfS sc0 zz1 tNext); let zz3 : TS := (tSeq sa2 zz2); let zz4 : TS := (tSeq (tFor si0 sg0 zz3) zz0); (tSeq sa3 zz4) D σ H) : (tSeq sa3 (tSeq (tFor si0 sg0 (tSeq sa2 (tIfS sc0 sa1 tNext))) sa0)) D σ H := h
abbrev s_law_right : Stmt := top 49
theorem sc_law_right : FnScope ["web", "rings", "found", "k", "j"] ["web", "rings", "found"] (defScope s_law_right) := ⟨rfl, rfl, rfl, by decide +kernel, rfl, by decide +kernel, by decide +kernel⟩
theorem hd_law_right {sa0 sa1 sa2 sa3 : TS} {sc0 sc1 sc2 : TT} {si0 si1 : TI} {sg0 sg1 : TG} {D : Ends} {σ : St} {H : Hp} (h : let zz0 : TS := sa0; let zz1 : TS := sa1; let zz2 : TS := (tIfS sc0 zz1 tNext); let zz3 : TS := (tFor si1 sg1 zz2); let zz4 : TS := sa2; let zz5 : TS := (tSeq (tIfS sc1 zz4 tNext) zz3); let zz6 : TS := (tSeq (tFor si0 sg0 zz5) zz0); let zz7 : TS := sa3; (tSeq (tIfS sc2 zz7 tNext) zz6) D σ H) : (tSeq (tIfS sc2 sa3 tNext) (tSeq (tFor si0 sg0 (tSeq (tIfS sc1 sa2 tNext) (tFor si1 sg1 (tIfS sc0 sa1 tNext)))) sa0)) D σ H := h
abbrev s_law_refused : Stmt := top 50
theorem sc_law_refused : FnScope ["web", "rings", "caught", "e"] ["web", "rings"] (defScope s_law_refused) := ⟨rfl, rfl, rfl, by decide +kernel, rfl, by decide +kernel, by decide +kernel⟩
theorem hd_law_refused {sa0 sa1 sa2 sa3 : TS} {sc0 : TT} {D : Ends} {σ : St} {H : Hp} (h : let zz0 : TS := sa0; let zz1 : TS := sa1; let zz2 : TS := (tSeq (tIfS sc0 zz1 tNext) zz0); let zz3 : TS := (tSeq sa2 zz2); (tSeq sa3 zz3) D σ H) : (tSeq sa3 (tSeq sa2 (tSeq (tIfS sc0 sa1 tNext) sa0))) D σ H := h
abbrev s_law : Stmt := top 51
theorem sc_law : FnScope ["script", "web", "head", "rings", "turn", "handed", "found", "at", "far", "bad"] ["script"] (defScope s_law) := ⟨rfl, rfl, rfl, by decide +kernel, rfl, by decide +kernel, by decide +kernel⟩
theorem hd_law {sa0 sa1 sa2 sa3 sa4 sa5 sa6 sa7 sa8 sa9 sa10 sa11 sa12 sa13 : TS} {sc0 sc1 : TT} {si0 : TI} {sg0 : TG} {D : Ends} {σ : St} {H : Hp} (h : let zz0 : TS := sa0; let zz1 : TS := sa1; let zz2 : TS := (tSeq (tIfS sc0 zz1 tNext) zz0); let zz3 : TS := (tSeq sa2 zz2); let zz4 : TS := (tSeq sa3 zz3); let zz5 : TS := (tSeq sa4 zz4); let zz6 : TS := sa5; let zz7 : TS := sa6; let zz8 : TS := (tSeq (tIfS sc1 zz7 tNext) zz6); let zz9 : TS := (tSeq sa7 zz8); let zz10 : TS := (tSeq sa8 zz9); let zz11 : TS := (tSeq (tFor si0 sg0 zz10) zz5); let zz12 : TS := (tSeq sa9 zz11); let zz13 : TS := (tSeq sa10 zz12); let zz14 : TS := (tSeq sa11 zz13); let zz15 : TS := (tSeq sa12 zz14); (tSeq sa13 zz15) D σ H) : (tSeq sa13 (tSeq sa12 (tSeq sa11 (tSeq sa10 (tSeq sa9 (tSeq (tFor si0 sg0 (tSeq sa8 (tSeq sa7 (tSeq (tIfS sc1 sa6 tNext) sa5)))) (tSeq sa4 (tSeq sa3 (tSeq sa2 (tSeq (tIfS sc0 sa1 tNext) sa0)))))))))) D σ H := h
set_option genInjectivity false
set_option genSizeOf false
structure Adr where
  f_has_tie : Addr
  d_has_tie : FuncData
  f_ties_in : Addr
  d_ties_in : FuncData
  f_set_of : Addr
  d_set_of : FuncData
  f_all_ties : Addr
  d_all_ties : FuncData
  f_is_set : Addr
  d_is_set : FuncData
  f_check_set : Addr
  d_check_set : FuncData
  f_triples_in : Addr
  d_triples_in : FuncData
  f_odd_points : Addr
  d_odd_points : FuncData
  f_drawn_together : Addr
  d_drawn_together : FuncData
  f_pieces : Addr
  d_pieces : FuncData
  f_rank : Addr
  d_rank : FuncData
  f_is_even : Addr
  d_is_even : FuncData
  f_is_ring : Addr
  d_is_ring : FuncData
  f_is_ring_number : Addr
  d_is_ring_number : FuncData
  f_reduced : Addr
  d_reduced : FuncData
  f_with_row : Addr
  d_with_row : FuncData
  f_rows_of : Addr
  d_rows_of : FuncData
  f_is_base : Addr
  d_is_base : FuncData
  f_marks_for : Addr
  d_marks_for : FuncData
  f_law_cell_at : Addr
  d_law_cell_at : FuncData
  f_law_mixed : Addr
  d_law_mixed : FuncData
  f_law_length : Addr
  d_law_length : FuncData
  f_law_tie : Addr
  d_law_tie : FuncData
  f_law_web : Addr
  d_law_web : FuncData
  f_law_whole : Addr
  d_law_whole : FuncData
  f_law_counts : Addr
  d_law_counts : FuncData
  f_law_pieces : Addr
  d_law_pieces : FuncData
  f_law_ring : Addr
  d_law_ring : FuncData
  f_law_odd : Addr
  d_law_odd : FuncData
  f_law_way : Addr
  d_law_way : FuncData
  f_law_chord_rings : Addr
  d_law_chord_rings : FuncData
  f_law_order : Addr
  d_law_order : FuncData
  f_law_exchanged : Addr
  d_law_exchanged : FuncData
  f_law_right : Addr
  d_law_right : FuncData
  f_law_refused : Addr
  d_law_refused : FuncData
  f_law : Addr
  d_law : FuncData
  c_RingError : Addr
  c_BadWeb : Addr
  c_BadSet : Addr
  c_NotRing : Addr
  c_NoBase : Addr
  c_NoSuch : Addr
  c_TooMany : Addr
structure Txt (K : PySem.W.Frag) (mg : Str → Option Value) (a : Adr) : Prop where
  F_has_tie : Fun K "has_tie" "has_tie" s_has_tie a.f_has_tie a.d_has_tie
  m_has_tie : mg "has_tie" = some (.ref a.f_has_tie)
  b_has_tie : Binds K a.d_has_tie ["tie_set", "tie"] []
  F_ties_in : Fun K "ties_in" "ties_in" s_ties_in a.f_ties_in a.d_ties_in
  m_ties_in : mg "ties_in" = some (.ref a.f_ties_in)
  b_ties_in : Binds K a.d_ties_in ["tie_set"] []
  F_set_of : Fun K "set_of" "set_of" s_set_of a.f_set_of a.d_set_of
  m_set_of : mg "set_of" = some (.ref a.f_set_of)
  b_set_of : Binds K a.d_set_of ["web", "ties"] []
  F_all_ties : Fun K "all_ties" "all_ties" s_all_ties a.f_all_ties a.d_all_ties
  m_all_ties : mg "all_ties" = some (.ref a.f_all_ties)
  b_all_ties : Binds K a.d_all_ties ["web"] []
  F_is_set : Fun K "is_set" "is_set" s_is_set a.f_is_set a.d_is_set
  m_is_set : mg "is_set" = some (.ref a.f_is_set)
  b_is_set : Binds K a.d_is_set ["web", "number"] []
  F_check_set : Fun K "check_set" "check_set" s_check_set a.f_check_set a.d_check_set
  m_check_set : mg "check_set" = some (.ref a.f_check_set)
  b_check_set : Binds K a.d_check_set ["web", "tie_set"] []
  F_triples_in : Fun K "triples_in" "triples_in" s_triples_in a.f_triples_in a.d_triples_in
  m_triples_in : mg "triples_in" = some (.ref a.f_triples_in)
  b_triples_in : Binds K a.d_triples_in ["web", "tie_set"] []
  F_odd_points : Fun K "odd_points" "odd_points" s_odd_points a.f_odd_points a.d_odd_points
  m_odd_points : mg "odd_points" = some (.ref a.f_odd_points)
  b_odd_points : Binds K a.d_odd_points ["web", "tie_set"] []
  F_drawn_together : Fun K "drawn_together" "drawn_together" s_drawn_together a.f_drawn_together a.d_drawn_together
  m_drawn_together : mg "drawn_together" = some (.ref a.f_drawn_together)
  b_drawn_together : Binds K a.d_drawn_together ["leasts", "one", "other"] []
  F_pieces : Fun K "pieces" "pieces" s_pieces a.f_pieces a.d_pieces
  m_pieces : mg "pieces" = some (.ref a.f_pieces)
  b_pieces : Binds K a.d_pieces ["web", "tie_set"] []
  F_rank : Fun K "rank" "rank" s_rank a.f_rank a.d_rank
  m_rank : mg "rank" = some (.ref a.f_rank)
  b_rank : Binds K a.d_rank ["web"] []
  F_is_even : Fun K "is_even" "is_even" s_is_even a.f_is_even a.d_is_even
  m_is_even : mg "is_even" = some (.ref a.f_is_even)
  b_is_even : Binds K a.d_is_even ["web", "tie_set"] []
  F_is_ring : Fun K "is_ring" "is_ring" s_is_ring a.f_is_ring a.d_is_ring
  m_is_ring : mg "is_ring" = some (.ref a.f_is_ring)
  b_is_ring : Binds K a.d_is_ring ["web", "tie_set"] []
  F_is_ring_number : Fun K "is_ring_number" "is_ring_number" s_is_ring_number a.f_is_ring_number a.d_is_ring_number
  m_is_ring_number : mg "is_ring_number" = some (.ref a.f_is_ring_number)
  b_is_ring_number : Binds K a.d_is_ring_number ["web", "number"] []
  F_reduced : Fun K "reduced" "reduced" s_reduced a.f_reduced a.d_reduced
  m_reduced : mg "reduced" = some (.ref a.f_reduced)
  b_reduced : Binds K a.d_reduced ["rows", "tie_set"] []
  F_with_row : Fun K "with_row" "with_row" s_with_row a.f_with_row a.d_with_row
  m_with_row : mg "with_row" = some (.ref a.f_with_row)
  b_with_row : Binds K a.d_with_row ["rows", "added"] []
  F_rows_of : Fun K "rows_of" "rows_of" s_rows_of a.f_rows_of a.d_rows_of
  m_rows_of : mg "rows_of" = some (.ref a.f_rows_of)
  b_rows_of : Binds K a.d_rows_of ["sets"] []
  F_is_base : Fun K "is_base" "is_base" s_is_base a.f_is_base a.d_is_base
  m_is_base : mg "is_base" = some (.ref a.f_is_base)
  b_is_base : Binds K a.d_is_base ["web", "rings"] []
  F_marks_for : Fun K "marks_for" "marks_for" s_marks_for a.f_marks_for a.d_marks_for
  m_marks_for : mg "marks_for" = some (.ref a.f_marks_for)
  b_marks_for : Binds K a.d_marks_for ["web", "rings"] []
  F_law_cell_at : Fun K "_law_cell_at" "_law_cell_at" s_law_cell_at a.f_law_cell_at a.d_law_cell_at
  m_law_cell_at : mg "_law_cell_at" = some (.ref a.f_law_cell_at)
  b_law_cell_at : Binds K a.d_law_cell_at ["script", "k"] []
  F_law_mixed : Fun K "_law_mixed" "_law_mixed" s_law_mixed a.f_law_mixed a.d_law_mixed
  m_law_mixed : mg "_law_mixed" = some (.ref a.f_law_mixed)
  b_law_mixed : Binds K a.d_law_mixed ["cell", "k"] []
  F_law_length : Fun K "_law_length" "_law_length" s_law_length a.f_law_length a.d_law_length
  m_law_length : mg "_law_length" = some (.ref a.f_law_length)
  b_law_length : Binds K a.d_law_length ["cell", "way"] []
  F_law_tie : Fun K "_law_tie" "_law_tie" s_law_tie a.f_law_tie a.d_law_tie
  m_law_tie : mg "_law_tie" = some (.ref a.f_law_tie)
  b_law_tie : Binds K a.d_law_tie ["cell", "points", "way"] []
  F_law_web : Fun K "_law_web" "_law_web" s_law_web a.f_law_web a.d_law_web
  m_law_web : mg "_law_web" = some (.ref a.f_law_web)
  b_law_web : Binds K a.d_law_web ["script", "most", "ranked"] []
  F_law_whole : Fun K "_law_whole" "_law_whole" s_law_whole a.f_law_whole a.d_law_whole
  m_law_whole : mg "_law_whole" = some (.ref a.f_law_whole)
  b_law_whole : Binds K a.d_law_whole ["found"] []
  F_law_counts : Fun K "_law_counts" "_law_counts" s_law_counts a.f_law_counts a.d_law_counts
  m_law_counts : mg "_law_counts" = some (.ref a.f_law_counts)
  b_law_counts : Binds K a.d_law_counts ["web", "some"] []
  F_law_pieces : Fun K "_law_pieces" "_law_pieces" s_law_pieces a.f_law_pieces a.d_law_pieces
  m_law_pieces : mg "_law_pieces" = some (.ref a.f_law_pieces)
  b_law_pieces : Binds K a.d_law_pieces ["web", "some"] []
  F_law_ring : Fun K "_law_ring" "_law_ring" s_law_ring a.f_law_ring a.d_law_ring
  m_law_ring : mg "_law_ring" = some (.ref a.f_law_ring)
  b_law_ring : Binds K a.d_law_ring ["web", "some"] []
  F_law_odd : Fun K "_law_odd" "_law_odd" s_law_odd a.f_law_odd a.d_law_odd
  m_law_odd : mg "_law_odd" = some (.ref a.f_law_odd)
  b_law_odd : Binds K a.d_law_odd ["one", "other"] []
  F_law_way : Fun K "_law_way" "_law_way" s_law_way a.f_law_way a.d_law_way
  m_law_way : mg "_law_way" = some (.ref a.f_law_way)
  b_law_way : Binds K a.d_law_way ["web", "some", "one", "other"] []
  F_law_chord_rings : Fun K "_law_chord_rings" "_law_chord_rings" s_law_chord_rings a.f_law_chord_rings a.d_law_chord_rings
  m_law_chord_rings : mg "_law_chord_rings" = some (.ref a.f_law_chord_rings)
  b_law_chord_rings : Binds K a.d_law_chord_rings ["web", "order"] []
  F_law_order : Fun K "_law_order" "_law_order" s_law_order a.f_law_order a.d_law_order
  m_law_order : mg "_law_order" = some (.ref a.f_law_order)
  b_law_order : Binds K a.d_law_order ["cell", "many"] []
  F_law_exchanged : Fun K "_law_exchanged" "_law_exchanged" s_law_exchanged a.f_law_exchanged a.d_law_exchanged
  m_law_exchanged : mg "_law_exchanged" = some (.ref a.f_law_exchanged)
  b_law_exchanged : Binds K a.d_law_exchanged ["web", "rings", "cell"] []
  F_law_right : Fun K "_law_right" "_law_right" s_law_right a.f_law_right a.d_law_right
  m_law_right : mg "_law_right" = some (.ref a.f_law_right)
  b_law_right : Binds K a.d_law_right ["web", "rings", "found"] []
  F_law_refused : Fun K "_law_refused" "_law_refused" s_law_refused a.f_law_refused a.d_law_refused
  m_law_refused : mg "_law_refused" = some (.ref a.f_law_refused)
  b_law_refused : Binds K a.d_law_refused ["web", "rings"] []
  F_law : Fun K "law" "law" s_law a.f_law a.d_law
  m_law : mg "law" = some (.ref a.f_law)
  b_law : Binds K a.d_law ["script"] []
  n_ValueError : mg "ValueError" = none
  n_all : mg "all" = none
  n_bool : mg "bool" = none
  n_enumerate : mg "enumerate" = none
  n_int : mg "int" = none
  n_isinstance : mg "isinstance" = none
  n_len : mg "len" = none
  n_list : mg "list" = none
  n_max : mg "max" = none
  n_min : mg "min" = none
  n_range : mg "range" = none
  n_set : mg "set" = none
  n_sum : mg "sum" = none
  n_tuple : mg "tuple" = none
  g_RingError : mg "RingError" = some (.ref a.c_RingError)
  g_BadWeb : mg "BadWeb" = some (.ref a.c_BadWeb)
  g_BadSet : mg "BadSet" = some (.ref a.c_BadSet)
  g_NotRing : mg "NotRing" = some (.ref a.c_NotRing)
  g_NoBase : mg "NoBase" = some (.ref a.c_NoBase)
  g_NoSuch : mg "NoSuch" = some (.ref a.c_NoSuch)
  g_TooMany : mg "TooMany" = some (.ref a.c_TooMany)
  x_BadSet : ∀ h : Heap, K.In h → h.Ns mainGlobals mg → PyProof.Rows.OwnCls "BadSet" a.c_BadSet [.type "ValueError", .type "Exception", .type "BaseException", .type "object"] "ValueError.__new__" mg h
  x_NoBase : ∀ h : Heap, K.In h → h.Ns mainGlobals mg → PyProof.Rows.OwnCls "NoBase" a.c_NoBase [.type "ValueError", .type "Exception", .type "BaseException", .type "object"] "ValueError.__new__" mg h
  e_NoBase : ExcCls K a.c_NoBase
  h_NoBase : PySem.W.exmOne K (.ref a.c_NoBase) (.ref a.c_RingError) = some true
  qV_NoBase : PySem.W.kitOne K (.ref a.c_NoBase) (.type "ValueError") = some true
  q_NoBase_BadWeb : PySem.W.kitOne K (.ref a.c_NoBase) (.ref a.c_BadWeb) = some false
  q_NoBase_BadSet : PySem.W.kitOne K (.ref a.c_NoBase) (.ref a.c_BadSet) = some false
  q_NoBase_NotRing : PySem.W.kitOne K (.ref a.c_NoBase) (.ref a.c_NotRing) = some false
  q_NoBase_NoBase : PySem.W.kitOne K (.ref a.c_NoBase) (.ref a.c_NoBase) = some true
  q_NoBase_NoSuch : PySem.W.kitOne K (.ref a.c_NoBase) (.ref a.c_NoSuch) = some false
  q_NoBase_TooMany : PySem.W.kitOne K (.ref a.c_NoBase) (.ref a.c_TooMany) = some false
section
variable {K : PySem.W.Frag} {mg : Str → Option Value} {a : Adr}
theorem Txt.k_has_tie (T : Txt K mg a) : PySem.W.keepIn K (.ref a.f_has_tie) = true := T.F_has_tie.kp
theorem Txt.k_ties_in (T : Txt K mg a) : PySem.W.keepIn K (.ref a.f_ties_in) = true := T.F_ties_in.kp
theorem Txt.k_set_of (T : Txt K mg a) : PySem.W.keepIn K (.ref a.f_set_of) = true := T.F_set_of.kp
theorem Txt.k_all_ties (T : Txt K mg a) : PySem.W.keepIn K (.ref a.f_all_ties) = true := T.F_all_ties.kp
theorem Txt.k_is_set (T : Txt K mg a) : PySem.W.keepIn K (.ref a.f_is_set) = true := T.F_is_set.kp
theorem Txt.k_check_set (T : Txt K mg a) : PySem.W.keepIn K (.ref a.f_check_set) = true := T.F_check_set.kp
theorem Txt.k_triples_in (T : Txt K mg a) : PySem.W.keepIn K (.ref a.f_triples_in) = true := T.F_triples_in.kp
theorem Txt.k_odd_points (T : Txt K mg a) : PySem.W.keepIn K (.ref a.f_odd_points) = true := T.F_odd_points.kp
theorem Txt.k_drawn_together (T : Txt K mg a) : PySem.W.keepIn K (.ref a.f_drawn_together) = true := T.F_drawn_together.kp
theorem Txt.k_pieces (T : Txt K mg a) : PySem.W.keepIn K (.ref a.f_pieces) = true := T.F_pieces.kp
theorem Txt.k_rank (T : Txt K mg a) : PySem.W.keepIn K (.ref a.f_rank) = true := T.F_rank.kp
theorem Txt.k_is_even (T : Txt K mg a) : PySem.W.keepIn K (.ref a.f_is_even) = true := T.F_is_even.kp
theorem Txt.k_is_ring (T : Txt K mg a) : PySem.W.keepIn K (.ref a.f_is_ring) = true := T.F_is_ring.kp
theorem Txt.k_is_ring_number (T : Txt K mg a) : PySem.W.keepIn K (.ref a.f_is_ring_number) = true := T.F_is_ring_number.kp
theorem Txt.k_reduced (T : Txt K mg a) : PySem.W.keepIn K (.ref a.f_reduced) = true := T.F_reduced.kp
theorem Txt.k_with_row (T : Txt K mg a) : PySem.W.keepIn K (.ref a.f_with_row) = true := T.F_with_row.kp
theorem Txt.k_rows_of (T : Txt K mg a) : PySem.W.keepIn K (.ref a.f_rows_of) = true := T.F_rows_of.kp
theorem Txt.k_is_base (T : Txt K mg a) : PySem.W.keepIn K (.ref a.f_is_base) = true := T.F_is_base.kp
theorem Txt.k_marks_for (T : Txt K mg a) : PySem.W.keepIn K (.ref a.f_marks_for) = true := T.F_marks_for.kp
theorem Txt.k_law_cell_at (T : Txt K mg a) : PySem.W.keepIn K (.ref a.f_law_cell_at) = true := T.F_law_cell_at.kp
theorem Txt.k_law_mixed (T : Txt K mg a) : PySem.W.keepIn K (.ref a.f_law_mixed) = true := T.F_law_mixed.kp
theorem Txt.k_law_length (T : Txt K mg a) : PySem.W.keepIn K (.ref a.f_law_length) = true := T.F_law_length.kp
theorem Txt.k_law_tie (T : Txt K mg a) : PySem.W.keepIn K (.ref a.f_law_tie) = true := T.F_law_tie.kp
theorem Txt.k_law_web (T : Txt K mg a) : PySem.W.keepIn K (.ref a.f_law_web) = true := T.F_law_web.kp
theorem Txt.k_law_whole (T : Txt K mg a) : PySem.W.keepIn K (.ref a.f_law_whole) = true := T.F_law_whole.kp
theorem Txt.k_law_counts (T : Txt K mg a) : PySem.W.keepIn K (.ref a.f_law_counts) = true := T.F_law_counts.kp
theorem Txt.k_law_pieces (T : Txt K mg a) : PySem.W.keepIn K (.ref a.f_law_pieces) = true := T.F_law_pieces.kp
theorem Txt.k_law_ring (T : Txt K mg a) : PySem.W.keepIn K (.ref a.f_law_ring) = true := T.F_law_ring.kp
theorem Txt.k_law_odd (T : Txt K mg a) : PySem.W.keepIn K (.ref a.f_law_odd) = true := T.F_law_odd.kp
theorem Txt.k_law_way (T : Txt K mg a) : PySem.W.keepIn K (.ref a.f_law_way) = true := T.F_law_way.kp
theorem Txt.k_law_chord_rings (T : Txt K mg a) : PySem.W.keepIn K (.ref a.f_law_chord_rings) = true := T.F_law_chord_rings.kp
theorem Txt.k_law_order (T : Txt K mg a) : PySem.W.keepIn K (.ref a.f_law_order) = true := T.F_law_order.kp
theorem Txt.k_law_exchanged (T : Txt K mg a) : PySem.W.keepIn K (.ref a.f_law_exchanged) = true := T.F_law_exchanged.kp
theorem Txt.k_law_right (T : Txt K mg a) : PySem.W.keepIn K (.ref a.f_law_right) = true := T.F_law_right.kp
theorem Txt.k_law_refused (T : Txt K mg a) : PySem.W.keepIn K (.ref a.f_law_refused) = true := T.F_law_refused.kp
end
def sp_has_tie : Sp := fun vs H Q _ => ∃ (S : Int) (k : Nat), vs = [.int S, .int (k : Int)] ∧ Q (.bl (bit S k)) H
def sp_ties_in : Sp := fun vs H Q _ => ∃ m : Nat, vs = [.int (m : Int)] ∧ Builtin.Int.intBits (m : Int) ≤ 1000 ∧ ∀ D H', H D = none → Same H H' → H' D = some (.lst (natsV (tiesOf (m : Int)))) → Q (.ref D) H'
def sp_all_ties : Sp := fun vs H Q _ => ∃ w p ts, vs = [.ref w] ∧ WebAt H w p ts ∧ Web p ts ∧ Q (.int (2 ^ ts.length - 1)) H
def sp_is_set : Sp := fun vs H Q _ => ∃ w p ts S, vs = [.ref w, .int S] ∧ WebAt H w p ts ∧ Web p ts ∧ Q (.bl (decide (0 ≤ S ∧ S < 2 ^ ts.length))) H
def OrBad (ts : List Tie) (S : Int) (bad : Prop) (R : Nat → Prop) : Prop := (∃ m : Nat, S = (m : Int) ∧ m < 2 ^ ts.length ∧ R m) ∨ ((S < 0 ∨ 2 ^ ts.length ≤ S) ∧ bad)
def sp_check_set (C : Addr) : Sp := fun vs H Q E => ∃ w p ts S, vs = [.ref w, .int S] ∧ WebAt H w p ts ∧ Web p ts ∧ OrBad ts S (E (.ref C) none H) fun _ => Q .non H
def sp_triples_in (C : Addr) : Sp := fun vs H Q E => ∃ w p ts S, vs = [.ref w, .int S] ∧ WebAt H w p ts ∧ Web p ts ∧ OrBad ts S (E (.ref C) none H) fun m =>
  ∀ D ys H', H D = none → Same H H' → H' D = some (.lst ys) → Paired (TupAt H') ys ((tiesOf (m : Int)).map (tieAt ts)) → Q (.ref D) H'
def sp_odd_points (C : Addr) : Sp := fun vs H Q E => ∃ w p ts S, vs = [.ref w, .int S] ∧ WebAt H w p ts ∧ Web p ts ∧ OrBad ts S (∀ H', Same H H' → E (.ref C) none H') fun m =>
  ∀ D H', Same H H' → H' D = some (.lst (natsV (oddOf p ts (m : Int)))) → Q (.ref D) H'
def sp_is_even (C : Addr) : Sp := fun vs H Q E => ∃ w p ts S, vs = [.ref w, .int S] ∧ WebAt H w p ts ∧ Web p ts ∧ OrBad ts S (∀ H', Same H H' → E (.ref C) none H') fun m => ∀ H', Same H H' → Q (.bl (decide (oddOf p ts (m : Int) = []))) H'
section
variable {P : Program} {w : World} {K : PySem.W.Frag} {mg : Str → Option Value} {base : Heap} {a : Adr}
theorem G_has_tie (T : Txt K mg a) : FnOk P w K mg base CX0 1 a.f_has_tie a.d_has_tie ["tie_set", "tie"] sp_has_tie := by
  refine T.F_has_tie.ok sc_has_tie (fun vs H Q E h => ?_) (fun cdv A outer s H vs Q E hr h => ?_)
  · obtain ⟨S, k, rfl, _⟩ := h
    rfl
  · obtain ⟨S, k, rfl, q⟩ := h
    refine ⟨_, (@pss_one _ _ _ (@ps_ret _ _ _ _ (@pe_cmpR _ _ _ _ _ _ _ _ op_eq (@pe_op _ _ _ _ _ _ _ _ op_and (@pe_op _ _ _ _ _ _ _ _ op_shr (pv 0) (pv 1)) pe_int) pe_int (nomark _)))), ?_⟩
    refine (exq rfl (exq rfl (ijq ⟨(by (first | lia | omega)), ijq ⟨rfl, ?_⟩⟩)))
    rw [Int.toNat_natCast, has_eq]
    exact q
theorem G_ties_in (T : Txt K mg a) : FnOk P w K mg base CX0 2 a.f_ties_in a.d_ties_in ["tie_set"] sp_ties_in := by
  have G_has_tie : FnOk P w K mg base CX0 1 a.f_has_tie a.d_has_tie ["tie_set", "tie"] sp_has_tie := G_has_tie T
  refine T.F_ties_in.ok sc_ties_in (fun vs H Q E h => ?_) (fun cdv A outer s H vs Q E hr h => ?_)
  · obtain ⟨m, rfl, _⟩ := h
    rfl
  · obtain ⟨m, rfl, hm, k⟩ := h
    refine ⟨_, (@pss_one _ _ _ (@ps_ret _ _ _ _ (@pe_comp _ _ _ _ _ _ _ ["tie"] ["tie_set"] [0] _ _ _ _ (compText_of (defScope s_ties_in) ["tie_set"]) rfl (@pi_range1 _ _ _ _ _ _ (by rfl) T.n_range (@pa_cons _ _ _ _ _ (@pe_bm0 _ _ _ _ _ _ _ _ _ PySem.F.plainAttrs_int PyProof.Rows.slot_int_bit_length PyProof.Rows.type_int_bit_length mt_bits (pv 0) (by rfl) (by rfl)) pa_nil (by rfl)) (by rfl)) (fun _ _ _ _ => (pg_name (i := 0) (show (["tie", "tie_set"] : List Str).Nodup by decide +kernel) rfl (Or.inl rfl))) (fun _ _ _ _ => (pts_one (pt_val (pe_call G_has_tie (hr.mono (by decide)) (by rfl) T.m_has_tie T.k_has_tie T.b_has_tie .nil pass0 (pa_cons (pv 1) (pa_cons (pv 0) pa_nil)))))) (fun _ _ _ _ => (pv 0)) (by intro _; rfl)))), ?_⟩
    refine (exq rfl ⟨rfl, exq rfl ⟨rfl, exq rfl ⟨(by (first | lia | omega)), (by (first | lia | omega)), fun D hD => comp_range (lo := 0) (m := Builtin.Int.intBits (m : Int)) (Pick (bit (m : Int)) H D) (.start hD) (fun i acc H2 _ p => p.len) (dl (Nat.ble_eq.mpr hm)) ?_ ?_⟩⟩⟩)
    · intro i acc H2 hi p
      rw [Int.zero_add]
      refine ⟨rfl, exq rfl (exq rfl ⟨(m : Int), i, rfl, exq rfl (?_)⟩)⟩
      cases hb : bit (m : Int) i with
      | true => exact (exq rfl (p.yes hD (Same.refl _) hb))
      | false => exact p.no (Same.refl _) hb
    · intro acc H2 p
      exact k D H2 hD p.1 (by rw [p.2.1, p.2.2]; rfl)
theorem G_all_ties (T : Txt K mg a) : FnOk P w K mg base CX0 1 a.f_all_ties a.d_all_ties ["web"] sp_all_ties := by
  refine T.F_all_ties.ok sc_all_ties (fun vs H Q E h => ?_) (fun cdv A outer s H vs Q E hr h => ?_)
  · obtain ⟨w, p, ts, rfl, _⟩ := h
    rfl
  · obtain ⟨wb, p, ts, rfl, hw, W, q⟩ := h
    refine ⟨_, (@pss_one _ _ _ (@ps_ret _ _ _ _ (@pe_op _ _ _ _ _ _ _ _ op_sub (@pe_op _ _ _ _ _ _ _ _ op_shl pe_int (@pe_callB _ _ _ _ _ _ _ _ _ (lenK K) (by rfl) T.n_len PySem.boot_len (@pa_cons _ _ _ _ _ (@pe_ix _ _ _ _ _ _ _ (ixT K) (pv 0) pe_int (fun _ _ => rfl)) pa_nil (by rfl)) (by decide) (by decide) (by rfl) (by rfl))) pe_int))), ?_⟩
    obtain ⟨b, xs, h1, h2, h3⟩ := hw.ex
    have hl := h3.length
    have wl := W.len
    refine (exq rfl (ixq (SqT.of h1) (atI_nat (j := 1) rfl) (lnq rfl (.inr (SqT.of h2)) (ijq ⟨⟨by (first | lia | omega), by (first | lia | omega), by decide⟩, ijq (?_)⟩))))
    rw [Int.toNat_natCast, hl, Int.one_mul]
    exact q
theorem G_is_set (T : Txt K mg a) : FnOk P w K mg base CX0 2 a.f_is_set a.d_is_set ["web", "number"] sp_is_set := by
  have G_all_ties : FnOk P w K mg base CX0 1 a.f_all_ties a.d_all_ties ["web"] sp_all_ties := G_all_ties T
  refine T.F_is_set.ok sc_is_set (fun vs H Q E h => ?_) (fun cdv A outer s H vs Q E hr h => ?_)
  · obtain ⟨w, p, ts, S, rfl, _⟩ := h
    rfl
  · obtain ⟨wb, p, ts, S, rfl, hw, W, q⟩ := h
    refine ⟨_, (@pss_one _ _ _ (@ps_ret _ _ _ _ (@pe_and _ _ _ _ _ _ _ (@pe_cmpR _ _ _ _ _ _ _ _ op_ge (pv 1) pe_int (nomark _)) (@pe_one _ _ _ _ _ (@pe_cmpR _ _ _ _ _ _ _ _ op_le (pv 1) (@pe_call _ _ _ _ _ _ _ _ _ _ _ _ _ _ _ _ G_all_ties (hr.mono (by decide)) (by rfl) T.m_all_ties T.k_all_ties T.b_all_ties .nil pass0 (@pa_cons _ _ _ _ _ (pv 0) pa_nil (by rfl)) (by decide) (by rfl) (by rfl)) (nomark _)))))), ?_⟩
    refine (exq rfl (ijq (exq rfl (ite2 (fun hlt => ?_) (fun hlt => ?_)))))
    · have hlt : 0 ≤ S := of_decide_eq_true hlt
      refine (exq rfl (exq rfl ⟨wb, p, ts, rfl, hw, W, _, _, rfl, rfl, ?_⟩))
      have e : decide (S ≤ 2 ^ ts.length - 1) = decide (0 ≤ S ∧ S < 2 ^ ts.length) := decide_eq_decide.mpr ⟨fun z => ⟨hlt, by (first | lia | omega)⟩, fun z => by (first | lia | omega)⟩
      rw [← e] at q
      exact q
    · have hlt : ¬ 0 ≤ S := fun z => hlt (decide_eq_true z)
      rw [decide_eq_false (fun z => hlt z.1)] at q
      exact q
theorem G_check_set (T : Txt K mg a) : FnOk P w K mg base (CX1 P w) 3 a.f_check_set a.d_check_set ["web", "tie_set"] (sp_check_set a.c_BadSet) := by
  have G_is_set : FnOk P w K mg base CX0 2 a.f_is_set a.d_is_set ["web", "number"] sp_is_set := G_is_set T
  refine T.F_check_set.ok1 sc_check_set (fun vs H Q E h => ?_) (fun cdv A outer s H vs Q E hr h => ?_)
  · obtain ⟨w, p, ts, S, rfl, _⟩ := h
    rfl
  · obtain ⟨wb, p, ts, S, rfl, hw, W, q⟩ := h
    refine ⟨_, (@pss_one _ _ _ (@ps_if _ _ _ _ _ _ _ _ (@pt_not _ _ _ _ (@pt_val _ _ _ (@pe_call _ _ _ _ _ _ _ _ _ _ _ _ _ _ _ _ G_is_set (hr.mono (by decide)) (by rfl) T.m_is_set T.k_is_set T.b_is_set .nil pass0 (@pa_cons _ _ _ _ _ (pv 0) (@pa_cons _ _ _ _ _ (pv 1) pa_nil (by rfl)) (by rfl)) (by decide) (by rfl) (by rfl)) (by intro _; rfl))) (@pss_one _ _ _ (@ps_raise _ _ _ _ _ _ _ _ _ _ _ _ _ _ out_of.thr rfl (by rfl) T.x_BadSet PySem.F.excBase_ValueError (@pa_cons _ _ _ _ _ pe_str pa_nil (by rfl)) (by rfl) (by rfl) (by decide))) pss_nil)), ?_⟩
    refine hd_check_set ?_
    intro zz0
    refine (exq rfl (exq rfl ⟨wb, p, ts, S, rfl, hw, W, ?_⟩))
    have h2 : ((2 : Int) ^ ts.length) = ((2 ^ ts.length : Nat) : Int) := by simp
    rcases q with ⟨m, rfl, hm, q⟩ | ⟨hS, q⟩
    · rw [decide_eq_true ⟨by (first | lia | omega), by (first | lia | omega)⟩]
      exact (exq rfl (iteF q))
    · rw [decide_eq_false (by (first | lia | omega))]
      exact (exq rfl (iteT ⟨dl rfl, q⟩))
theorem G_triples_in (T : Txt K mg a) : FnOk P w K mg base (CX1 P w) 4 a.f_triples_in a.d_triples_in ["web", "tie_set"] (sp_triples_in a.c_BadSet) := by
  have G_check_set : FnOk P w K mg base (CX1 P w) 3 a.f_check_set a.d_check_set ["web", "tie_set"] (sp_check_set a.c_BadSet) := G_check_set T
  have G_ties_in : FnOk P w K mg base CX0 2 a.f_ties_in a.d_ties_in ["tie_set"] sp_ties_in := G_ties_in T
  refine T.F_triples_in.ok1 sc_triples_in (fun vs H Q E h => ?_) (fun cdv A outer s H vs Q E hr h => ?_)
  · obtain ⟨w, p, ts, S, rfl, _⟩ := h
    rfl
  · obtain ⟨wb, p, ts, S, rfl, hw, W, q⟩ := h
    refine ⟨_, (@pss_cons _ _ _ _ _ (@ps_expr _ _ _ _ (@pe_call _ _ _ _ _ _ _ _ _ _ _ _ _ _ _ _ G_check_set (hr.mono (by decide)) (by rfl) T.m_check_set T.k_check_set T.b_check_set .nil out_of.passes (@pa_cons _ _ _ _ _ (pv 0) (@pa_cons _ _ _ _ _ (pv 1) pa_nil (by rfl)) (by rfl)) (by decide) (by rfl) (by rfl)) (by rfl)) (@pss_one _ _ _ (@ps_ret _ _ _ _ (@pe_comp _ _ _ _ _ _ _ ["tie"] ["web"] [0] _ _ _ _ (compText_of (defScope s_triples_in) ["web", "tie_set"]) rfl (@piL _ _ _ _ K (@pe_call _ _ _ _ _ _ _ _ _ _ _ _ _ _ _ _ G_ties_in (hr.mono (by decide)) (by rfl) T.m_ties_in T.k_ties_in T.b_ties_in .nil pass0 (@pa_cons _ _ _ _ _ (pv 1) pa_nil (by rfl)) (by decide) (by rfl) (by rfl)) (by rfl)) (fun _ _ _ _ => (pg_name (i := 0) (show (["tie", "web"] : List Str).Nodup by decide +kernel) rfl (Or.inl rfl))) (fun _ _ _ _ => pts_nil) (fun _ _ _ _ => (pe_ix (ixT K) (pe_ix (ixT K) (pv 1) pe_int (fun _ _ => rfl)) (pv 0) (fun _ _ => rfl))) (by intro _; rfl))))), ?_⟩
    refine hd_triples_in ?_
    intro zz0
    refine (exq rfl (exq rfl ⟨wb, p, ts, S, rfl, hw, W, ?_⟩))
    rcases q with ⟨m, rfl, hm, q⟩ | ⟨hS, q⟩
    · refine .inl ⟨m, rfl, hm, ?_⟩
      have wl := W.len
      have hb : Builtin.Int.intBits (m : Int) ≤ ts.length := bits_le hm
      refine (exq rfl ⟨m, rfl, by (first | lia | omega), fun L H1 _ s1 hL => ⟨L, rfl, ⟨_, SqL.of hL⟩, fun D hD => ?_⟩⟩)
      obtain ⟨b, xs, h1, h2, h3⟩ := (hw.same s1).ex
      have hxl := h3.length
      refine comp_list (xs := natsV (tiesOf (m : Int))) (fun i acc H2 => Same H1 H2 ∧ H2 D = some (.lst acc) ∧ Paired (TupAt H2) acc (((tiesOf (m : Int)).take i).map (tieAt ts)) ∧ acc.length = i) ⟨Same.new hD, upd_same, .nil, rfl⟩ ?_ ?_ ?_ ?_
      · rintro i acc H2 _ ⟨s2, hd, pr, hac⟩
        exact ⟨SqL.of (s2 _ _ hL), hd, Nat.le_of_eq hac⟩
      · rw [natsV_len]
        refine dl (Nat.ble_eq.mpr (Nat.le_trans (List.length_filter_le _ _) ?_))
        rw [List.length_range]
        (first | lia | omega)
      · rintro i x acc H2 hx ⟨s2, hd, pr, hac⟩
        obtain ⟨k, hk, rfl⟩ := natsV_get hx
        have hkl : k < ts.length := ties_lt hm (List.mem_of_getElem? hk)
        have hkx : k < xs.length := by (first | lia | omega)
        obtain ⟨t, ht, c, hc, hct⟩ := Paired.getP h3 (i := k) (x := xs[k]) (by simp [hkx])
        have htt : tieAt ts k = t := by
          unfold tieAt
          rw [List.getD_eq_getElem?_getD, ht]
          rfl
        refine ⟨rfl, exq rfl (ixq (SqT.of (s2 _ _ h1)) (atI_nat (j := 1) rfl) (exq rfl (ixq (v := xs[k]) (SqT.of (s2 _ _ h2)) (atI_nat (j := k) (by simp [hkx])) (?_))))⟩
        rw [hc]
        refine ⟨hd, s2.put hD, upd_same, ?_, by rw [List.length_append, List.length_singleton, hac]⟩
        rw [List.take_add_one, hk, List.map_append]
        refine Paired.snoc (Paired.imp' (fun _ _ z => z.tups (Tups.put hd)) pr) ?_
        rw [htt]
        exact ⟨c, rfl, Tups.put hd _ _ (s2 _ _ hct)⟩
      · rintro acc H2 ⟨s2, hd, pr, hac⟩
        rw [natsV_len, List.take_length] at pr
        exact q D acc H2 (s1.free hD) (s1.trans s2) hd pr
    · exact .inr ⟨hS, q⟩
end

section
variable {P : Program} {w : World} {K : PySem.W.Frag} {mg : Str → Option Value} {base : Heap} {a : Adr}
theorem G_odd_points (T : Txt K mg a) : FnOk P w K mg base (CX1 P w) 5 a.f_odd_points a.d_odd_points ["web", "tie_set"] (sp_odd_points a.c_BadSet) := by
  have G_triples_in : FnOk P w K mg base (CX1 P w) 4 a.f_triples_in a.d_triples_in ["web", "tie_set"] (sp_triples_in a.c_BadSet) := G_triples_in T
  refine T.F_odd_points.ok1 sc_odd_points (fun vs H Q E h => ?_) (fun cdv A outer s H vs Q E hr h => ?_)
  · obtain ⟨w, p, ts, S, rfl, _⟩ := h
    rfl
  · obtain ⟨wb, p, ts, S, rfl, hw, W, q⟩ := h
    refine ⟨_, (@pss_cons _ _ _ _ _ (@ps_set _ _ 2 _ _ _ _ sc_odd_points.nd rfl (Or.inr rfl) (@pe_op _ _ _ _ _ _ _ _ op_rep (@pe_lst _ _ _ _ (@pa_cons _ _ _ _ _ pe_int pa_nil (by rfl))) (@pe_ix _ _ _ _ _ _ _ (ixT K) (pv 0) pe_int (fun _ _ => rfl))) (by rfl) (by first | exact .inl rfl | exact .inr rfl | assumption)) (@pss_cons _ _ _ _ _ (@ps_for1 _ _ _ _ _ _ _ _ rfl (@piL _ _ _ _ K (@pe_call _ _ _ _ _ _ _ _ _ _ _ _ _ _ _ _ G_triples_in (hr.mono (by decide)) (by rfl) T.m_triples_in T.k_triples_in T.b_triples_in .nil out_of.passes (@pa_cons _ _ _ _ _ (pv 0) (@pa_cons _ _ _ _ _ (pv 1) pa_nil (by rfl)) (by rfl)) (by decide) (by rfl) (by rfl)) (by rfl)) (@pgT _ _ K _ _ 3 _ rfl (@pgs_cons _ _ _ _ _ (pg_name (i := 3) sc_odd_points.nd rfl (Or.inl rfl)) (@pgs_cons _ _ _ _ _ (pg_name (i := 4) sc_odd_points.nd rfl (Or.inl rfl)) (@pgs_cons _ _ _ _ _ (pg_name (i := 5) sc_odd_points.nd rfl (Or.inl rfl)) pgs_nil (by rfl)) (by rfl)) (by rfl)) (by rfl) (by rfl) (by rfl)) (@pss_cons _ _ _ _ _ (@ps_augS _ _ _ _ _ _ _ _ _ _ _ _ _ (pv 2) (pv 3) (getL K) pe_int iop_add set_list (by intros; rfl)) (@pss_one _ _ _ (@ps_augS _ _ _ _ _ _ _ _ _ _ _ _ _ (pv 2) (pv 4) (getL K) pe_int iop_add set_list (by intros; rfl)))) (by intro _; rfl)) (@pss_one _ _ _ (@ps_ret _ _ _ _ (@pe_comp _ _ _ _ _ _ _ ["point"] ["ends"] [2] _ _ _ _ (compText_of (defScope s_odd_points) ["web", "tie_set", "ends", "one", "other", "length"]) rfl (@pi_range1 _ _ _ _ _ _ (by rfl) T.n_range (@pa_cons _ _ _ _ _ (@pe_ix _ _ _ _ _ _ _ (ixT K) (pv 0) pe_int (fun _ _ => rfl)) pa_nil (by rfl)) (by rfl)) (fun _ _ _ _ => (pg_name (i := 0) (show (["point", "ends"] : List Str).Nodup by decide +kernel) rfl (Or.inl rfl))) (fun _ _ _ _ => (pts_one (pt_cmpR op_eq (pe_op op_mod (pe_ix (ixL K) (pv 1) (pv 0) (fun _ _ => rfl)) pe_int) pe_int (nomark _)))) (fun _ _ _ _ => (pv 0)) (by intro _; rfl)))))), ?_⟩
    refine hd_odd_points ?_
    intro zz0 zz1 zz2 zz3
    obtain ⟨b, xs, h1, h2, h3⟩ := id hw.ex
    have wp := W.pts
    refine ⟨dl rfl, fun l0 hl0 => ?_⟩
    have s0 : Same H (upd H l0 (.lst [.int 0])) := Same.new hl0
    refine (exq rfl (ixq (SqT.of (s0 _ _ h1)) (atI_nat (j := 0) rfl) ⟨l0, (p : Int), exq rfl ⟨rfl, upd_same, by (first | lia | omega), by (first | lia | omega), (by rw [Int.toNat_natCast]; show 1 * p ≤ sizeLine; exact dl (Nat.ble_eq.mpr (by (first | lia | omega)))), fun e he => ?_⟩⟩))
    have s1 := s0.trans (Same.new (o := .lst (List.replicate (p : Int).toNat [V.int 0]).flatten) he)
    have he1 : upd (upd H l0 (.lst [.int 0])) e (.lst (List.replicate (p : Int).toNat [V.int 0]).flatten) e = some (.lst (intsV (List.replicate p 0))) := by
      rw [upd_same, Int.toNat_natCast, rep_zero]
    generalize upd (upd H l0 (.lst [.int 0])) e (.lst (List.replicate (p : Int).toNat [V.int 0]).flatten) = H1 at s1 he1
    have heH : H e = none := s0.free he
    refine (exq rfl (exq rfl ⟨wb, p, ts, S, rfl, hw.same s1, W, ?_⟩))
    rcases q with ⟨m, rfl, hm, q⟩ | ⟨hS, q⟩
    · refine .inl ⟨m, rfl, hm, fun L ys H2 hLn s2 hL pr => ⟨L, rfl, ⟨_, SqL.of hL⟩, ?_⟩⟩
      have s12 := s1.trans s2
      have heL : e ≠ L := ne_of_none he1 hLn
      have hyl : ys.length ≤ 24 := by
        rw [pr.length, List.length_map]
        have hb : Builtin.Int.intBits (m : Int) ≤ ts.length := bits_le hm
        have wl := W.len
        have := List.length_filter_le (bit (m : Int)) (List.range (Builtin.Int.intBits (m : Int)))
        rw [List.length_range] at this
        exact Nat.le_trans this (by (first | lia | omega))
      refine for_list' (K := K) (a := L) (xs := ys) (fun i σ H3 => ∃ v1 v2 v3, σ = [some (.ref wb), some (.int (m : Int)), some (.ref e), v1, v2, v3] ∧ (∀ x o, H2 x = some o → x ≠ e → H3 x = some o) ∧ H3 e = some (.lst (intsV ((((tiesOf (m : Int)).map (tieAt ts)).take i).foldl stepT (List.replicate p 0)))))
        ⟨none, none, none, rfl, fun _ _ z _ => z, s2 _ _ he1⟩ (fun i σ H3 _ ⟨_, _, _, _, z, _⟩ => SqL.of (z _ _ hL (Ne.symm heL))) ?_ ?_
      · rintro i y D' σ H3 hi ⟨v1, v2, v3, rfl, z3, he3⟩
        obtain ⟨t, ht, c, rfl, hc⟩ := Paired.getP pr hi
        have hce : c ≠ e := ne_of hc (s2 _ _ he1) (by intro z; cases z)
        have hc3 := z3 _ _ hc hce
        have htm : t ∈ ts := by
          obtain ⟨k, hk, rfl⟩ := List.mem_map.mp (List.mem_of_getElem? ht)
          unfold tieAt
          have hkl := ties_lt hm hk
          rw [List.getD_eq_getElem?_getD]
          simp [hkl]
        obtain ⟨a0, a1, b0, b1⟩ := W.inw.ends t htm
        obtain ⟨t1, t2, t3⟩ := t
        dsimp only at a0 a1 b0 b1
        obtain ⟨j1, rfl⟩ := Int.eq_ofNat_of_zero_le a0
        obtain ⟨j2, rfl⟩ := Int.eq_ofNat_of_zero_le b0
        generalize hE : (((tiesOf (m : Int)).map (tieAt ts)).take i).foldl stepT (List.replicate p 0) = EE at he3
        have hEl : EE.length = p := by rw [← hE, foldT_len, List.length_replicate]
        have hj1 : j1 < EE.length := by (first | lia | omega)
        have hj2 : j2 < (bump EE (j1 : Int)).length := by rw [bump_len]; (first | lia | omega)
        refine ⟨c, _, rfl, SqT.of hc3, rfl, _, _, rfl, _, _, rfl, _, _, rfl, rfl, ?_⟩
        refine (exq rfl (exq rfl ⟨e, _, j1, _, rfl, rfl, SqL.of he3, intsV_get hj1, _, _, rfl, rfl, e, _, _, j1, rfl, rfl, he3, ixN_nat (by rw [intsV, List.length_map]; exact hj1), ?_⟩))
        rw [intsV_bump]
        refine (exq rfl (exq rfl ⟨e, _, j2, _, rfl, rfl, SqL.of upd_same, intsV_get hj2, _, _, rfl, rfl, e, _, _, j2, rfl, rfl, upd_same, ixN_nat (by rw [intsV, List.length_map]; exact hj2), ?_⟩))
        rw [intsV_bump]
        refine ⟨_, _, _, rfl, fun x o z hx => by rw [upd_ne hx, upd_ne hx]; exact z3 x o z hx, ?_⟩
        rw [upd_same, List.take_add_one, ht, List.foldl_append, hE]
        rfl
      · rintro σ H3 ⟨v1, v2, v3, rfl, z3, he3⟩
        have hwe : wb ≠ e := ne_of_none h1 heH
        have s13 : Same H H3 := fun x o z => z3 x o (s12 x o z) (ne_of_none z heH)
        have hE : H3 e = some (.lst (intsV (endsOf p ts (m : Int)))) := by
          rw [he3, List.take_of_length_le (by rw [← pr.length]; exact Nat.le_refl _), ends_ties hm]
        have hEl : (endsOf p ts (m : Int)).length = p := by rw [ends_ties hm, foldT_len, List.length_replicate]
        refine (exq rfl (ixq (SqT.of (s13 _ _ h1)) (atI_nat (j := 0) rfl) (exq rfl ⟨(by (first | lia | omega)), (by (first | lia | omega)), fun D hD => comp_range (lo := 0) (m := p) (Pick (fun i => decide ((endsOf p ts (m : Int)).getD i 0 % 2 = 1)) H3 D) (.start hD) (fun i acc H4 _ p => p.len) (dl (Nat.ble_eq.mpr (by (first | lia | omega)))) ?_ ?_⟩)))
        · intro i acc H4 hi pk
          rw [Int.zero_add]
          refine ⟨rfl, exq rfl (exq rfl (ixl (SqL.of (pk.1 _ _ hE)) (atI_nat (j := i) (intsV_get (by rw [hEl]; exact hi))) (ijq ⟨(modC rfl), rfl, exq rfl (?_)⟩)))⟩
          rw [dec_one]
          cases hb : decide ((endsOf p ts (m : Int)).getD i 0 % 2 = 1) with
          | true => exact (exq rfl (pk.yes hD (Same.refl _) hb))
          | false => exact pk.no (Same.refl _) hb
        · intro acc H4 pk
          exact q D H4 (s13.trans pk.1) (by rw [pk.2.1, pk.2.2]; rfl)
    · exact .inr ⟨hS, q _ s1⟩
end

section
variable {P : Program} {w : World} {K : PySem.W.Frag} {mg : Str → Option Value} {base : Heap} {a : Adr}
theorem G_is_even (T : Txt K mg a) : FnOk P w K mg base (CX1 P w) 6 a.f_is_even a.d_is_even ["web", "tie_set"] (sp_is_even a.c_BadSet) := by
  have G_odd_points : FnOk P w K mg base (CX1 P w) 5 a.f_odd_points a.d_odd_points ["web", "tie_set"] (sp_odd_points a.c_BadSet) := G_odd_points T
  refine T.F_is_even.ok1 sc_is_even (fun vs H Q E h => ?_) (fun cdv A outer s H vs Q E hr h => ?_)
  · obtain ⟨w, p, ts, S, rfl, _⟩ := h
    rfl
  · obtain ⟨wb, p, ts, S, rfl, hw, W, q⟩ := h
    refine ⟨_, (@pss_one _ _ _ (@ps_ret _ _ _ _ (@pe_cmpR _ _ _ _ _ _ _ _ (op_eqK K hr.units) (@pe_call _ _ _ _ _ _ _ _ _ _ _ _ _ _ _ _ G_odd_points (hr.mono (by decide)) (by rfl) T.m_odd_points T.k_odd_points T.b_odd_points .nil out_of.passes (@pa_cons _ _ _ _ _ (pv 0) (@pa_cons _ _ _ _ _ (pv 1) pa_nil (by rfl)) (by rfl)) (by decide) (by rfl) (by rfl)) (@pe_lst _ _ _ _ pa_nil) (nomark _)))), ?_⟩
    refine (exq rfl (exq rfl ⟨wb, p, ts, S, rfl, hw, W, ?_⟩))
    rcases q with ⟨m, rfl, hm, q⟩ | ⟨hS, q⟩
    · refine .inl ⟨m, rfl, hm, fun D H1 s1 hD => ⟨dl rfl, fun l hl => ?_⟩⟩
      have s2 : Same H1 (upd H1 l (.lst [])) := Same.new hl
      refine ⟨_, _, .lst (SqL.of (s2 _ _ hD)) (nats_dat _), .lst (SqL.of upd_same) .nil, shaped_nats _, rfl, ?_⟩
      rw [eqv_nil]
      exact q _ (s1.trans s2)
    · exact .inr ⟨hS, q⟩
end

def sp_drawn : Sp := fun vs H Q _ => ∃ (l : Addr) (L : Nat → Nat) (p u v : Nat), vs = [.ref l, .int (u : Int), .int (v : Int)] ∧ H l = some (.lst (mapV L p)) ∧ p ≤ 10 ∧ u < p ∧ v < p ∧
  ∀ D H', H D = none → Same H H' → H' D = some (.lst (mapV (RM.join L u v) p)) → Q (.ref D) H'
def sp_pieces (C : Addr) : Sp := fun vs H Q E => ∃ w p ts, ∃ g : GoodWeb p ts, ∃ S, vs = [.ref w, .int S] ∧ WebAt H w p ts ∧ OrBad ts S (∀ H', Same H H' → E (.ref C) none H') fun m =>
  ∀ D ys H', H D = none → Same H H' → H' D = some (.lst ys) → Paired (LstFr D H H') ys ((rootsOf (labOf p ts g m) p).map (pieceOf (labOf p ts g m) p)) → Q (.ref D) H'
def sp_rank : Sp := fun vs H Q _ => ∃ w p ts, ∃ g : GoodWeb p ts, vs = [.ref w] ∧ WebAt H w p ts ∧ ∀ H', Same H H' → Q (.int ((netOf p ts g).chords.length : Int)) H'
section
variable {P : Program} {w : World} {K : PySem.W.Frag} {mg : Str → Option Value} {base : Heap} {a : Adr}
theorem G_drawn_together (T : Txt K mg a) : FnOk P w K mg base CX0 1 a.f_drawn_together a.d_drawn_together ["leasts", "one", "other"] sp_drawn := by
  refine T.F_drawn_together.ok sc_drawn_together (fun vs H Q E h => ?_) (fun cdv A outer s H vs Q E hr h => ?_)
  · obtain ⟨l, L, p, u, v, rfl, _⟩ := h
    rfl
  · obtain ⟨l, L, p, u, v, rfl, hl, hp, hu, hv, q⟩ := h
    refine ⟨_, (@pss_cons _ _ _ _ _ (@ps_set _ _ 3 _ _ _ _ sc_drawn_together.nd rfl (Or.inr rfl) (@pe_callB _ _ _ _ _ _ _ _ _ (call_min2 rfl) (by rfl) T.n_min PyProof.Rows.boot_min (@pa_cons _ _ _ _ _ (@pe_ix _ _ _ _ _ _ _ (ixL K) (pv 0) (pv 1) (fun _ _ => rfl)) (@pa_cons _ _ _ _ _ (@pe_ix _ _ _ _ _ _ _ (ixL K) (pv 0) (pv 2) (fun _ _ => rfl)) pa_nil (by rfl)) (by rfl)) (by decide) (by decide) (by rfl) (by rfl)) (by rfl) (by first | exact .inl rfl | exact .inr rfl | assumption)) (@pss_cons _ _ _ _ _ (@ps_set _ _ 4 _ _ _ _ sc_drawn_together.nd rfl (Or.inr rfl) (@pe_callB _ _ _ _ _ _ _ _ _ (call_max2 rfl) (by rfl) T.n_max PyProof.Rows.boot_max (@pa_cons _ _ _ _ _ (@pe_ix _ _ _ _ _ _ _ (ixL K) (pv 0) (pv 1) (fun _ _ => rfl)) (@pa_cons _ _ _ _ _ (@pe_ix _ _ _ _ _ _ _ (ixL K) (pv 0) (pv 2) (fun _ _ => rfl)) pa_nil (by rfl)) (by rfl)) (by decide) (by decide) (by rfl) (by rfl)) (by rfl) (by first | exact .inl rfl | exact .inr rfl | assumption)) (@pss_one _ _ _ (@ps_ret _ _ _ _ (@pe_comp _ _ _ _ _ _ _ ["least"] ["low", "high"] [3, 4] _ _ _ _ (compText_of (defScope s_drawn_together) ["leasts", "one", "other", "low", "high"]) rfl (@piL _ _ _ _ K (pv 0) (by rfl)) (fun _ _ _ _ => (pg_name (i := 0) (show (["least", "low", "high"] : List Str).Nodup by decide +kernel) rfl (Or.inl rfl))) (fun _ _ _ _ => pts_nil) (fun _ _ _ _ => (pe_ifExp (pt_cmpR op_eq (pv 0) (pv 2) (nomark _)) (pv 1) (pv 0))) (by intro _; rfl)))))), ?_⟩
    refine hd_drawn_together ?_
    intro zz0 zz1
    refine (exq rfl (exq rfl (ixl (SqL.of hl) (atI_nat (j := u) (mapV_get hu)) (exq rfl (exq rfl (ixl (SqL.of hl) (atI_nat (j := v) (mapV_get hv)) ⟨_, _, rfl, ?_⟩))))))
    refine (exq rfl (exq rfl (ixl (SqL.of hl) (atI_nat (j := u) (mapV_get hu)) (exq rfl (exq rfl (ixl (SqL.of hl) (atI_nat (j := v) (mapV_get hv)) ⟨_, _, rfl, ?_⟩))))))
    refine (exq rfl ⟨l, rfl, ⟨_, SqL.of hl⟩, fun D hD => comp_list (xs := mapV L p) (Mapd (RM.join L u v) H D) (.start hD) (fun i acc H2 _ pd => ⟨SqL.of (pd.1 _ _ hl), pd.len⟩) (by rw [mapV_len]; exact dl (Nat.ble_eq.mpr (by (first | lia | omega)))) ?_ ?_⟩)
    · intro i x acc H2 hx pd
      obtain ⟨hi, rfl⟩ := mapV_of hx
      refine ⟨rfl, exq rfl (exq rfl ⟨rfl, exq rfl (?_)⟩)⟩
      rw [max_int, dec_nat]
      by_cases hm : L i = max (L u) (L v)
      · rw [decide_eq_true hm]
        refine iteT (exq rfl (pd.next hD (Same.refl _) ?_))
        rw [min_int]
        unfold RM.join
        rw [if_pos hm]
      · rw [decide_eq_false hm]
        refine iteF (exq rfl (pd.next hD (Same.refl _) ?_))
        unfold RM.join
        rw [if_neg hm]
    · intro acc H2 pd
      rw [mapV_len] at pd
      exact q D H2 hD pd.1 (by rw [pd.2.1, pd.2.2])
theorem G_pieces (T : Txt K mg a) : FnOk P w K mg base (CX1 P w) 5 a.f_pieces a.d_pieces ["web", "tie_set"] (sp_pieces a.c_BadSet) := by
  have G_triples_in : FnOk P w K mg base (CX1 P w) 4 a.f_triples_in a.d_triples_in ["web", "tie_set"] (sp_triples_in a.c_BadSet) := G_triples_in T
  have G_drawn_together : FnOk P w K mg base CX0 1 a.f_drawn_together a.d_drawn_together ["leasts", "one", "other"] sp_drawn := G_drawn_together T
  refine T.F_pieces.ok1 sc_pieces (fun vs H Q E h => ?_) (fun cdv A outer s H vs Q E hr h => ?_)
  · obtain ⟨w, p, ts, g, S, rfl, _⟩ := h
    rfl
  · obtain ⟨wb, p, ts, g, S, rfl, hw, q⟩ := h
    refine ⟨_, (@pss_cons _ _ _ _ _ (@ps_set _ _ 2 _ _ _ _ sc_pieces.nd rfl (Or.inr rfl) (@pe_callTy _ _ _ _ _ _ _ _ _ (listR rfl) (by rfl) T.n_list PyProof.Rows.boot_list (@pa_cons _ _ _ _ _ (@pe_callTy _ _ _ _ _ _ _ _ _ call_rng (by rfl) T.n_range PyProof.Rows.boot_range (@pa_cons _ _ _ _ _ (@pe_ix _ _ _ _ _ _ _ (ixT K) (pv 0) pe_int (fun _ _ => rfl)) pa_nil (by rfl)) (by decide) (by decide) (by rfl) (by rfl)) pa_nil (by rfl)) (by decide) (by decide) (by rfl) (by rfl)) (by rfl) (by first | exact .inl rfl | exact .inr rfl | assumption)) (@pss_cons _ _ _ _ _ (@ps_for1 _ _ _ _ _ _ _ _ rfl (@piL _ _ _ _ K (@pe_call _ _ _ _ _ _ _ _ _ _ _ _ _ _ _ _ G_triples_in (hr.mono (by decide)) (by rfl) T.m_triples_in T.k_triples_in T.b_triples_in .nil out_of.passes (@pa_cons _ _ _ _ _ (pv 0) (@pa_cons _ _ _ _ _ (pv 1) pa_nil (by rfl)) (by rfl)) (by decide) (by rfl) (by rfl)) (by rfl)) (@pgT _ _ K _ _ 3 _ rfl (@pgs_cons _ _ _ _ _ (pg_name (i := 3) sc_pieces.nd rfl (Or.inl rfl)) (@pgs_cons _ _ _ _ _ (pg_name (i := 4) sc_pieces.nd rfl (Or.inl rfl)) (@pgs_cons _ _ _ _ _ (pg_name (i := 5) sc_pieces.nd rfl (Or.inl rfl)) pgs_nil (by rfl)) (by rfl)) (by rfl)) (by rfl) (by rfl) (by rfl)) (@pss_one _ _ _ (@ps_set _ _ 2 _ _ _ _ sc_pieces.nd rfl (Or.inr rfl) (@pe_call _ _ _ _ _ _ _ _ _ _ _ _ _ _ _ _ G_drawn_together (hr.mono (by decide)) (by rfl) T.m_drawn_together T.k_drawn_together T.b_drawn_together .nil pass0 (@pa_cons _ _ _ _ _ (pv 2) (@pa_cons _ _ _ _ _ (pv 3) (@pa_cons _ _ _ _ _ (pv 4) pa_nil (by rfl)) (by rfl)) (by rfl)) (by decide) (by rfl) (by rfl)) (by rfl) (by first | exact .inl rfl | exact .inr rfl | assumption))) (by intro _; rfl)) (@pss_cons _ _ _ _ _ (@ps_set _ _ 6 _ _ _ _ sc_pieces.nd rfl (Or.inl rfl) (@pe_lst _ _ _ _ pa_nil) (by rfl) (by first | exact .inl rfl | exact .inr rfl | assumption)) (@pss_cons _ _ _ _ _ (@ps_for1 _ _ _ _ _ _ _ _ rfl (@pi_range1 _ _ _ _ _ _ (by rfl) T.n_range (@pa_cons _ _ _ _ _ (@pe_ix _ _ _ _ _ _ _ (ixT K) (pv 0) pe_int (fun _ _ => rfl)) pa_nil (by rfl)) (by rfl)) (pg_name (i := 7) sc_pieces.nd rfl (Or.inr rfl)) (@pss_one _ _ _ (@ps_if _ _ _ _ _ _ _ _ (@pt_cmpR _ _ _ _ _ _ _ _ op_eq (@pe_ix _ _ _ _ _ _ _ (ixL K) (pv 2) (pv 7) (fun _ _ => rfl)) (pv 7) (nomark _)) (@pss_one _ _ _ (@ps_expr _ _ _ _ (@bmK _ _ _ _ _ _ K (@pe_bm _ _ _ _ _ _ _ _ _ _ _ _ PySem.F.plainAttrs_list PySem.F.slot_list_append PySem.F.type_list_append mt_append (pv 6) (@pa_cons _ _ _ _ _ (@pe_comp _ _ _ _ _ _ _ ["point"] ["leasts", "start"] [2, 7] _ _ _ _ (compText_of (defScope s_pieces) ["web", "tie_set", "leasts", "one", "other", "length", "found", "start"]) rfl (@pi_range1 _ _ _ _ _ _ (by rfl) T.n_range (@pa_cons _ _ _ _ _ (@pe_ix _ _ _ _ _ _ _ (ixT K) (pv 0) pe_int (fun _ _ => rfl)) pa_nil (by rfl)) (by rfl)) (fun _ _ _ _ => (pg_name (i := 0) (show (["point", "leasts", "start"] : List Str).Nodup by decide +kernel) rfl (Or.inl rfl))) (fun _ _ _ _ => (pts_one (pt_cmpR op_eq (pe_ix (ixL K) (pv 1) (pv 0) (fun _ _ => rfl)) (pv 2) (nomark _)))) (fun _ _ _ _ => (pv 0)) (by intro _; rfl)) pa_nil (by rfl)) (by rfl) (by rfl) (by rfl) (by rfl) (by rfl)) (by rfl)) (by rfl))) pss_nil)) (by intro _; rfl)) (@pss_one _ _ _ (@ps_ret _ _ _ _ (pv 6))))))), ?_⟩
    refine hd_pieces ?_
    intro zz0 zz1 zz2 zz3 zz4 zz5 zz6
    obtain ⟨b, xs, h1, h2, h3⟩ := id hw.ex
    have W := g.web
    have wp := W.pts
    have wl := W.len
    refine (exq rfl (ixq (SqT.of h1) (atI_nat (j := 0) rfl) (exq rfl (fun r hr => ⟨r, p, rfl, upd_same, by (first | lia | omega), fun l hl => ?_⟩))))
    have s1 : Same H (upd (upd H r (.rng 0 (p : Int))) l (.lst (rngV p))) := (Same.new hr).trans (Same.new hl)
    have hl1 : upd (upd H r (.rng 0 (p : Int))) l (.lst (rngV p)) l = some (.lst (mapV (fun x => x) p)) := upd_same
    generalize upd (upd H r (.rng 0 (p : Int))) l (.lst (rngV p)) = H1 at s1 hl1
    refine (exq rfl (exq rfl ⟨wb, p, ts, S, rfl, hw.same s1, W, ?_⟩))
    rcases q with ⟨m, rfl, hm, q⟩ | ⟨hS, q⟩
    · refine .inl ⟨m, rfl, hm, fun T0 ys H2 hTn s2 hT pr => ⟨T0, rfl, ⟨_, SqL.of hT⟩, ?_⟩⟩
      have hyl : ys.length ≤ 24 := by
        rw [pr.length, List.length_map]
        have hb : Builtin.Int.intBits (m : Int) ≤ ts.length := bits_le hm
        have := List.length_filter_le (bit (m : Int)) (List.range (Builtin.Int.intBits (m : Int)))
        rw [List.length_range] at this
        exact Nat.le_trans this (by (first | lia | omega))
      refine for_list' (K := K) (a := T0) (xs := ys) (fun i σ H3 => ∃ la v3 v4 v5, σ = [some (.ref wb), some (.int (m : Int)), some (.ref la), v3, v4, v5, none, none] ∧ Same H2 H3 ∧ H3 la = some (.lst (mapV (foldJ p ts g ((tiesOf (m : Int)).take i)) p)))
        ⟨l, none, none, none, rfl, Same.refl _, s2 _ _ hl1⟩ (fun i σ H3 _ ⟨_, _, _, _, _, z, _⟩ => SqL.of (z _ _ hT)) ?_ ?_
      · rintro i y D' σ H3 hi ⟨la, v3, v4, v5, rfl, s3, hla⟩
        obtain ⟨t, ht, c, rfl, hc⟩ := Paired.getP pr hi
        have hc3 := s3 _ _ hc
        rw [List.getElem?_map] at ht
        obtain ⟨k, hk, hkt⟩ := Option.map_eq_some_iff.mp ht
        have hkl := ties_lt hm (List.mem_of_getElem? hk)
        have ea := net_a (g := g) hkl
        have eb := net_b (g := g) hkl
        rw [hkt] at ea eb
        have la' := (netOf p ts g).al k hkl
        have lb' := (netOf p ts g).bl k hkl
        refine ⟨c, _, rfl, SqT.of hc3, rfl, _, _, rfl, _, _, rfl, _, _, rfl, rfl, ?_⟩
        refine (exq rfl (exq rfl (exq rfl ⟨la, foldJ p ts g ((tiesOf (m : Int)).take i), p, (netOf p ts g).a k, (netOf p ts g).b k, ?_, hla, wp, la', lb', fun D H4 hDn s4 hD => ?_⟩)))
        · rw [← ea, ← eb]
          rfl
        · refine ⟨D, _, _, _, rfl, s3.trans s4, ?_⟩
          rw [hD, List.take_add_one, hk]
          show _ = some (HO.lst (mapV (foldJ p ts g ((tiesOf (m : Int)).take i ++ [k])) p))
          rw [foldJ_snoc]
      · rintro σ H3 ⟨la, v3, v4, v5, rfl, s3, hla⟩
        have hys : ys.length = (tiesOf (m : Int)).length := by rw [pr.length, List.length_map]
        rw [hys, List.take_length, foldJ_ties hm] at hla
        have s13 : Same H H3 := (s1.trans s2).trans s3
        refine ⟨dl rfl, fun D hD => ?_⟩
        have t0 : Gath (labOf p ts g m) p H3 D 0 (upd H3 D (.lst [])) := Gath.start hD
        generalize upd H3 D (.lst []) = H4 at t0
        refine (exq rfl (ixq (SqT.of (t0.1 _ _ (s13 _ _ h1))) (atI_nat (j := 0) rfl) (exq rfl ⟨(by (first | lia | omega)), (by (first | lia | omega)), ?_⟩)))
        refine for_range' (lo := 0) (n := (p : Int).toNat) (fun i σ H5 => ∃ v7, σ = [some (.ref wb), some (.int (m : Int)), some (.ref la), v3, v4, v5, some (.ref D), v7] ∧ Gath (labOf p ts g m) p H3 D i H5) ⟨none, rfl, t0⟩ ?_ ?_
        · rintro i D' σ H5 hi ⟨v7, rfl, t5⟩
          rw [Int.toNat_natCast] at hi
          rw [Int.zero_add]
          have hla5 := t5.1 _ _ hla
          refine (exq rfl (exq rfl (ixl (SqL.of hla5) (atI_nat (j := i) (mapV_get hi)) (exq rfl ⟨rfl, exq rfl (?_)⟩))))
          rw [dec_nat]
          by_cases hr : labOf p ts g m i = i
          · rw [decide_eq_true hr]
            obtain ⟨ys0, hD5⟩ : ∃ ys, H5 D = some (.lst ys) := let ⟨_, ys, z, _⟩ := t5; ⟨ys, z⟩
            refine iteT (exq rfl ⟨.inl ⟨rfl, _, SqL.of hD5⟩, exq rfl (ixq (SqT.of (t5.1 _ _ (s13 _ _ h1))) (atI_nat (j := 0) rfl) (exq rfl ⟨(by (first | lia | omega)), (by (first | lia | omega)), fun B hB => comp_range (lo := 0) (m := (p : Int).toNat) (Pick (fun x => decide (labOf p ts g m x = i)) H5 B) (.start hB) (fun i acc H6 _ pk => pk.len) (dl (Nat.ble_eq.mpr (by (first | lia | omega)))) ?_ ?_⟩))⟩)
            · intro x acc H6 hx pk
              rw [Int.toNat_natCast] at hx
              rw [Int.zero_add]
              refine ⟨rfl, exq rfl (exq rfl (ixl (SqL.of (pk.1 _ _ hla5)) (atI_nat (j := x) (mapV_get hx)) (exq rfl ⟨rfl, exq rfl (?_)⟩)))⟩
              rw [dec_nat]
              cases hb : decide (labOf p ts g m x = i) with
              | true => exact (exq rfl (pk.yes hB (Same.refl _) hb))
              | false => exact pk.no (Same.refl _) hb
            · intro acc H6 pk
              have hB6 : H6 B = some (.lst (natsV (pieceOf (labOf p ts g m) p i))) := by rw [pk.2.1, pk.2.2, Int.toNat_natCast]; rfl
              obtain ⟨ys1, hD6, hl1, t7⟩ := t5.push hD hr pk.1 hB hB6
              exact ⟨D, ys1, _, rfl, rfl, hD6, smallL (by (first | lia | omega)), exq rfl (t7)⟩
          · rw [decide_eq_false hr]
            exact iteF (exq rfl (t5.skip hr))
        · rintro σ H5 ⟨v7, rfl, t5⟩
          rw [Int.toNat_natCast] at t5
          obtain ⟨s5, ys5, hD5, pr5, hl5⟩ := t5
          exact (exq rfl (q D ys5 H5 (s13.free hD) (s13.trans s5) hD5 (Paired.imp' (fun _ _ ⟨e, he, hn, h0, z⟩ => ⟨e, he, hn, s13.free h0, z⟩) pr5)))
    · exact .inr ⟨hS, q _ s1⟩
theorem G_rank (T : Txt K mg a) : FnOk P w K mg base CX0 6 a.f_rank a.d_rank ["web"] sp_rank := by
  have G_pieces : FnOk P w K mg base (CX1 P w) 5 a.f_pieces a.d_pieces ["web", "tie_set"] (sp_pieces a.c_BadSet) := G_pieces T
  have G_all_ties : FnOk P w K mg base CX0 1 a.f_all_ties a.d_all_ties ["web"] sp_all_ties := G_all_ties T
  refine T.F_rank.ok sc_rank (fun vs H Q E h => ?_) (fun cdv A outer s H vs Q E hr h => ?_)
  · obtain ⟨w, p, ts, g, rfl, _⟩ := h
    rfl
  · obtain ⟨wb, p, ts, g, rfl, hw, q⟩ := h
    refine ⟨_, (@pss_one _ _ _ (@ps_ret _ _ _ _ (@pe_op _ _ _ _ _ _ _ _ op_add (@pe_op _ _ _ _ _ _ _ _ op_sub (@pe_callB _ _ _ _ _ _ _ _ _ (lenK K) (by rfl) T.n_len PySem.boot_len (@pa_cons _ _ _ _ _ (@pe_ix _ _ _ _ _ _ _ (ixT K) (pv 0) pe_int (fun _ _ => rfl)) pa_nil (by rfl)) (by decide) (by decide) (by rfl) (by rfl)) (@pe_ix _ _ _ _ _ _ _ (ixT K) (pv 0) pe_int (fun _ _ => rfl))) (@pe_callB _ _ _ _ _ _ _ _ _ (lenK K) (by rfl) T.n_len PySem.boot_len (@pa_cons _ _ _ _ _ (@pe_call _ _ _ _ _ _ _ _ _ _ _ _ _ _ _ _ G_pieces (hr.mono (by decide)) (by rfl) T.m_pieces T.k_pieces T.b_pieces .nil passN (@pa_cons _ _ _ _ _ (pv 0) (@pa_cons _ _ _ _ _ (@pe_call _ _ _ _ _ _ _ _ _ _ _ _ _ _ _ _ G_all_ties (hr.mono (by decide)) (by rfl) T.m_all_ties T.k_all_ties T.b_all_ties .nil pass0 (@pa_cons _ _ _ _ _ (pv 0) pa_nil (by rfl)) (by decide) (by rfl) (by rfl)) pa_nil (by rfl)) (by rfl)) (by decide) (by rfl) (by rfl)) pa_nil (by rfl)) (by decide) (by decide) (by rfl) (by rfl))))), ?_⟩
    obtain ⟨b, xs, h1, h2, h3⟩ := id hw.ex
    have hxl := h3.length
    have e2 : ((2 : Int) ^ ts.length - 1) = ((2 ^ ts.length - 1 : Nat) : Int) := by
      have h : ((2 : Int) ^ ts.length) = ((2 ^ ts.length : Nat) : Int) := by simp
      have := Nat.two_pow_pos ts.length
      (first | lia | omega)
    have hlt : 2 ^ ts.length - 1 < 2 ^ ts.length := by have := Nat.two_pow_pos ts.length; (first | lia | omega)
    refine (exq rfl (ixq (SqT.of h1) (atI_nat (j := 1) rfl) (lnq rfl (.inr (SqT.of h2)) (exq rfl (ixq (SqT.of h1) (atI_nat (j := 0) rfl) (ijq (?_)))))))
    refine (exq rfl (exq rfl ⟨wb, p, ts, rfl, hw, g.web, wb, p, ts, g, _, rfl, hw, .inl ⟨2 ^ ts.length - 1, e2, hlt, fun D ys H' hDn s' hD pr => (lnq rfl (.inl (SqL.of hD)) (ijq (?_)))⟩⟩))
    have hv := rank_is (g := g)
    have hy : ys.length = (rootsOf (labOf p ts g (2 ^ ts.length - 1)) p).length := by rw [pr.length, List.length_map]
    show Q (.int ((xs.length : Int) - (p : Int) + (ys.length : Int))) H'
    rw [hxl, hy, hv]
    exact q H' s'
end

def sp_is_ring (C : Addr) : Sp := fun vs H Q E => ∃ w p ts, ∃ g : GoodWeb p ts, ∃ S, vs = [.ref w, .int S] ∧ WebAt H w p ts ∧ OrBad ts S (∀ H', Same H H' → E (.ref C) none H') fun m => ∀ H', Same H H' → Q (.bl (ringB p ts g m)) H'
section
variable {P : Program} {w : World} {K : PySem.W.Frag} {mg : Str → Option Value} {base : Heap} {a : Adr}
theorem G_is_ring (T : Txt K mg a) : FnOk P w K mg base (CX1 P w) 7 a.f_is_ring a.d_is_ring ["web", "tie_set"] (sp_is_ring a.c_BadSet) := by
  have G_is_even : FnOk P w K mg base (CX1 P w) 6 a.f_is_even a.d_is_even ["web", "tie_set"] (sp_is_even a.c_BadSet) := G_is_even T
  have G_pieces : FnOk P w K mg base (CX1 P w) 5 a.f_pieces a.d_pieces ["web", "tie_set"] (sp_pieces a.c_BadSet) := G_pieces T
  have G_ties_in : FnOk P w K mg base CX0 2 a.f_ties_in a.d_ties_in ["tie_set"] sp_ties_in := G_ties_in T
  refine T.F_is_ring.ok1 sc_is_ring (fun vs H Q E h => ?_) (fun cdv A outer s H vs Q E hr h => ?_)
  · obtain ⟨w, p, ts, g, S, rfl, _⟩ := h
    rfl
  · obtain ⟨wb, p, ts, g, S, rfl, hw, q⟩ := h
    refine ⟨_, (@pss_cons _ _ _ _ _ (@ps_if _ _ _ _ _ _ _ _ (@pt_not _ _ _ _ (@pt_val _ _ _ (@pe_call _ _ _ _ _ _ _ _ _ _ _ _ _ _ _ _ G_is_even (hr.mono (by decide)) (by rfl) T.m_is_even T.k_is_even T.b_is_even .nil out_of.passes (@pa_cons _ _ _ _ _ (pv 0) (@pa_cons _ _ _ _ _ (pv 1) pa_nil (by rfl)) (by rfl)) (by decide) (by rfl) (by rfl)) (by intro _; rfl))) (@pss_one _ _ _ (@ps_ret _ _ _ _ pe_bl)) pss_nil) (@pss_cons _ _ _ _ _ (@ps_comp _ _ _ _ _ _ _ ["piece"] [] [] _ _ _ _ 2 _ _ _ sc_is_ring.nd rfl rfl (compText_of (defScope s_is_ring) ["web", "tie_set", "touched"]) rfl (@piL _ _ _ _ K (@pe_call _ _ _ _ _ _ _ _ _ _ _ _ _ _ _ _ G_pieces (hr.mono (by decide)) (by rfl) T.m_pieces T.k_pieces T.b_pieces .nil out_of.passes (@pa_cons _ _ _ _ _ (pv 0) (@pa_cons _ _ _ _ _ (pv 1) pa_nil (by rfl)) (by rfl)) (by decide) (by rfl) (by rfl)) (by rfl)) (fun _ _ _ _ => (pg_name (i := 0) (show (["piece"] : List Str).Nodup by decide +kernel) rfl (Or.inl rfl))) (fun _ _ _ _ => (pts_one (pt_cmpR op_gt (pe_callB (lenK K) (by rfl) T.n_len PySem.boot_len (pa_cons (pv 0) pa_nil)) pe_int (nomark _)))) (fun _ _ _ _ => (pv 0)) (by rfl) (by intro _; rfl)) (@pss_one _ _ _ (@ps_ret _ _ _ _ (@pe_and _ _ _ _ _ _ _ (@pe_cmpR _ _ _ _ _ _ _ _ op_eq (@pe_callB _ _ _ _ _ _ _ _ _ (lenK K) (by rfl) T.n_len PySem.boot_len (@pa_cons _ _ _ _ _ (pv 2) pa_nil (by rfl)) (by decide) (by decide) (by rfl) (by rfl)) pe_int (nomark _)) (@pe_one _ _ _ _ _ (@pe_cmpR _ _ _ _ _ _ _ _ op_eq (@pe_callB _ _ _ _ _ _ _ _ _ (lenK K) (by rfl) T.n_len PySem.boot_len (@pa_cons _ _ _ _ _ (@pe_ix _ _ _ _ _ _ _ (ixL K) (pv 2) pe_int (fun _ _ => rfl)) pa_nil (by rfl)) (by decide) (by decide) (by rfl) (by rfl)) (@pe_callB _ _ _ _ _ _ _ _ _ (lenK K) (by rfl) T.n_len PySem.boot_len (@pa_cons _ _ _ _ _ (@pe_call _ _ _ _ _ _ _ _ _ _ _ _ _ _ _ _ G_ties_in (hr.mono (by decide)) (by rfl) T.m_ties_in T.k_ties_in T.b_ties_in .nil pass0 (@pa_cons _ _ _ _ _ (pv 1) pa_nil (by rfl)) (by decide) (by rfl) (by rfl)) pa_nil (by rfl)) (by decide) (by decide) (by rfl) (by rfl)) (nomark _)))))))), ?_⟩
    refine hd_is_ring ?_
    intro zz0 zz1 zz2
    have W := g.web
    have wp := g.p2
    have wl := g.len
    refine (exq rfl (exq rfl ⟨wb, p, ts, S, rfl, hw, W, ?_⟩))
    rcases q with ⟨m, rfl, hm, q⟩ | ⟨hS, q⟩
    · refine .inl ⟨m, rfl, hm, fun H1 s1 => (exq rfl (?_))⟩
      by_cases ev : oddOf p ts (m : Int) = []
      · rw [decide_eq_true ev]
        rw [ringB_even ev] at q
        refine iteF (exq rfl (exq rfl ⟨wb, p, ts, g, _, rfl, hw.same s1, .inl ⟨m, rfl, hm, fun D ys H2 hDn s2 hD pr => ⟨D, rfl, ⟨_, SqL.of hD⟩, fun C hC => ?_⟩⟩⟩))
        have hyl : ys.length ≤ 10 := by
          rw [pr.length, List.length_map]
          unfold rootsOf
          have := List.length_filter_le (fun x => decide (labOf p ts g m x = x)) (List.range p)
          rw [List.length_range] at this
          exact Nat.le_trans this wp
        refine comp_list (xs := ys) (Sift (fun l => decide (1 < l.length)) ((rootsOf (labOf p ts g m) p).map (pieceOf (labOf p ts g m) p)) H2 C) (.start hC) (fun i acc H3 _ sf => ⟨SqL.of (sf.1 _ _ hD), sf.len⟩) (small24 (by (first | lia | omega))) ?_ ?_
        · intro i x acc H3 hx sf
          obtain ⟨l, hl, b, rfl, hbn, hb0, hb⟩ := Paired.getP pr hx
          refine ⟨rfl, exq rfl (lnq rfl (.inl (SqL.of (sf.1 _ _ hb))) (ijq (exq rfl (?_))))⟩
          cases hb2 : decide (1 < l.length) with
          | true =>
            have e : decide ((1 : Int) < ((natsV l).length : Int)) = true := decide_eq_true (by have := of_decide_eq_true hb2; rw [natsV_len]; (first | lia | omega))
            show if decide ((1 : Int) < ((natsV l).length : Int)) = true then _ else _
            rw [e]
            exact iteT (exq rfl (sf.yes hC hl hb2 ⟨b, rfl, hb⟩))
          | false =>
            have e : decide ((1 : Int) < ((natsV l).length : Int)) = false := decide_eq_false (by have := of_decide_eq_false hb2; rw [natsV_len]; (first | lia | omega))
            show if decide ((1 : Int) < ((natsV l).length : Int)) = true then _ else _
            rw [e]
            exact iteF (sf.no hl hb2)
        · intro acc H3 sf
          have pa : Paired (LstA H2) acc ((touchedOf (labOf p ts g m) p).map (pieceOf (labOf p ts g m) p)) := by
            have h := sf.2.2
            rw [pr.length, List.take_length, List.filter_map] at h
            exact h
          have hal := pa.length
          rw [List.length_map] at hal
          refine (exq rfl (lnq rfl (.inl (SqL.of sf.2.1)) ⟨rfl, exq rfl (?_)⟩))
          have s13 := (s1.trans s2).trans sf.1
          have hb24 : Builtin.Int.intBits (m : Int) ≤ ts.length := bits_le hm
          generalize touchedOf (labOf p ts g m) p = tl at q pa hal
          cases tl with
          | nil =>
            have hal : acc.length = 0 := hal
            rw [hal]
            exact iteF (q H3 s13)
          | cons s r =>
            cases r with
            | nil =>
              cases pa with
              | cons hy pn =>
                cases pn
                obtain ⟨b, rfl, hb⟩ := hy
                refine iteT (exq rfl (ixl (SqL.of sf.2.1) (atI_nat (j := 0) rfl) (lnq rfl (.inl (SqL.of (sf.1 _ _ hb))) (exq rfl ⟨m, rfl, by (first | lia | omega), fun D4 H4 hn4 s4 hD4 => (lnq rfl (.inl (SqL.of hD4)) ⟨rfl, ?_⟩)⟩))))
                rw [natsV_len, natsV_len, dec_nat]
                exact q H4 (s13.trans s4)
            | cons t r =>
              have hal : acc.length = r.length + 2 := hal
              have e : decide (V.int ((acc.length : Nat) : Int) = V.int 1) = false := decide_eq_false fun z => by
                have := V.int.inj z
                (first | lia | omega)
              rw [e]
              exact iteF (q H3 s13)
      · rw [decide_eq_false ev]
        have er : ringB p ts g m = false := by
          unfold ringB
          rw [decide_eq_false ev, Bool.false_and]
        rw [er] at q
        exact iteT (q H1 s1)
    · exact .inr ⟨hS, q⟩
end

def sp_is_ring_number : Sp := fun vs H Q _ => ∃ w p ts, ∃ g : GoodWeb p ts, ∃ S : Int, vs = [.ref w, .int S] ∧ WebAt H w p ts ∧ ∀ H' (d : Bool), Same H H' → (d = true ↔ ∃ m : Nat, S = (m : Int) ∧ m < 2 ^ ts.length ∧ (netOf p ts g).Ring m) → Q (.bl d) H'
section
variable {P : Program} {w : World} {K : PySem.W.Frag} {mg : Str → Option Value} {base : Heap} {a : Adr}
theorem G_is_ring_number (T : Txt K mg a) : FnOk P w K mg base CX0 8 a.f_is_ring_number a.d_is_ring_number ["web", "number"] sp_is_ring_number := by
  have G_is_set : FnOk P w K mg base CX0 2 a.f_is_set a.d_is_set ["web", "number"] sp_is_set := G_is_set T
  have G_is_ring : FnOk P w K mg base (CX1 P w) 7 a.f_is_ring a.d_is_ring ["web", "tie_set"] (sp_is_ring a.c_BadSet) := G_is_ring T
  refine T.F_is_ring_number.ok sc_is_ring_number (fun vs H Q E h => ?_) (fun cdv A outer s H vs Q E hr h => ?_)
  · obtain ⟨w, p, ts, g, S, rfl, _⟩ := h
    rfl
  · obtain ⟨wb, p, ts, g, S, rfl, hw, q⟩ := h
    refine ⟨_, (@pss_one _ _ _ (@ps_ret _ _ _ _ (@pe_and _ _ _ _ _ _ _ (@pe_call _ _ _ _ _ _ _ _ _ _ _ _ _ _ _ _ G_is_set (hr.mono (by decide)) (by rfl) T.m_is_set T.k_is_set T.b_is_set .nil pass0 (@pa_cons _ _ _ _ _ (pv 0) (@pa_cons _ _ _ _ _ (pv 1) pa_nil (by rfl)) (by rfl)) (by decide) (by rfl) (by rfl)) (@pe_one _ _ _ _ _ (@pe_call _ _ _ _ _ _ _ _ _ _ _ _ _ _ _ _ G_is_ring (hr.mono (by decide)) (by rfl) T.m_is_ring T.k_is_ring T.b_is_ring .nil passN (@pa_cons _ _ _ _ _ (pv 0) (@pa_cons _ _ _ _ _ (pv 1) pa_nil (by rfl)) (by rfl)) (by decide) (by rfl) (by rfl)))))), ?_⟩
    have h2n : ((2 : Int) ^ ts.length) = ((2 ^ ts.length : Nat) : Int) := by simp
    refine (exq rfl (exq rfl ⟨wb, p, ts, S, rfl, hw, g.web, _, rfl, ?_⟩))
    by_cases hs : 0 ≤ S ∧ S < 2 ^ ts.length
    · rw [decide_eq_true hs]
      obtain ⟨m, rfl⟩ := Int.eq_ofNat_of_zero_le hs.1
      have hm : m < 2 ^ ts.length := by (first | lia | omega)
      refine iteT (exq rfl (exq rfl ⟨wb, p, ts, g, _, rfl, hw, .inl ⟨m, rfl, hm, fun H1 s1 => q H1 _ s1 ?_⟩⟩))
      rw [ringB_iff g hm]
      exact ⟨fun r => ⟨m, rfl, hm, r⟩, fun ⟨m', e, _, r⟩ => by
        have : m = m' := by (first | lia | omega)
        rw [this]
        exact r⟩
    · rw [decide_eq_false hs]
      refine iteF (q H false (Same.refl _) ⟨fun z => (Bool.false_ne_true z).elim, fun ⟨m', e, hm, _⟩ => absurd ⟨by (first | lia | omega), by (first | lia | omega)⟩ hs⟩)
end

def sp_reduced : Sp := fun vs H Q _ => ∃ (l : Addr) (rows : List RM.Row3) (x : Nat), vs = [.ref l, .int (x : Int)] ∧ Rows3At H l rows ∧ ∀ c H', Same H H' → H' c = some (.tup [.int (((RM.red3 rows x 0).1 : Nat) : Int), .int (((RM.red3 rows x 0).2 : Nat) : Int)]) → Q (.ref c) H'
def sp_with_row : Sp := fun vs H Q _ => ∃ (l b : Addr) (rows : List RM.Row3) (a : RM.Row3), vs = [.ref l, .ref b] ∧ Rows3At H l rows ∧ H b = some (.tup (row3V a)) ∧ rows.length ≤ 200 ∧ ∀ l' H', Same H H' → Rows3At H' l' (RM.putR rows a) → Q (.ref l') H'
def sp_rows_of : Sp := fun vs H Q _ => ∃ (l : Addr) (B : List Nat), vs = [.ref l] ∧ H l = some (.lst (natsV B)) ∧ B.length ≤ 200 ∧ ∀ l' rows H', Same H H' → Rows3At H' l' rows → RM.Rw B rows → Q (.ref l') H'
def BaseI (p : Nat) (ts : List Tie) (g : GoodWeb p ts) (zs : List Int) : Prop := ∃ rs : List Nat, zs = rs.map (fun x => ((x : Nat) : Int)) ∧ RM.Base (netOf p ts g) rs
def sp_is_base : Sp := fun vs H Q _ => ∃ w p ts, ∃ g : GoodWeb p ts, ∃ (l : Addr) (zs : List Int), vs = [.ref w, .ref l] ∧ WebAt H w p ts ∧ H l = some (.lst (zs.map V.int)) ∧ zs.length ≤ 200 ∧ ∀ H' (d : Bool), Same H H' → (d = true ↔ BaseI p ts g zs) → Q (.bl d) H'
theorem cast_inj {xs ys : List Nat} (e : xs.map (fun x => ((x : Nat) : Int)) = ys.map fun x => ((x : Nat) : Int)) : xs = ys := by
  have := congrArg (List.map Int.toNat) e
  rw [List.map_map, List.map_map] at this
  have h1 : (Int.toNat ∘ fun x => ((x : Nat) : Int)) = id := funext fun x => rfl
  rw [h1, List.map_id, List.map_id] at this
  exact this
theorem iteNe {x y : V} {A B : Prop} (h : x ≠ y) (ha : A) : if (!decide (x = y)) = true then A else B := by
  rw [decide_eq_false h]
  exact iteT ha
section
variable {P : Program} {w : World} {K : PySem.W.Frag} {mg : Str → Option Value} {base : Heap} {a : Adr}
theorem G_reduced (T : Txt K mg a) : FnOk P w K mg base CX0 2 a.f_reduced a.d_reduced ["rows", "tie_set"] sp_reduced := by
  have G_has_tie : FnOk P w K mg base CX0 1 a.f_has_tie a.d_has_tie ["tie_set", "tie"] sp_has_tie := G_has_tie T
  refine T.F_reduced.ok sc_reduced (fun vs H Q E h => ?_) (fun cdv A outer s H vs Q E hr h => ?_)
  · obtain ⟨l, rows, x, rfl, _⟩ := h
    rfl
  · obtain ⟨l, rows, x, rfl, hR, q⟩ := h
    refine ⟨_, (@pss_cons _ _ _ _ _ (@ps_set _ _ 2 _ _ _ _ sc_reduced.nd rfl (Or.inl rfl) (pv 1) (by rfl) (by first | exact .inl rfl | exact .inr rfl | assumption)) (@pss_cons _ _ _ _ _ (@ps_set _ _ 3 _ _ _ _ sc_reduced.nd rfl (Or.inl rfl) pe_int (by rfl) (by first | exact .inl rfl | exact .inr rfl | assumption)) (@pss_cons _ _ _ _ _ (@ps_for _ _ _ _ _ _ _ _ PassesOwn.never rfl (@piL _ _ _ _ K (pv 0) (by rfl)) (@pgT _ _ K _ _ 3 _ rfl (@pgs_cons _ _ _ _ _ (pg_name (i := 4) sc_reduced.nd rfl (Or.inl rfl)) (@pgs_cons _ _ _ _ _ (pg_name (i := 5) sc_reduced.nd rfl (Or.inl rfl)) (@pgs_cons _ _ _ _ _ (pg_name (i := 6) sc_reduced.nd rfl (Or.inl rfl)) pgs_nil (by rfl)) (by rfl)) (by rfl)) (by rfl) (by rfl) (by rfl)) (@pss_one _ _ _ (@ps_if _ _ _ _ _ _ _ _ (@pt_val _ _ _ (@pe_call _ _ _ _ _ _ _ _ _ _ _ _ _ _ _ _ G_has_tie (hr.mono (by decide)) (by rfl) T.m_has_tie T.k_has_tie T.b_has_tie .nil pass0 (@pa_cons _ _ _ _ _ (pv 2) (@pa_cons _ _ _ _ _ (pv 4) pa_nil (by rfl)) (by rfl)) (by decide) (by rfl) (by rfl)) (by intro _; rfl)) (@pss_cons _ _ _ _ _ (@ps_aug _ _ 2 _ _ _ _ _ _ sc_reduced.nd rfl (Or.inl rfl) (pv 5) iop_xor (by first | exact .inl rfl | exact .inr rfl | assumption)) (@pss_one _ _ _ (@ps_aug _ _ 3 _ _ _ _ _ _ sc_reduced.nd rfl (Or.inl rfl) (pv 6) iop_xor (by first | exact .inl rfl | exact .inr rfl | assumption)))) pss_nil)) (by intro _; rfl)) (@pss_one _ _ _ (@ps_ret _ _ _ _ (@pe_tup _ _ _ _ _ (@pa_cons _ _ _ _ _ (pv 2) (@pa_cons _ _ _ _ _ (pv 3) pa_nil (by rfl)) (by rfl)))))))), ?_⟩
    refine hd_reduced ?_
    intro zz0 zz1 zz2 zz3 zz4 zz5
    obtain ⟨xs, hl, pr⟩ := id hR
    refine (exq rfl (exq rfl ⟨l, rfl, ⟨_, SqL.of hl⟩, for_list' (K := K) (a := l) (xs := xs) (fun i σ H2 => ∃ v4 v5 v6, σ = [some (.ref l), some (.int (x : Int)), some (.int (((RM.red3 (rows.take i) x 0).1 : Nat) : Int)), some (.int (((RM.red3 (rows.take i) x 0).2 : Nat) : Int)), v4, v5, v6] ∧ H2 = H) ⟨none, none, none, rfl, rfl⟩ (fun i σ H2 _ ⟨_, _, _, _, z⟩ => by rw [z]; exact SqL.of hl) ?_ ?_⟩))
    · rintro i y D' σ H2 hi ⟨v4, v5, v6, rfl, rfl⟩
      obtain ⟨qq, hq, b, rfl, hb⟩ := Paired.getP pr hi
      refine ⟨b, _, rfl, SqT.of hb, rfl, _, _, rfl, _, _, rfl, _, _, rfl, rfl, ?_⟩
      refine (exq rfl (exq rfl ⟨_, qq.1, rfl, exq rfl (?_)⟩))
      rw [bit_nat]
      have e3 := red3_snoc (rows.take i) qq x 0
      rw [← take3 hq] at e3
      cases hbit : (RM.red3 (rows.take i) x 0).1.testBit qq.1 with
      | true =>
        rw [hbit, if_pos rfl] at e3
        refine iteT (exq rfl (exq rfl (ijq (exq rfl (exq rfl (ijq ⟨some (.int (qq.1 : Int)), some (.int (qq.2.1 : Int)), some (.int (qq.2.2 : Int)), ?_, rfl⟩))))))
        rw [e3]
        show [_, _, some (V.int (Builtin.bitXor _ _)), some (V.int (Builtin.bitXor _ _)), _, _, _] = _
        rw [xor_int, xor_int]
      | false =>
        rw [hbit, if_neg (by decide)] at e3
        refine iteF ⟨some (.int (qq.1 : Int)), some (.int (qq.2.1 : Int)), some (.int (qq.2.2 : Int)), ?_, rfl⟩
        rw [e3]
        rfl
    · rintro σ H2 ⟨v4, v5, v6, rfl, rfl⟩
      rw [pr.length, List.take_length]
      exact (exq rfl (exq rfl ⟨dl rfl, fun c hc => q c _ (Same.new hc) upd_same⟩))
theorem G_with_row (T : Txt K mg a) : FnOk P w K mg base CX0 2 a.f_with_row a.d_with_row ["rows", "added"] sp_with_row := by
  have G_has_tie : FnOk P w K mg base CX0 1 a.f_has_tie a.d_has_tie ["tie_set", "tie"] sp_has_tie := G_has_tie T
  refine T.F_with_row.ok sc_with_row (fun vs H Q E h => ?_) (fun cdv A outer s H vs Q E hr h => ?_)
  · obtain ⟨l, b, rows, ad, rfl, _⟩ := h
    rfl
  · obtain ⟨l, b, rows, ad, rfl, hR, hb, hlen, q⟩ := h
    refine ⟨_, (@pss_cons _ _ _ _ _ (@ps_set _ _ 2 _ _ _ _ sc_with_row.nd rfl (Or.inl rfl) (@pe_lst _ _ _ _ (@pa_cons _ _ _ _ _ (pv 1) pa_nil (by rfl))) (by rfl) (by first | exact .inl rfl | exact .inr rfl | assumption)) (@pss_cons _ _ _ _ _ (@ps_for _ _ _ _ _ _ _ _ PassesOwn.never rfl (@piL _ _ _ _ K (pv 0) (by rfl)) (pg_name (i := 3) sc_with_row.nd rfl (Or.inl rfl)) (@pss_one _ _ _ (@ps_if _ _ _ _ _ _ _ _ (@pt_val _ _ _ (@pe_call _ _ _ _ _ _ _ _ _ _ _ _ _ _ _ _ G_has_tie (hr.mono (by decide)) (by rfl) T.m_has_tie T.k_has_tie T.b_has_tie .nil pass0 (@pa_cons _ _ _ _ _ (@pe_ix _ _ _ _ _ _ _ (ixT K) (pv 3) pe_int (fun _ _ => rfl)) (@pa_cons _ _ _ _ _ (@pe_ix _ _ _ _ _ _ _ (ixT K) (pv 1) pe_int (fun _ _ => rfl)) pa_nil (by rfl)) (by rfl)) (by decide) (by rfl) (by rfl)) (by intro _; rfl)) (@pss_one _ _ _ (@ps_expr _ _ _ _ (@bmK _ _ _ _ _ _ K (@pe_bm _ _ _ _ _ _ _ _ _ _ _ _ PySem.F.plainAttrs_list PySem.F.slot_list_append PySem.F.type_list_append mt_append (pv 2) (@pa_cons _ _ _ _ _ (@pe_tup _ _ _ _ _ (@pa_cons _ _ _ _ _ (@pe_ix _ _ _ _ _ _ _ (ixT K) (pv 3) pe_int (fun _ _ => rfl)) (@pa_cons _ _ _ _ _ (@pe_op _ _ _ _ _ _ _ _ op_xor (@pe_ix _ _ _ _ _ _ _ (ixT K) (pv 3) pe_int (fun _ _ => rfl)) (@pe_ix _ _ _ _ _ _ _ (ixT K) (pv 1) pe_int (fun _ _ => rfl))) (@pa_cons _ _ _ _ _ (@pe_op _ _ _ _ _ _ _ _ op_xor (@pe_ix _ _ _ _ _ _ _ (ixT K) (pv 3) pe_int (fun _ _ => rfl)) (@pe_ix _ _ _ _ _ _ _ (ixT K) (pv 1) pe_int (fun _ _ => rfl))) pa_nil (by rfl)) (by rfl)) (by rfl))) pa_nil (by rfl)) (by rfl) (by rfl) (by rfl) (by rfl) (by rfl)) (by rfl)) (by rfl))) (@pss_one _ _ _ (@ps_expr _ _ _ _ (@bmK _ _ _ _ _ _ K (@pe_bm _ _ _ _ _ _ _ _ _ _ _ _ PySem.F.plainAttrs_list PySem.F.slot_list_append PySem.F.type_list_append mt_append (pv 2) (@pa_cons _ _ _ _ _ (pv 3) pa_nil (by rfl)) (by rfl) (by rfl) (by rfl) (by rfl) (by rfl)) (by rfl)) (by rfl))))) (by intro _; rfl)) (@pss_one _ _ _ (@ps_ret _ _ _ _ (pv 2))))), ?_⟩
    refine hd_with_row ?_
    intro zz0 zz1 zz2 zz3 zz4
    obtain ⟨xs, hl, pr⟩ := id hR
    have xsl := pr.length
    refine (exq rfl ⟨dl rfl, fun D hD => ?_⟩)
    have s1 : Same H (upd H D (.lst [.ref b])) := Same.new hD
    have hD1 : upd H D (.lst [.ref b]) D = some (.lst [.ref b]) := upd_same
    generalize upd H D (.lst [.ref b]) = H1 at s1 hD1
    refine (exq rfl ⟨l, rfl, ⟨_, SqL.of (s1 _ _ hl)⟩, for_list' (K := K) (a := l) (xs := xs) (fun i σ H2 => ∃ v3 acc, σ = [some (.ref l), some (.ref b), some (.ref D), v3] ∧ Same H H2 ∧ H2 D = some (.lst acc) ∧ acc.length = i + 1 ∧ Paired (Row3At H2) acc (RM.putR (rows.take i) ad)) ⟨none, _, rfl, s1, hD1, rfl, .cons ⟨b, rfl, s1 _ _ hb⟩ .nil⟩ (fun i σ H2 _ ⟨_, _, _, z, _⟩ => SqL.of (z _ _ hl)) ?_ ?_⟩)
    · rintro i y D' σ H2 hi ⟨v3, acc, rfl, s2, hD2, al, pr2⟩
      obtain ⟨qq, hq, c, rfl, hc⟩ := Paired.getP pr hi
      have hil := (List.getElem?_eq_some_iff.mp hi).1
      have hc2 := s2 _ _ hc
      have hb2 := s2 _ _ hb
      have put : RM.putR (rows.take (i + 1)) ad = RM.putR (rows.take i) ad ++ [if qq.2.1.testBit ad.1 = true then (qq.1, qq.2.1 ^^^ ad.2.1, qq.2.2 ^^^ ad.2.2) else qq] := by
        unfold RM.putR
        rw [take3 hq, List.map_append]
        rfl
      refine (exq rfl (ixq (SqT.of hc2) (atI_nat (j := 1) rfl) (exq rfl (ixq (SqT.of hb2) (atI_nat (j := 0) rfl) ⟨_, ad.1, rfl, exq rfl (?_)⟩))))
      rw [bit_nat]
      cases hbit : qq.2.1.testBit ad.1 with
      | true =>
        rw [hbit, if_pos rfl] at put
        refine iteT (exq rfl ⟨.inl ⟨rfl, _, SqL.of hD2⟩, exq rfl (ixq (SqT.of hc2) (atI_nat (j := 0) rfl) (exq rfl (ixq (SqT.of hc2) (atI_nat (j := 1) rfl) (exq rfl (ixq (SqT.of hb2) (atI_nat (j := 1) rfl) (ijq (exq rfl (ixq (SqT.of hc2) (atI_nat (j := 2) rfl) (exq rfl (ixq (SqT.of hb2) (atI_nat (j := 2) rfl) (ijq ⟨dl rfl, fun d hd => ?_⟩)))))))))))⟩)
        have s3 : Same H2 (upd H2 d (.tup (row3V (qq.1, qq.2.1 ^^^ ad.2.1, qq.2.2 ^^^ ad.2.2)))) := Same.new hd
        have hd3 : upd H2 d (.tup (row3V (qq.1, qq.2.1 ^^^ ad.2.1, qq.2.2 ^^^ ad.2.2))) d = some (.tup (row3V (qq.1, qq.2.1 ^^^ ad.2.1, qq.2.2 ^^^ ad.2.2))) := upd_same
        have ev : [V.int (qq.1 : Int), V.int (Builtin.bitXor (qq.2.1 : Int) (ad.2.1 : Int)), V.int (Builtin.bitXor (qq.2.2 : Int) (ad.2.2 : Int))] = row3V (qq.1, qq.2.1 ^^^ ad.2.1, qq.2.2 ^^^ ad.2.2) := by
          rw [xor_int, xor_int]
          rfl
        dsimp only
        rw [ev]
        generalize upd H2 d (.tup (row3V (qq.1, qq.2.1 ^^^ ad.2.1, qq.2.2 ^^^ ad.2.2))) = H3 at s3 hd3
        have hD3 := s3 _ _ hD2
        refine ⟨D, _, _, rfl, rfl, hD3, smallL (by (first | lia | omega)), _, acc ++ [.ref d], rfl, (s2.trans s3).put hD, upd_same, by rw [List.length_append, al]; rfl, ?_⟩
        rw [put]
        exact Paired.snoc (Paired.imp' (fun _ _ z => z.tups (s3.tups.trans (Tups.put hD3))) pr2) ⟨d, rfl, Tups.put hD3 _ _ hd3⟩
      | false =>
        rw [hbit, if_neg (by decide)] at put
        refine iteF (exq rfl ⟨.inl ⟨rfl, _, SqL.of hD2⟩, exq rfl ⟨D, _, _, rfl, rfl, hD2, smallL (by (first | lia | omega)), _, acc ++ [.ref c], rfl, s2.put hD, upd_same, by rw [List.length_append, al]; rfl, ?_⟩⟩)
        rw [put]
        exact Paired.snoc (Paired.imp' (fun _ _ z => z.tups (Tups.put hD2)) pr2) ⟨c, rfl, Tups.put hD2 _ _ hc2⟩
    · rintro σ H2 ⟨v3, acc, rfl, s2, hD2, al, pr2⟩
      rw [xsl, List.take_length] at pr2
      exact (exq rfl (q D H2 s2 ⟨acc, hD2, pr2⟩))
theorem G_rows_of (T : Txt K mg a) : FnOk P w K mg base CX0 3 a.f_rows_of a.d_rows_of ["sets"] sp_rows_of := by
  have G_reduced : FnOk P w K mg base CX0 2 a.f_reduced a.d_reduced ["rows", "tie_set"] sp_reduced := G_reduced T
  have G_with_row : FnOk P w K mg base CX0 2 a.f_with_row a.d_with_row ["rows", "added"] sp_with_row := G_with_row T
  refine T.F_rows_of.ok sc_rows_of (fun vs H Q E h => ?_) (fun cdv A outer s H vs Q E hr h => ?_)
  · obtain ⟨l, B, rfl, _⟩ := h
    rfl
  · obtain ⟨l, B, rfl, hl, hB, q⟩ := h
    refine ⟨_, (@pss_cons _ _ _ _ _ (@ps_set _ _ 1 _ _ _ _ sc_rows_of.nd rfl (Or.inl rfl) (@pe_lst _ _ _ _ pa_nil) (by rfl) (by first | exact .inl rfl | exact .inr rfl | assumption)) (@pss_cons _ _ _ _ _ (@ps_for _ _ _ _ _ _ _ _ PassesOwn.never rfl (@pi_enum _ _ _ _ K _ _ _ _ (by rfl) T.n_enumerate (@pa_cons _ _ _ _ _ (pv 0) pa_nil (by rfl)) (by rfl) (by rfl)) (@pgT _ _ K _ _ 2 _ rfl (@pgs_cons _ _ _ _ _ (pg_name (i := 2) sc_rows_of.nd rfl (Or.inl rfl)) (@pgs_cons _ _ _ _ _ (pg_name (i := 3) sc_rows_of.nd rfl (Or.inl rfl)) pgs_nil (by rfl)) (by rfl)) (by rfl) (by rfl) (by rfl)) (@pss_cons _ _ _ _ _ (@ps_set _ _ 4 _ _ _ _ sc_rows_of.nd rfl (Or.inl rfl) (@pe_call _ _ _ _ _ _ _ _ _ _ _ _ _ _ _ _ G_reduced (hr.mono (by decide)) (by rfl) T.m_reduced T.k_reduced T.b_reduced .nil pass0 (@pa_cons _ _ _ _ _ (pv 1) (@pa_cons _ _ _ _ _ (pv 3) pa_nil (by rfl)) (by rfl)) (by decide) (by rfl) (by rfl)) (by rfl) (by first | exact .inl rfl | exact .inr rfl | assumption)) (@pss_one _ _ _ (@ps_if _ _ _ _ _ _ _ _ (@pt_cmpR _ _ _ _ _ _ _ _ op_gt (@pe_ix _ _ _ _ _ _ _ (ixT K) (pv 4) pe_int (fun _ _ => rfl)) pe_int (nomark _)) (@pss_one _ _ _ (@ps_set _ _ 1 _ _ _ _ sc_rows_of.nd rfl (Or.inl rfl) (@pe_call _ _ _ _ _ _ _ _ _ _ _ _ _ _ _ _ G_with_row (hr.mono (by decide)) (by rfl) T.m_with_row T.k_with_row T.b_with_row .nil pass0 (@pa_cons _ _ _ _ _ (pv 1) (@pa_cons _ _ _ _ _ (@pe_tup _ _ _ _ _ (@pa_cons _ _ _ _ _ (@pe_op _ _ _ _ _ _ _ _ op_sub (@pe_bm0 _ _ _ _ _ _ _ _ _ PySem.F.plainAttrs_int PyProof.Rows.slot_int_bit_length PyProof.Rows.type_int_bit_length mt_bits (@pe_ix _ _ _ _ _ _ _ (ixT K) (pv 4) pe_int (fun _ _ => rfl)) (by rfl) (by rfl)) pe_int) (@pa_cons _ _ _ _ _ (@pe_ix _ _ _ _ _ _ _ (ixT K) (pv 4) pe_int (fun _ _ => rfl)) (@pa_cons _ _ _ _ _ (@pe_op _ _ _ _ _ _ _ _ op_xor (@pe_ix _ _ _ _ _ _ _ (ixT K) (pv 4) pe_int (fun _ _ => rfl)) (@pe_op _ _ _ _ _ _ _ _ op_shl pe_int (pv 2))) pa_nil (by rfl)) (by rfl)) (by rfl))) pa_nil (by rfl)) (by rfl)) (by decide) (by rfl) (by rfl)) (by rfl) (by first | exact .inl rfl | exact .inr rfl | assumption))) pss_nil))) (by intro _; rfl)) (@pss_one _ _ _ (@ps_ret _ _ _ _ (pv 1))))), ?_⟩
    refine hd_rows_of ?_
    intro zz0 zz1 zz2 zz3 zz4
    refine ⟨dl rfl, fun D hD => ?_⟩
    have s1 : Same H (upd H D (.lst [])) := Same.new hD
    have hD1 : upd H D (.lst []) D = some (.lst []) := upd_same
    generalize upd H D (.lst []) = H1 at s1 hD1
    refine (exq rfl ⟨l, rfl, ⟨_, SqL.of (s1 _ _ hl)⟩, for_enum (K := K) (a := l) (xs := natsV B) (fun i σ H2 => ∃ l2 rows v2 v3 v4, σ = [some (.ref l), some (.ref l2), v2, v3, v4] ∧ Same H H2 ∧ Rows3At H2 l2 rows ∧ RM.Rw (B.take i) rows) ⟨D, [], none, none, none, rfl, s1, ⟨[], hD1, .nil⟩, RM.Rw.start⟩ (fun i σ H2 _ ⟨_, _, _, _, _, _, z, _⟩ => SqL.of (z _ _ hl)) ?_ ?_⟩)
    · rintro i x T0 σ H2 hx ⟨l2, rows, v2, v3, v4, rfl, s2, hR2, rw2⟩ hT
      obtain ⟨b, hb, rfl⟩ := natsV_get hx
      have hil := (List.getElem?_eq_some_iff.mp hb).1
      have s3 : Same H2 (upd H2 T0 (.tup [.int (i : Int), .int (b : Int)])) := Same.new hT
      have hT3 : upd H2 T0 (.tup [.int (i : Int), .int (b : Int)]) T0 = some (.tup [.int (i : Int), .int (b : Int)]) := upd_same
      generalize upd H2 T0 (.tup [.int (i : Int), .int (b : Int)]) = H3 at s3 hT3
      refine ⟨T0, _, rfl, SqT.of hT3, rfl, _, _, rfl, _, _, rfl, rfl, ?_⟩
      refine (exq rfl (exq rfl ⟨l2, rows, b, rfl, hR2.same s3, fun c H4 s4 hc => ?_⟩))
      have hlt : (B.take i).length = i := by rw [List.length_take]; (first | lia | omega)
      refine (exq rfl (ixq (SqT.of hc) (atI_nat (j := 0) rfl) (ijq (exq rfl (ite2 (fun h0 => ?_) (fun h0 => ?_))))))
      · have h0 : (0 : Int) < _ := of_decide_eq_true h0
        have h0n : (RM.red3 rows b 0).1 ≠ 0 := by (first | lia | omega)
        have hput := rw2.put h0n
        rw [hlt, ← take3 hb] at hput
        have hR4 := (hR2.same s3).same s4
        have hrl : rows.length ≤ 200 := by have := rw2.le; (first | lia | omega)
        refine (exq rfl (exq rfl (ixq (SqT.of hc) (atI_nat (j := 0) rfl) ⟨rfl, exq rfl ⟨rfl, ijq (exq rfl (ixq (SqT.of hc) (atI_nat (j := 0) rfl) (exq rfl (ixq (SqT.of hc) (atI_nat (j := 1) rfl) (exq rfl (ijq ⟨⟨by (first | lia | omega), by (first | lia | omega), by decide⟩, ijq ⟨dl rfl, fun d hd => ?_⟩⟩))))))⟩⟩)))
        have ev : [V.int (((Builtin.Int.intBits (((RM.red3 rows b 0).1 : Nat) : Int) : Nat) : Int) - 1), V.int (((RM.red3 rows b 0).1 : Nat) : Int), V.int (Builtin.bitXor (((RM.red3 rows b 0).2 : Nat) : Int) (1 * 2 ^ ((i : Nat) : Int).toNat))] = row3V ((RM.red3 rows b 0).1.log2, (RM.red3 rows b 0).1, (RM.red3 rows b 0).2 ^^^ 2 ^ i) := by
          rw [bits_log h0n, shl_int, xor_int]
          rfl
        dsimp only
        rw [ev]
        refine ⟨l2, d, rows, _, rfl, hR4.same (Same.new hd), upd_same, hrl, fun l5 H5 s5 hR5 => ?_⟩
        exact ⟨l5, _, _, _, _, rfl, ((s2.trans (s3.trans s4)).trans (Same.new hd)).trans s5, hR5, hput⟩
      · have h0n : (RM.red3 rows b 0).1 = 0 := by
          have : ¬ (0 : Int) < _ := fun z => h0 (decide_eq_true z)
          (first | lia | omega)
        have hsk := rw2.skip ((rw2.left_zero b 0).mp h0n)
        rw [← take3 hb] at hsk
        exact ⟨l2, rows, _, _, _, rfl, s2.trans (s3.trans s4), (hR2.same s3).same s4, hsk⟩
    · rintro σ H2 ⟨l2, rows, v2, v3, v4, rfl, s2, hR2, rw2⟩
      rw [natsV_len, List.take_length] at rw2
      exact (exq rfl (q l2 rows H2 s2 hR2 rw2))
theorem G_is_base (T : Txt K mg a) : FnOk P w K mg base CX0 9 a.f_is_base a.d_is_base ["web", "rings"] sp_is_base := by
  have G_rank : FnOk P w K mg base CX0 6 a.f_rank a.d_rank ["web"] sp_rank := G_rank T
  have G_is_ring_number : FnOk P w K mg base CX0 8 a.f_is_ring_number a.d_is_ring_number ["web", "number"] sp_is_ring_number := G_is_ring_number T
  have G_rows_of : FnOk P w K mg base CX0 3 a.f_rows_of a.d_rows_of ["sets"] sp_rows_of := G_rows_of T
  refine T.F_is_base.ok sc_is_base (fun vs H Q E h => ?_) (fun cdv A outer s H vs Q E hr h => ?_)
  · obtain ⟨w, p, ts, g, l, zs, rfl, _⟩ := h
    rfl
  · obtain ⟨wb, p, ts, g, l, zs, rfl, hw, hl, hz, q⟩ := h
    refine ⟨_, (@pss_cons _ _ _ _ _ (@ps_if _ _ _ _ _ _ _ _ (PW.pt (@pw_or _ _ _ _ _ _ _ (@pt_cmpR _ _ _ _ _ _ _ _ op_ne (@pe_callB _ _ _ _ _ _ _ _ _ (lenK K) (by rfl) T.n_len PySem.boot_len (@pa_cons _ _ _ _ _ (pv 1) pa_nil (by rfl)) (by decide) (by decide) (by rfl) (by rfl)) (@pe_call _ _ _ _ _ _ _ _ _ _ _ _ _ _ _ _ G_rank (hr.mono (by decide)) (by rfl) T.m_rank T.k_rank T.b_rank .nil pass0 (@pa_cons _ _ _ _ _ (pv 0) pa_nil (by rfl)) (by decide) (by rfl) (by rfl)) (nomark _)) (@pw_or1 _ _ _ _ (@pt_not _ _ _ _ (@pt_val _ _ _ (@pe_callB _ _ _ _ _ _ _ _ _ (allK K rfl) (by rfl) T.n_all PyProof.Rows.boot_all (@pa_cons _ _ _ _ _ (@pe_comp _ _ _ _ _ _ _ ["ring"] ["web"] [0] _ _ _ _ (compText_of (defScope s_is_base) ["web", "rings"]) rfl (@piL _ _ _ _ K (pv 1) (by rfl)) (fun _ _ _ _ => (pg_name (i := 0) (show (["ring", "web"] : List Str).Nodup by decide +kernel) rfl (Or.inl rfl))) (fun _ _ _ _ => pts_nil) (fun _ _ _ _ => (pe_call G_is_ring_number (hr.mono (by decide)) (by rfl) T.m_is_ring_number T.k_is_ring_number T.b_is_ring_number .nil pass0 (pa_cons (pv 1) (pa_cons (pv 0) pa_nil)))) (by intro _; rfl)) pa_nil (by rfl)) (by decide) (by decide) (by rfl) (by rfl)) (by intro _; rfl)))))) (@pss_one _ _ _ (@ps_ret _ _ _ _ pe_bl)) pss_nil) (@pss_one _ _ _ (@ps_ret _ _ _ _ (@pe_cmpR _ _ _ _ _ _ _ _ op_eq (@pe_callB _ _ _ _ _ _ _ _ _ (lenK K) (by rfl) T.n_len PySem.boot_len (@pa_cons _ _ _ _ _ (@pe_call _ _ _ _ _ _ _ _ _ _ _ _ _ _ _ _ G_rows_of (hr.mono (by decide)) (by rfl) T.m_rows_of T.k_rows_of T.b_rows_of .nil pass0 (@pa_cons _ _ _ _ _ (pv 1) pa_nil (by rfl)) (by decide) (by rfl) (by rfl)) pa_nil (by rfl)) (by decide) (by decide) (by rfl) (by rfl)) (@pe_callB _ _ _ _ _ _ _ _ _ (lenK K) (by rfl) T.n_len PySem.boot_len (@pa_cons _ _ _ _ _ (pv 1) pa_nil (by rfl)) (by decide) (by decide) (by rfl) (by rfl)) (nomark _))))), ?_⟩
    refine hd_is_base ?_
    intro zz0 zz1
    refine (exq rfl (lnq rfl (.inl (SqL.of hl)) (exq rfl ⟨wb, p, ts, g, rfl, hw, fun H1 s1 => ⟨rfl, exq rfl (?_)⟩⟩)))
    by_cases hn : zs.length = (netOf p ts g).chords.length
    case neg =>
      refine iteNe (fun z => hn ?_) (q H1 false s1 ⟨(fun z => nomatch z), fun ⟨rs, e, b⟩ => absurd b.len (fun z => hn ?_)⟩)
      · have z := V.int.inj z
        rw [List.length_map] at z
        (first | lia | omega)
      · rw [e, List.length_map]
        exact z
    refine iteNS (by rw [List.length_map, hn]) ?_
    have hl1 := s1 _ _ hl
    refine (exq rfl ⟨l, rfl, ⟨_, SqL.of hl1⟩, fun D hD => comp_list (xs := zs.map V.int) (fun i acc H2 => Same H1 H2 ∧ H2 D = some (.lst acc) ∧ ∃ bs : List Bool, acc = bs.map V.bl ∧ bs.length = i ∧ ∀ (j : Nat) z d, j < i → zs[j]? = some z → bs[j]? = some d → (d = true ↔ ∃ m : Nat, z = (m : Int) ∧ m < 2 ^ ts.length ∧ (netOf p ts g).Ring m)) ⟨Same.new hD, upd_same, [], rfl, rfl, (fun j z d h => by (first | lia | omega))⟩ (fun i acc H2 _ z => ⟨SqL.of (z.1 _ _ hl1), z.2.1, by obtain ⟨bs, e, e2, _⟩ := z.2.2; rw [e, List.length_map, e2]; exact Nat.le_refl _⟩) (Nat.le_of_lt (smallL (by rw [List.length_map]; (first | lia | omega)))) ?_ ?_⟩)
    · rintro i x acc H2 hx ⟨s2, hD2, bs, rfl, bl, all⟩
      rw [List.getElem?_map] at hx
      obtain ⟨z, hz, rfl⟩ := Option.map_eq_some_iff.mp hx
      refine ⟨rfl, exq rfl (exq rfl ⟨wb, p, ts, g, z, rfl, hw.same (s1.trans s2), fun H3 d s3 hd => ?_⟩)⟩
      refine ⟨s3 _ _ hD2, (s2.trans s3).put hD, upd_same, bs ++ [d], by rw [List.map_append]; rfl, by rw [List.length_append, bl]; rfl, fun j z' d' hj hz' hd' => ?_⟩
      by_cases e : j = i
      · subst e
        rw [hz] at hz'
        cases hz'
        rw [List.getElem?_append_right (by (first | lia | omega)), bl, Nat.sub_self] at hd'
        cases hd'
        exact hd
      · rw [List.getElem?_append_left (by (first | lia | omega))] at hd'
        exact all j z' d' (by (first | lia | omega)) hz' hd'
    · rintro acc H2 ⟨s2, hD2, bs, rfl, bl, all⟩
      rw [List.length_map] at bl all
      refine ⟨D, _, rfl, SqL.of hD2, _, rfl, ?_⟩
      have ok : bs.all id = true ↔ ∃ rs : List Nat, zs = rs.map (fun x => ((x : Nat) : Int)) ∧ ∀ r ∈ rs, (netOf p ts g).Ring r ∧ r < 2 ^ ts.length := by
        rw [List.all_eq_true]
        constructor
        · intro h
          have each : ∀ z ∈ zs, ∃ m : Nat, z = (m : Int) ∧ m < 2 ^ ts.length ∧ (netOf p ts g).Ring m := fun z hz' => by
            obtain ⟨j, hj⟩ := List.getElem?_of_mem hz'
            have hjl := (List.getElem?_eq_some_iff.mp hj).1
            have hb : bs[j]? = some (bs[j]'(by (first | lia | omega))) := List.getElem?_eq_getElem _
            exact (all j z _ hjl hj hb).mp (h _ (List.mem_of_getElem? hb))
          refine ⟨zs.map Int.toNat, ?_, fun r hr => ?_⟩
          · rw [List.map_map]
            refine (List.map_id zs).symm.trans (List.map_congr_left fun z hz' => ?_)
            obtain ⟨m, rfl, _⟩ := each z hz'
            rfl
          · obtain ⟨z, hz', rfl⟩ := List.mem_map.mp hr
            obtain ⟨m, rfl, h1, h2⟩ := each z hz'
            exact ⟨h2, h1⟩
        · rintro ⟨rs, rfl, hrs⟩ d hd
          obtain ⟨j, hj⟩ := List.getElem?_of_mem hd
          have hjl := (List.getElem?_eq_some_iff.mp hj).1
          have hr : rs[j]? = some (rs[j]'(by rw [List.length_map] at bl; (first | lia | omega))) := List.getElem?_eq_getElem _
          have hm := hrs _ (List.mem_of_getElem? hr)
          exact (all j _ d (by (first | lia | omega)) (by rw [List.getElem?_map, hr]; rfl) hj).mpr (exq rfl ⟨hm.2, hm.1⟩)
      cases hall : bs.all id with
      | false =>
        refine iteT (q H2 false (s1.trans s2) ⟨(fun z => nomatch z), fun ⟨rs, e, b⟩ => ?_⟩)
        rw [ok.mpr ⟨rs, e, b.ring⟩] at hall
        cases hall
      | true =>
        obtain ⟨rs, rfl, hrs⟩ := ok.mp hall
        rw [List.length_map] at hz hn
        rw [← natsV_ints] at hl1
        have hl2 := s2 _ _ hl1
        refine iteF (exq rfl ⟨l, rs, rfl, hl2, hz, fun l3 rows H3 s3 hR3 rw3 => ?_⟩)
        obtain ⟨xs, hl3, pr3⟩ := id hR3
        refine (lnq rfl (.inl (SqL.of hl3)) (exq rfl (lnq rfl (.inl (SqL.of (s3 _ _ hl2))) ⟨rfl, q H3 _ ((s1.trans s2).trans s3) ?_⟩)))
        rw [natsV_len, pr3.length, decide_eq_true_iff]
        constructor
        · intro e
          have e := V.int.inj e
          exact ⟨rs, rfl, hn, hrs, rw3.len.mp (by (first | lia | omega))⟩
        · rintro ⟨rs2, e, b⟩
          rw [← cast_inj e] at b
          have := rw3.len.mpr b.ind
          rw [this]
end

def sp_set_of : Sp := fun vs H Q _ => ∃ w p ts, ∃ (l : Addr) (ks : List Nat), vs = [.ref w, .ref l] ∧ WebAt H w p ts ∧ Web p ts ∧ H l = some (.lst (natsV ks)) ∧ (∀ k ∈ ks, k < ts.length) ∧ Q (.int ((orM ks : Nat) : Int)) H
section
variable {P : Program} {w : World} {K : PySem.W.Frag} {mg : Str → Option Value} {base : Heap} {a : Adr}
theorem G_set_of (T : Txt K mg a) : FnOk P w K mg base CX0 1 a.f_set_of a.d_set_of ["web", "ties"] sp_set_of := by
  refine T.F_set_of.ok sc_set_of (fun vs H Q E h => ?_) (fun cdv A outer s H vs Q E hr h => ?_)
  · obtain ⟨w, p, ts, l, ks, rfl, _⟩ := h
    rfl
  · obtain ⟨wb, p, ts, l, ks, rfl, hw, W, hl, hk, q⟩ := h
    refine ⟨_, (@pss_cons _ _ _ _ _ (@ps_set _ _ 2 _ _ _ _ sc_set_of.nd rfl (Or.inl rfl) pe_int (by rfl) (by first | exact .inl rfl | exact .inr rfl | assumption)) (@pss_cons _ _ _ _ _ (@ps_for _ _ _ _ _ _ _ _ PassesOwn.never rfl (@piL _ _ _ _ K (pv 1) (by rfl)) (pg_name (i := 3) sc_set_of.nd rfl (Or.inl rfl)) (@pss_cons _ _ _ _ _ (@ps_if _ _ _ _ _ _ _ _ (PW.pt (@pw_or _ _ _ _ _ _ _ (@pt_cmpR _ _ _ _ _ _ _ _ op_lt (pv 3) pe_int (nomark _)) (@pw_or1 _ _ _ _ (@pt_cmpR _ _ _ _ _ _ _ _ op_ge (pv 3) (@pe_callB _ _ _ _ _ _ _ _ _ (lenK K) (by rfl) T.n_len PySem.boot_len (@pa_cons _ _ _ _ _ (@pe_ix _ _ _ _ _ _ _ (ixT K) (pv 0) pe_int (fun _ _ => rfl)) pa_nil (by rfl)) (by decide) (by decide) (by rfl) (by rfl)) (nomark _))))) pss_never pss_nil) (@pss_one _ _ _ (@ps_aug _ _ 2 _ _ _ _ _ _ sc_set_of.nd rfl (Or.inl rfl) (@pe_op _ _ _ _ _ _ _ _ op_shl pe_int (pv 3)) iop_or (by first | exact .inl rfl | exact .inr rfl | assumption)))) (by intro _; rfl)) (@pss_one _ _ _ (@ps_ret _ _ _ _ (pv 2))))), ?_⟩
    refine hd_set_of ?_
    intro zz0 zz1 zz2 zz3 zz4
    obtain ⟨bt, xs, h1, h2, h3⟩ := id hw.ex
    have hxl := h3.length
    have wl := W.len
    refine (exq rfl ⟨l, rfl, ⟨_, SqL.of hl⟩, for_list (K := K) (a := l) (xs := natsV ks) (fun i σ H2 => ∃ v3, σ = [some (.ref wb), some (.ref l), some (.int ((orM (ks.take i) : Nat) : Int)), v3] ∧ H2 = H) ⟨none, rfl, rfl⟩ (fun i σ H2 _ ⟨_, _, z⟩ => by rw [z]; exact SqL.of hl) ?_ ?_⟩)
    · rintro i x σ H2 hx ⟨v3, rfl, rfl⟩
      obtain ⟨k, hki, rfl⟩ := natsV_get hx
      have hkn := hk k (List.mem_of_getElem? hki)
      refine (exq rfl (ijq (exq rfl (iteD (by (first | lia | omega)) (exq rfl (exq rfl (ixq (SqT.of h1) (atI_nat (j := 1) rfl) (lnq rfl (.inr (SqT.of h2)) (ijq (exq rfl (iteD (by (first | lia | omega)) ?_)))))))))))
      refine (exq rfl (exq rfl (ijq ⟨⟨by (first | lia | omega), by (first | lia | omega), by decide⟩, ijq ⟨some (.int (k : Int)), ?_, rfl⟩⟩)))
      show [_, _, some (V.int (Builtin.bitOr _ (1 * 2 ^ (k : Int).toNat))), _] = _
      rw [shl_int, or_int, List.take_add_one, hki]
      unfold Ring.orM
      rw [List.foldl_append]
      rfl
    · rintro σ H2 ⟨v3, rfl, rfl⟩
      rw [natsV_len, List.take_length]
      exact (exq rfl (q))
end

def MarksOf (N : RM.Net) (rs ms : List Nat) : Prop := ms.length = rs.length ∧ ∀ (i m : Nat), ms[i]? = some m → m < 2 ^ N.n ∧ ∀ (j r : Nat), rs[j]? = some r → N.par r m = decide (i = j)
def sp_marks_for (C : Addr) : Sp := fun vs H Q E => ∃ w p ts, ∃ g : GoodWeb p ts, ∃ (l : Addr) (zs : List Int), vs = [.ref w, .ref l] ∧ WebAt H w p ts ∧ H l = some (.lst (zs.map V.int)) ∧ zs.length ≤ 200 ∧
  ((∃ rs : List Nat, zs = rs.map (fun x => ((x : Nat) : Int)) ∧ RM.Base (netOf p ts g) rs ∧ ∀ (D : Addr) (ms : List Nat) (H' : Hp), H D = none → Same H H' → H' D = some (.lst (natsV ms)) → MarksOf (netOf p ts g) rs ms → Q (.ref D) H') ∨ (¬ BaseI p ts g zs ∧ ∀ H', Same H H' → E (.ref C) none H'))
section
variable {P : Program} {w : World} {K : PySem.W.Frag} {mg : Str → Option Value} {base : Heap} {a : Adr}
theorem G_marks_for (T : Txt K mg a) : FnOk P w K mg base (CX1 P w) 10 a.f_marks_for a.d_marks_for ["web", "rings"] (sp_marks_for a.c_NoBase) := by
  have G_is_base : FnOk P w K mg base CX0 9 a.f_is_base a.d_is_base ["web", "rings"] sp_is_base := G_is_base T
  have G_rows_of : FnOk P w K mg base CX0 3 a.f_rows_of a.d_rows_of ["sets"] sp_rows_of := G_rows_of T
  have G_has_tie : FnOk P w K mg base CX0 1 a.f_has_tie a.d_has_tie ["tie_set", "tie"] sp_has_tie := G_has_tie T
  have G_set_of : FnOk P w K mg base CX0 1 a.f_set_of a.d_set_of ["web", "ties"] sp_set_of := G_set_of T
  refine T.F_marks_for.ok1 sc_marks_for (fun vs H Q E h => ?_) (fun cdv A outer s H vs Q E hr h => ?_)
  · obtain ⟨w, p, ts, g, l, zs, rfl, _⟩ := h
    rfl
  · obtain ⟨wb, p, ts, g, l, zs, rfl, hw, hl, hz, q⟩ := h
    refine ⟨_, (@pss_cons _ _ _ _ _ (@ps_if _ _ _ _ _ _ _ _ (@pt_not _ _ _ _ (@pt_val _ _ _ (@pe_call _ _ _ _ _ _ _ _ _ _ _ _ _ _ _ _ G_is_base (hr.mono (by decide)) (by rfl) T.m_is_base T.k_is_base T.b_is_base .nil pass0 (@pa_cons _ _ _ _ _ (pv 0) (@pa_cons _ _ _ _ _ (pv 1) pa_nil (by rfl)) (by rfl)) (by decide) (by rfl) (by rfl)) (by intro _; rfl))) (@pss_one _ _ _ (@ps_raise _ _ _ _ _ _ _ _ _ _ _ _ _ _ out_of.thr rfl (by rfl) T.x_NoBase PySem.F.excBase_ValueError (@pa_cons _ _ _ _ _ pe_str pa_nil (by rfl)) (by rfl) (by rfl) (by decide))) pss_nil) (@pss_cons _ _ _ _ _ (@ps_set _ _ 2 _ _ _ _ sc_marks_for.nd rfl (Or.inl rfl) (@pe_call _ _ _ _ _ _ _ _ _ _ _ _ _ _ _ _ G_rows_of (hr.mono (by decide)) (by rfl) T.m_rows_of T.k_rows_of T.b_rows_of .nil pass0 (@pa_cons _ _ _ _ _ (pv 1) pa_nil (by rfl)) (by decide) (by rfl) (by rfl)) (by rfl) (by first | exact .inl rfl | exact .inr rfl | assumption)) (@pss_cons _ _ _ _ _ (@ps_set _ _ 3 _ _ _ _ sc_marks_for.nd rfl (Or.inl rfl) (@pe_lst _ _ _ _ pa_nil) (by rfl) (by first | exact .inl rfl | exact .inr rfl | assumption)) (@pss_cons _ _ _ _ _ (@ps_for1 _ _ _ _ _ _ _ _ rfl (@pi_range1 _ _ _ _ _ _ (by rfl) T.n_range (@pa_cons _ _ _ _ _ (@pe_callB _ _ _ _ _ _ _ _ _ (lenK K) (by rfl) T.n_len PySem.boot_len (@pa_cons _ _ _ _ _ (pv 1) pa_nil (by rfl)) (by decide) (by decide) (by rfl) (by rfl)) pa_nil (by rfl)) (by rfl)) (pg_name (i := 4) sc_marks_for.nd rfl (Or.inr rfl)) (@pss_one _ _ _ (@ps_expr _ _ _ _ (@bmK _ _ _ _ _ _ K (@pe_bm _ _ _ _ _ _ _ _ _ _ _ _ PySem.F.plainAttrs_list PySem.F.slot_list_append PySem.F.type_list_append mt_append (pv 3) (@pa_cons _ _ _ _ _ (@pe_call _ _ _ _ _ _ _ _ _ _ _ _ _ _ _ _ G_set_of (hr.mono (by decide)) (by rfl) T.m_set_of T.k_set_of T.b_set_of .nil pass0 (@pa_cons _ _ _ _ _ (pv 0) (@pa_cons _ _ _ _ _ (@pe_comp _ _ _ _ _ _ _ ["lead", "row", "places"] ["place"] [4] _ _ _ _ (compText_of (defScope s_marks_for) ["web", "rings", "rows", "found", "place"]) rfl (@piL _ _ _ _ K (pv 2) (by rfl)) (fun _ _ _ _ => (pgT K (n := 3) rfl (pgs_cons (pg_name (i := 0) (show (["lead", "row", "places", "place"] : List Str).Nodup by decide +kernel) rfl (Or.inl rfl)) (pgs_cons (pg_name (i := 1) (show (["lead", "row", "places", "place"] : List Str).Nodup by decide +kernel) rfl (Or.inl rfl)) (pgs_cons (pg_name (i := 2) (show (["lead", "row", "places", "place"] : List Str).Nodup by decide +kernel) rfl (Or.inl rfl)) pgs_nil))))) (fun _ _ _ _ => (pts_one (pt_val (pe_call G_has_tie (hr.mono (by decide)) (by rfl) T.m_has_tie T.k_has_tie T.b_has_tie .nil pass0 (pa_cons (pv 2) (pa_cons (pv 3) pa_nil)))))) (fun _ _ _ _ => (pv 0)) (by intro _; rfl)) pa_nil (by rfl)) (by rfl)) (by decide) (by rfl) (by rfl)) pa_nil (by rfl)) (by rfl) (by rfl) (by rfl) (by rfl) (by rfl)) (by rfl)) (by rfl))) (by intro _; rfl)) (@pss_one _ _ _ (@ps_ret _ _ _ _ (pv 3))))))), ?_⟩
    refine hd_marks_for ?_
    intro zz0 zz1 zz2 zz3 zz4 zz5
    refine (exq rfl (exq rfl ⟨wb, p, ts, g, l, zs, rfl, hw, hl, hz, fun H1 d s1 hd => (exq rfl (?_))⟩))
    rcases q with ⟨rs, rfl, bs, q⟩ | ⟨hn, q⟩
    case inr =>
      cases d with
      | true => exact absurd (hd.mp rfl) hn
      | false => exact iteT ⟨dl rfl, q H1 s1⟩
    rw [hd.mpr ⟨rs, rfl, bs⟩]
    refine iteF ?_
    rw [List.length_map] at hz
    rw [← natsV_ints] at hl
    have hl1 := s1 _ _ hl
    refine (exq rfl ⟨l, rs, rfl, hl1, hz, fun l2 rows H2 s2 hR2 rw2 => ?_⟩)
    refine ⟨dl rfl, fun D hD => ?_⟩
    have s3 : Same H2 (upd H2 D (.lst [])) := Same.new hD
    have hD3 : upd H2 D (.lst []) D = some (.lst (natsV [])) := upd_same
    generalize upd H2 D (.lst []) = H3 at s3 hD3
    have s13 := (s1.trans s2).trans s3
    have hDn : H D = none := (s1.trans s2).free hD
    have hl3 := s13 _ _ hl
    have hR3 := hR2.same s3
    obtain ⟨xs, hxs, prx⟩ := id hR3
    have rwl := rw2.le
    refine (exq rfl (lnq rfl (.inl (SqL.of hl3)) (exq rfl ⟨(by rw [natsV_len]; (first | lia | omega)), (by rw [natsV_len]; (first | lia | omega)), ?_⟩)))
    refine for_range' (lo := 0) (n := ((natsV rs).length : Int).toNat) (fun i σ H4 => ∃ v4 ms, σ = [some (.ref wb), some (.ref l), some (.ref l2), some (.ref D), v4] ∧ Same H H4 ∧ Rows3At H4 l2 rows ∧ H4 D = some (.lst (natsV ms)) ∧ ms = (List.range i).map fun j => orM (RM.leadsAt rows j)) ⟨none, [], rfl, s13, hR3, hD3, rfl⟩ ?_ ?_
    · rintro i D' σ H4 hi ⟨v4, ms, rfl, s4, hR4, hD4, ems⟩
      rw [natsV_len, Int.toNat_natCast] at hi
      rw [Int.zero_add]
      obtain ⟨xs4, hxs4, prx4⟩ := id hR4
      have hms : ms.length = i := by rw [ems, List.length_map, List.length_range]
      have hDl2 : D ≠ l2 := fun e => by
        obtain ⟨ys, e1, _⟩ := hR2
        rw [e, e1] at hD
        cases hD
      refine (exq rfl ⟨.inl ⟨rfl, _, SqL.of hD4⟩, exq rfl (exq rfl ⟨l2, rfl, ⟨_, SqL.of hxs4⟩, fun C hC => comp_list (xs := xs4) (fun j acc H5 => Same H4 H5 ∧ H5 C = some (.lst acc) ∧ acc = natsV (RM.leadsAt (rows.take j) i)) ⟨Same.new hC, upd_same, rfl⟩ ?_ (Nat.le_of_lt (smallL (by rw [prx4.length]; (first | lia | omega)))) ?_ ?_⟩)⟩)
      · rintro j acc H5 hj ⟨s5, hC5, rfl⟩
        refine ⟨SqL.of (s5 _ _ hxs4), hC5, ?_⟩
        rw [natsV_len]
        unfold RM.leadsAt
        rw [List.length_map]
        have h1 := List.length_filter_le (fun q : RM.Row3 => q.2.2.testBit i) (rows.take j)
        rw [List.length_take] at h1
        (first | lia | omega)
      · rintro j x acc H5 hx ⟨s5, hC5, rfl⟩
        obtain ⟨qq, hq, c, rfl, hc⟩ := Paired.getP prx4 hx
        have hc5 := s5 _ _ hc
        have lead : RM.leadsAt (rows.take (j + 1)) i = RM.leadsAt (rows.take j) i ++ (if qq.2.2.testBit i = true then [qq.1] else []) := by
          unfold RM.leadsAt
          rw [take3 hq, List.filter_append, List.map_append]
          congr 1
          rw [List.filter_cons]
          cases qq.2.2.testBit i <;> rfl
        refine ⟨c, _, rfl, SqT.of hc5, rfl, _, _, rfl, _, _, rfl, _, _, rfl, rfl, rfl, exq rfl (exq rfl ⟨_, i, rfl, exq rfl (?_)⟩)⟩
        rw [bit_nat]
        cases hb : qq.2.2.testBit i with
        | true =>
          rw [hb, if_pos rfl] at lead
          refine (exq rfl ⟨hC5, s5.put hC, upd_same, ?_⟩)
          rw [lead, natsV_snoc]
        | false =>
          rw [hb, if_neg (by decide), List.append_nil] at lead
          exact ⟨s5, hC5, by rw [lead]⟩
      · rintro acc H5 ⟨s5, hC5, rfl⟩
        rw [prx4.length, List.take_length] at hC5
        have hir : rs[i]? = some rs[i] := List.getElem?_eq_getElem hi
        have mk := rw2.marks (N := netOf p ts g) bs.ind (fun b hb => (bs.ring b hb).2) (i := i) hir
        refine ⟨wb, p, ts, C, _, rfl, hw.same (s4.trans s5), g.web, hC5, mk.2, ?_⟩
        have hD5 := s5 _ _ hD4
        refine ⟨D, _, _, rfl, rfl, hD5, smallL (by rw [natsV_len]; (first | lia | omega)), _, ms ++ [orM (RM.leadsAt rows i)], rfl, (s4.trans s5).put hDn, ?_, ?_, ?_⟩
        · obtain ⟨ys, e1, e2⟩ := hR4.same s5
          exact ⟨ys, by rw [upd_ne hDl2.symm]; exact e1, Paired.imp' (fun _ _ z => z.tups (Tups.put hD5)) e2⟩
        · rw [upd_same, natsV_snoc]
        · rw [List.range_succ, List.map_append, ems]
          rfl
    · rintro σ H4 ⟨v4, ms, rfl, s4, hR4, hD4, ems⟩
      rw [natsV_len, Int.toNat_natCast] at ems
      refine (exq rfl (q D ms H4 hDn s4 hD4 ⟨by rw [ems, List.length_map, List.length_range], fun i m hm => ?_⟩))
      rw [ems, List.getElem?_map] at hm
      obtain ⟨j, hj, rfl⟩ := Option.map_eq_some_iff.mp hm
      have ej : j = i ∧ i < rs.length := by
        obtain ⟨h1, h2⟩ := List.getElem?_eq_some_iff.mp hj
        rw [List.getElem_range] at h2
        rw [List.length_range] at h1
        exact ⟨h2.symm, h1⟩
      obtain ⟨rfl, hjl⟩ := ej
      have mk := fun j' r (h : rs[j']? = some r) => rw2.marks (N := netOf p ts g) bs.ind (fun b hb => (bs.ring b hb).2) (i := j) h
      have hjr : rs[j]? = some rs[j] := List.getElem?_eq_getElem hjl
      exact ⟨orM_lt (mk j _ hjr).2, fun j' r hr => (mk j' r hr).1⟩
end

def sp_cell (K : PySem.W.Frag) : Sp := fun vs H Q _ => ∃ (a : Addr) (ns : List Int) (k : Int), vs = [.ref a, .int k] ∧ 0 ≤ k ∧ SqL K H a (ns.map V.int) ∧ ∀ z, Q (.int z) H
def sp_mixed : Sp := fun vs H Q _ => ∃ (c k : Int), vs = [.int c, .int k] ∧ 0 ≤ k ∧ k ≤ 1000 ∧ ∀ z, 0 ≤ z → z < 1000000007 → Q (.int z) H
def sp_lenw : Sp := fun vs H Q _ => ∃ (c : Int) (k : Nat), vs = [.int c, .int (k : Int)] ∧ ∀ z, 1 ≤ z → z ≤ 1000000000000000000000000000000 → Q (.int z) H
def sp_tie : Sp := fun vs H Q _ => ∃ (c : Int) (p m : Nat), vs = [.int c, .int (p : Int), .int (m : Int)] ∧ 2 ≤ p ∧ p ≤ 10 ∧ ∀ t b H', Same H H' → GoodTie (p : Int) t → H' b = some (.tup (tieV t)) → Q (.ref b) H'
def sp_web (K : PySem.W.Frag) : Sp := fun vs H Q _ => ∃ (a : Addr) (ns : List Int) (mt rk : Nat), vs = [.ref a, .int (mt : Int), .int (rk : Int)] ∧ SqL K H a (ns.map V.int) ∧ ns.length ≤ 63 ∧ mt ≤ 24 ∧
  ∀ w p ts H', Same H H' → GoodWeb p ts → 2 ≤ p → p ≤ 6 → ts.length ≤ mt → WebAt H' w p ts → Q (.ref w) H'
def Belo (H : Hp) (D : Addr) (n p : Nat) : Prop := ∃ ks : List Nat, H D = some (.lst (natsV ks)) ∧ ks.length = n ∧ ∀ k ∈ ks, k < p
section
variable {P : Program} {w : World} {K : PySem.W.Frag} {mg : Str → Option Value} {base : Heap} {a : Adr}
theorem G_law_cell_at (T : Txt K mg a) : FnOk P w K mg base CX0 1 a.f_law_cell_at a.d_law_cell_at ["script", "k"] (sp_cell K) := by
  refine T.F_law_cell_at.ok sc_law_cell_at (fun vs H Q E h => ?_) (fun cdv A outer s H vs Q E hr h => ?_)
  · obtain ⟨b, ns, k, rfl, _⟩ := h
    rfl
  · obtain ⟨b, ns, k, rfl, hk0, hS, q⟩ := h
    refine ⟨_, (@pss_cons _ _ _ _ _ (@ps_if _ _ _ _ _ _ _ _ (@pt_cmpR _ _ _ _ _ _ _ _ op_lt (pv 1) (@pe_callB _ _ _ _ _ _ _ _ _ (lenK K) (by rfl) T.n_len PySem.boot_len (@pa_cons _ _ _ _ _ (pv 0) pa_nil (by rfl)) (by decide) (by decide) (by rfl) (by rfl)) (nomark _)) (@pss_one _ _ _ (@ps_ret _ _ _ _ (@pe_ix _ _ _ _ _ _ _ (ixL K) (pv 0) (pv 1) (fun _ _ => rfl)))) pss_nil) (@pss_one _ _ _ (@ps_ret _ _ _ _ pe_int))), ?_⟩
    refine hd_law_cell_at ?_
    intro zz0 zz1
    refine (exq rfl (exq rfl ⟨b, _, rfl, .inl hS, _, _, rfl, rfl, exq rfl (ite2 (fun hlt => ?_) (fun _ => q 0))⟩))
    have hlt := of_decide_eq_true hlt
    rw [List.length_map] at hlt
    obtain ⟨k, rfl⟩ := Int.eq_ofNat_of_zero_le hk0
    exact (exq rfl (exq rfl ⟨b, _, _, _, rfl, rfl, hS, atI_nat (j := k) (ints_at (by (first | lia | omega))), q _⟩))
theorem G_law_mixed (T : Txt K mg a) : FnOk P w K mg base CX0 1 a.f_law_mixed a.d_law_mixed ["cell", "k"] sp_mixed := by
  refine T.F_law_mixed.ok sc_law_mixed (fun vs H Q E h => ?_) (fun cdv A outer s H vs Q E hr h => ?_)
  · obtain ⟨c, k, rfl, _⟩ := h
    rfl
  · obtain ⟨c, k, rfl, hk, hk2, q⟩ := h
    refine ⟨_, (@pss_cons _ _ _ _ _ (@ps_set _ _ 2 _ _ _ _ sc_law_mixed.nd rfl (Or.inl rfl) (@pe_op _ _ _ _ _ _ _ _ op_add (@pe_op _ _ _ _ _ _ _ _ op_mod (pv 0) pe_int) (@pe_op _ _ _ _ _ _ _ _ op_mul pe_int (pv 1))) (by rfl) (by first | exact .inl rfl | exact .inr rfl | assumption)) (@pss_cons _ _ _ _ _ (@ps_set _ _ 3 _ _ _ _ sc_law_mixed.nd rfl (Or.inl rfl) (@pe_op _ _ _ _ _ _ _ _ op_mod (@pe_op _ _ _ _ _ _ _ _ op_mul (@pe_op _ _ _ _ _ _ _ _ op_add (pv 2) pe_int) (@pe_op _ _ _ _ _ _ _ _ op_add (pv 2) pe_int)) pe_int) (by rfl) (by first | exact .inl rfl | exact .inr rfl | assumption)) (@pss_one _ _ _ (@ps_ret _ _ _ _ (@pe_op _ _ _ _ _ _ _ _ op_fdiv (@pe_op _ _ _ _ _ _ _ _ op_mod (@pe_op _ _ _ _ _ _ _ _ op_mul (pv 3) (pv 3)) pe_int) pe_int))))), ?_⟩
    refine hd_law_mixed ?_
    intro zz0 zz1
    have h1 := emod2 c 1000000007 (by decide)
    refine (exq rfl (ijq ⟨(modC rfl), exq rfl (ijq ⟨.inl ⟨by decide, by decide⟩, ijq (?_)⟩)⟩))
    refine (exq rfl (ijq (exq rfl (ijq (ijq ⟨.inl ⟨by (first | lia | omega), by (first | lia | omega)⟩, ijq ⟨(modC rfl), ?_⟩⟩)))))
    have h2 := emod2 ((c % 1000000007 + 7919 * k + 11) * (c % 1000000007 + 7919 * k + 48271)) 998244353 (by decide)
    dsimp only
    generalize (c % 1000000007 + 7919 * k + 11) * (c % 1000000007 + 7919 * k + 48271) % 998244353 = st at h2
    refine (exq rfl (exq rfl (ijq ⟨.inl ⟨by (first | lia | omega), by (first | lia | omega)⟩, ijq ⟨(modC rfl), ijq ⟨⟨by decide, by decide⟩, ?_⟩⟩⟩)))
    have h3 := emod2 (st * st) 1000000007 (by decide)
    dsimp only
    generalize st * st % 1000000007 = y at h3
    exact q _ (by (first | lia | omega)) (by (first | lia | omega))
theorem G_law_length (T : Txt K mg a) : FnOk P w K mg base CX0 1 a.f_law_length a.d_law_length ["cell", "way"] sp_lenw := by
  refine T.F_law_length.ok sc_law_length (fun vs H Q E h => ?_) (fun cdv A outer s H vs Q E hr h => ?_)
  · obtain ⟨c, k, rfl, _⟩ := h
    rfl
  · obtain ⟨c, k, rfl, q⟩ := h
    refine ⟨_, (@pss_cons _ _ _ _ _ (@ps_if _ _ _ _ _ _ _ _ (@pt_cmpR _ _ _ _ _ _ _ _ op_eq (pv 1) pe_int (nomark _)) (@pss_one _ _ _ (@ps_ret _ _ _ _ (@pe_op _ _ _ _ _ _ _ _ op_add pe_int (@pe_op _ _ _ _ _ _ _ _ op_mod (pv 0) pe_int)))) pss_nil) (@pss_cons _ _ _ _ _ (@ps_if _ _ _ _ _ _ _ _ (@pt_cmpR _ _ _ _ _ _ _ _ op_eq (pv 1) pe_int (nomark _)) (@pss_one _ _ _ (@ps_ret _ _ _ _ (@pe_op _ _ _ _ _ _ _ _ op_add pe_int (@pe_op _ _ _ _ _ _ _ _ op_mod (pv 0) pe_int)))) pss_nil) (@pss_one _ _ _ (@ps_ret _ _ _ _ (@pe_op _ _ _ _ _ _ _ _ op_add pe_int (@pe_op _ _ _ _ _ _ _ _ op_mod (pv 0) (@pe_op _ _ _ _ _ _ _ _ op_pow pe_int pe_int))))))), ?_⟩
    refine hd_law_length ?_
    intro zz0 zz1 zz2 zz3
    have h9 := emod2 c 9 (by decide)
    have h3 := emod2 c 3 (by decide)
    have h30 := emod2 c (10 ^ (30 : Int).toNat) (by decide)
    have e : (10 : Int) ^ (30 : Int).toNat = 1000000000000000000000000000000 := by decide
    refine (exq rfl ⟨rfl, exq rfl (ite2 (fun _ => (exq rfl (ijq ⟨(modC rfl), ijq (q _ (by (first | lia | omega)) (by (first | lia | omega)))⟩))) (fun _ => (exq rfl ⟨rfl, exq rfl (ite2 (fun _ => (exq rfl (ijq ⟨(modC rfl), ijq (q _ (by (first | lia | omega)) (by (first | lia | omega)))⟩))) (fun _ => (exq rfl (ijq ⟨⟨by decide, by decide, by decide⟩, ijq ⟨(modC (by decide)), ijq (q _ (by (first | lia | omega)) (by (first | lia | omega)))⟩⟩))))⟩)))⟩)
theorem G_law_tie (T : Txt K mg a) : FnOk P w K mg base CX0 2 a.f_law_tie a.d_law_tie ["cell", "points", "way"] sp_tie := by
  have G_law_length : FnOk P w K mg base CX0 1 a.f_law_length a.d_law_length ["cell", "way"] sp_lenw := G_law_length T
  refine T.F_law_tie.ok sc_law_tie (fun vs H Q E h => ?_) (fun cdv A outer s H vs Q E hr h => ?_)
  · obtain ⟨c, p, m, rfl, _⟩ := h
    rfl
  · obtain ⟨c, p, m, rfl, hp, hp2, q⟩ := h
    refine ⟨_, (@pss_cons _ _ _ _ _ (@ps_set _ _ 3 _ _ _ _ sc_law_tie.nd rfl (Or.inl rfl) (@pe_op _ _ _ _ _ _ _ _ op_mod (pv 0) (pv 1)) (by rfl) (by first | exact .inl rfl | exact .inr rfl | assumption)) (@pss_cons _ _ _ _ _ (@ps_set _ _ 0 _ _ _ _ sc_law_tie.nd rfl (Or.inl rfl) (@pe_op _ _ _ _ _ _ _ _ op_fdiv (pv 0) (pv 1)) (by rfl) (by first | exact .inl rfl | exact .inr rfl | assumption)) (@pss_cons _ _ _ _ _ (@ps_set _ _ 4 _ _ _ _ sc_law_tie.nd rfl (Or.inl rfl) (@pe_op _ _ _ _ _ _ _ _ op_mod (@pe_op _ _ _ _ _ _ _ _ op_add (@pe_op _ _ _ _ _ _ _ _ op_add (pv 3) pe_int) (@pe_op _ _ _ _ _ _ _ _ op_mod (pv 0) (@pe_op _ _ _ _ _ _ _ _ op_sub (pv 1) pe_int))) (pv 1)) (by rfl) (by first | exact .inl rfl | exact .inr rfl | assumption)) (@pss_one _ _ _ (@ps_ret _ _ _ _ (@pe_tup _ _ _ _ _ (@pa_cons _ _ _ _ _ (pv 3) (@pa_cons _ _ _ _ _ (pv 4) (@pa_cons _ _ _ _ _ (@pe_call _ _ _ _ _ _ _ _ _ _ _ _ _ _ _ _ G_law_length (hr.mono (by decide)) (by rfl) T.m_law_length T.k_law_length T.b_law_length .nil pass0 (@pa_cons _ _ _ _ _ (@pe_op _ _ _ _ _ _ _ _ op_fdiv (pv 0) (@pe_op _ _ _ _ _ _ _ _ op_sub (pv 1) pe_int)) (@pa_cons _ _ _ _ _ (pv 2) pa_nil (by rfl)) (by rfl)) (by decide) (by rfl) (by rfl)) pa_nil (by rfl)) (by rfl)) (by rfl)))))))), ?_⟩
    refine hd_law_tie ?_
    intro zz0 zz1 zz2
    obtain ⟨h1, h2⟩ := emod2 c (p : Int) (by (first | lia | omega))
    obtain ⟨h3, h4⟩ := emod2 (c / (p : Int)) ((p : Int) - 1) (by (first | lia | omega))
    obtain ⟨g1, g2, g3⟩ := other_ne h1 h2 h3 h4
    refine (exq rfl (exq rfl (ijq ⟨(by (first | lia | omega)), ?_⟩)))
    refine (exq rfl (exq rfl (ijq ⟨⟨by (first | lia | omega), by (first | lia | omega)⟩, ?_⟩)))
    refine (exq rfl (ijq (exq rfl (exq rfl (ijq (ijq ⟨(by (first | lia | omega)), ijq (exq rfl (ijq ⟨(by (first | lia | omega)), ?_⟩))⟩))))))
    refine (exq rfl (exq rfl (exq rfl (exq rfl (ijq (ijq ⟨⟨by (first | lia | omega), by (first | lia | omega)⟩, exq rfl ⟨_, m, rfl, fun z hz hz2 => ⟨dl rfl, fun b hb => ?_⟩⟩⟩))))))
    exact q (_, _, z) b _ (Same.new hb) ⟨h1, h2, g1, g2, g3, hz, hz2⟩ upd_same
theorem G_law_web (T : Txt K mg a) : FnOk P w K mg base CX0 3 a.f_law_web a.d_law_web ["script", "most", "ranked"] (sp_web K) := by
  have G_law_cell_at : FnOk P w K mg base CX0 1 a.f_law_cell_at a.d_law_cell_at ["script", "k"] (sp_cell K) := G_law_cell_at T
  have G_law_mixed : FnOk P w K mg base CX0 1 a.f_law_mixed a.d_law_mixed ["cell", "k"] sp_mixed := G_law_mixed T
  have G_law_tie : FnOk P w K mg base CX0 2 a.f_law_tie a.d_law_tie ["cell", "points", "way"] sp_tie := G_law_tie T
  refine T.F_law_web.ok sc_law_web (fun vs H Q E h => ?_) (fun cdv A outer s H vs Q E hr h => ?_)
  · obtain ⟨b, ns, mt, rk, rfl, _⟩ := h
    rfl
  · obtain ⟨b, ns, mt, rk, rfl, hS, hn, hmt, q⟩ := h
    refine ⟨_, (@pss_cons _ _ _ _ _ (@ps_set _ _ 3 _ _ _ _ sc_law_web.nd rfl (Or.inr rfl) (@pe_call _ _ _ _ _ _ _ _ _ _ _ _ _ _ _ _ G_law_cell_at (hr.mono (by decide)) (by rfl) T.m_law_cell_at T.k_law_cell_at T.b_law_cell_at .nil pass0 (@pa_cons _ _ _ _ _ (pv 0) (@pa_cons _ _ _ _ _ pe_int pa_nil (by rfl)) (by rfl)) (by decide) (by rfl) (by rfl)) (by rfl) (by first | exact .inl rfl | exact .inr rfl | assumption)) (@pss_cons _ _ _ _ _ (@ps_set _ _ 4 _ _ _ _ sc_law_web.nd rfl (Or.inl rfl) (@pe_op _ _ _ _ _ _ _ _ op_add pe_int (@pe_op _ _ _ _ _ _ _ _ op_mod (pv 3) pe_int)) (by rfl) (by first | exact .inl rfl | exact .inr rfl | assumption)) (@pss_cons _ _ _ _ _ (@ps_set _ _ 5 _ _ _ _ sc_law_web.nd rfl (Or.inl rfl) (@pe_op _ _ _ _ _ _ _ _ op_mod (@pe_op _ _ _ _ _ _ _ _ op_fdiv (pv 3) pe_int) pe_int) (by rfl) (by first | exact .inl rfl | exact .inr rfl | assumption)) (@pss_cons _ _ _ _ _ (@ps_set _ _ 6 _ _ _ _ sc_law_web.nd rfl (Or.inl rfl) (@pe_slice _ _ _ _ _ _ _ _ _ _ (slL K) (pv 0) (@po_some _ _ _ pe_int) po_none) (by rfl) (by first | exact .inl rfl | exact .inr rfl | assumption)) (@pss_cons _ _ _ _ _ (@ps_if _ _ _ _ _ _ _ _ (@pt_cmpR _ _ _ _ _ _ _ _ op_eq (@pe_op _ _ _ _ _ _ _ _ op_mod (@pe_op _ _ _ _ _ _ _ _ op_fdiv (pv 3) pe_int) pe_int) pe_int (nomark _)) (@pss_cons _ _ _ _ _ (@ps_comp _ _ _ _ _ _ _ ["k", "cell"] [] [] _ _ _ _ 6 _ _ _ sc_law_web.nd rfl rfl (compText_of (defScope s_law_web) ["script", "most", "ranked", "head", "points", "way", "cells", "ties", "marks", "free", "cell", "tie", "joined", "old"]) rfl (@pi_enum _ _ _ _ K _ _ _ _ (by rfl) T.n_enumerate (@pa_cons _ _ _ _ _ (@pe_slice _ _ _ _ _ _ _ _ _ _ (slL K) (pv 0) (@po_some _ _ _ pe_int) po_none) pa_nil (by rfl)) (by rfl) (by rfl)) (fun _ _ _ _ => (pgT K (n := 2) rfl (pgs_cons (pg_name (i := 0) (show (["k", "cell"] : List Str).Nodup by decide +kernel) rfl (Or.inl rfl)) (pgs_cons (pg_name (i := 1) (show (["k", "cell"] : List Str).Nodup by decide +kernel) rfl (Or.inl rfl)) pgs_nil)))) (fun _ _ _ _ => pts_nil) (fun _ _ _ _ => (pe_call G_law_mixed (hr.mono (by decide)) (by rfl) T.m_law_mixed T.k_law_mixed T.b_law_mixed .nil pass0 (pa_cons (pv 1) (pa_cons (pv 0) pa_nil)))) (by rfl) (by intro _; rfl)) (@pss_one _ _ _ (@ps_expr _ _ _ _ (@bmK _ _ _ _ _ _ K (@pe_bm _ _ _ _ _ _ _ _ _ _ _ _ PySem.F.plainAttrs_list PySem.F.slot_list_extend PySem.F.type_list_extend mt_extend (pv 6) (@pa_cons _ _ _ _ _ (@pe_comp _ _ _ _ _ _ _ ["k"] ["head"] [3] _ _ _ _ (compText_of (defScope s_law_web) ["script", "most", "ranked", "head", "points", "way", "cells", "ties", "marks", "free", "cell", "tie", "joined", "old"]) rfl (@pi_range1 _ _ _ _ _ _ (by rfl) T.n_range (@pa_cons _ _ _ _ _ pe_int pa_nil (by rfl)) (by rfl)) (fun _ _ _ _ => (pg_name (i := 0) (show (["k", "head"] : List Str).Nodup by decide +kernel) rfl (Or.inl rfl))) (fun _ _ _ _ => pts_nil) (fun _ _ _ _ => (pe_call G_law_mixed (hr.mono (by decide)) (by rfl) T.m_law_mixed T.k_law_mixed T.b_law_mixed .nil pass0 (pa_cons (pv 1) (pa_cons (pe_op op_add pe_int (pv 0)) pa_nil)))) (by intro _; rfl)) pa_nil (by rfl)) (by rfl) (by rfl) (by rfl) (by rfl) (by rfl)) (by rfl)) (by rfl)))) pss_nil) (@pss_cons _ _ _ _ _ (@ps_set _ _ 7 _ _ _ _ sc_law_web.nd rfl (Or.inl rfl) (@pe_lst _ _ _ _ pa_nil) (by rfl) (by first | exact .inl rfl | exact .inr rfl | assumption)) (@pss_cons _ _ _ _ _ (@ps_set _ _ 8 _ _ _ _ sc_law_web.nd rfl (Or.inr rfl) (@pe_comp _ _ _ _ _ _ _ ["point"] [] [] _ _ _ _ (compText_of (defScope s_law_web) ["script", "most", "ranked", "head", "points", "way", "cells", "ties", "marks", "free", "cell", "tie", "joined", "old"]) rfl (@pi_range1 _ _ _ _ _ _ (by rfl) T.n_range (@pa_cons _ _ _ _ _ (pv 4) pa_nil (by rfl)) (by rfl)) (fun _ _ _ _ => (pg_name (i := 0) (show (["point"] : List Str).Nodup by decide +kernel) rfl (Or.inl rfl))) (fun _ _ _ _ => pts_nil) (fun _ _ _ _ => (pv 0)) (by intro _; rfl)) (by rfl) (by first | exact .inl rfl | exact .inr rfl | assumption)) (@pss_cons _ _ _ _ _ (@ps_set _ _ 9 _ _ _ _ sc_law_web.nd rfl (Or.inl rfl) pe_int (by rfl) (by first | exact .inl rfl | exact .inr rfl | assumption)) (@pss_cons _ _ _ _ _ (@ps_for _ _ _ _ _ _ _ _ PassesOwn.never rfl (@piL _ _ _ _ K (pv 6) (by rfl)) (pg_name (i := 10) sc_law_web.nd rfl (Or.inl rfl)) (@pss_cons _ _ _ _ _ (@ps_set _ _ 11 _ _ _ _ sc_law_web.nd rfl (Or.inr rfl) (@pe_call _ _ _ _ _ _ _ _ _ _ _ _ _ _ _ _ G_law_tie (hr.mono (by decide)) (by rfl) T.m_law_tie T.k_law_tie T.b_law_tie .nil pass0 (@pa_cons _ _ _ _ _ (pv 10) (@pa_cons _ _ _ _ _ (pv 4) (@pa_cons _ _ _ _ _ (pv 5) pa_nil (by rfl)) (by rfl)) (by rfl)) (by decide) (by rfl) (by rfl)) (by rfl) (by first | exact .inl rfl | exact .inr rfl | assumption)) (@pss_cons _ _ _ _ _ (@ps_set _ _ 12 _ _ _ _ sc_law_web.nd rfl (Or.inl rfl) (@pe_cmpR _ _ _ _ _ _ _ _ op_ne (@pe_ix _ _ _ _ _ _ _ (ixL K) (pv 8) (@pe_ix _ _ _ _ _ _ _ (ixT K) (pv 11) pe_int (fun _ _ => rfl)) (fun _ _ => rfl)) (@pe_ix _ _ _ _ _ _ _ (ixL K) (pv 8) (@pe_ix _ _ _ _ _ _ _ (ixT K) (pv 11) pe_int (fun _ _ => rfl)) (fun _ _ => rfl)) (nomark _)) (by rfl) (by first | exact .inl rfl | exact .inr rfl | assumption)) (@pss_one _ _ _ (@ps_if _ _ _ _ _ _ _ _ (PW.pt (@pw_and _ _ _ _ _ _ _ (@pt_cmpR _ _ _ _ _ _ _ _ op_lt (@pe_callB _ _ _ _ _ _ _ _ _ (lenK K) (by rfl) T.n_len PySem.boot_len (@pa_cons _ _ _ _ _ (pv 7) pa_nil (by rfl)) (by decide) (by decide) (by rfl) (by rfl)) (pv 1) (nomark _)) (@pw_and1 _ _ _ _ (PW.pt (@pw_or _ _ _ _ _ _ _ (@pt_val _ _ _ (pv 12) (by intro _; rfl)) (@pw_or1 _ _ _ _ (@pt_cmpR _ _ _ _ _ _ _ _ op_lt (pv 9) (pv 2) (nomark _)))))))) (@pss_cons _ _ _ _ _ (@ps_expr _ _ _ _ (@bmK _ _ _ _ _ _ K (@pe_bm _ _ _ _ _ _ _ _ _ _ _ _ PySem.F.plainAttrs_list PySem.F.slot_list_append PySem.F.type_list_append mt_append (pv 7) (@pa_cons _ _ _ _ _ (pv 11) pa_nil (by rfl)) (by rfl) (by rfl) (by rfl) (by rfl) (by rfl)) (by rfl)) (by rfl)) (@pss_cons _ _ _ _ _ (@ps_set _ _ 9 _ _ _ _ sc_law_web.nd rfl (Or.inl rfl) (@pe_op _ _ _ _ _ _ _ _ op_add (pv 9) (@pe_callTy _ _ _ _ _ _ _ _ _ call_int1 (by rfl) T.n_int PyProof.Rows.boot_int (@pa_cons _ _ _ _ _ (@pe_not _ _ _ _ (pv 12)) pa_nil (by rfl)) (by decide) (by decide) (by rfl) (by rfl))) (by rfl) (by first | exact .inl rfl | exact .inr rfl | assumption)) (@pss_cons _ _ _ _ _ (@ps_set _ _ 13 _ _ _ _ sc_law_web.nd rfl (Or.inr rfl) (@pe_ix _ _ _ _ _ _ _ (ixL K) (pv 8) (@pe_ix _ _ _ _ _ _ _ (ixT K) (pv 11) pe_int (fun _ _ => rfl)) (fun _ _ => rfl)) (by rfl) (by first | exact .inl rfl | exact .inr rfl | assumption)) (@pss_one _ _ _ (@ps_set _ _ 8 _ _ _ _ sc_law_web.nd rfl (Or.inr rfl) (@pe_comp _ _ _ _ _ _ _ ["mark"] ["marks", "tie", "old"] [8, 11, 13] _ _ _ _ (compText_of (defScope s_law_web) ["script", "most", "ranked", "head", "points", "way", "cells", "ties", "marks", "free", "cell", "tie", "joined", "old"]) rfl (@piL _ _ _ _ K (pv 8) (by rfl)) (fun _ _ _ _ => (pg_name (i := 0) (show (["mark", "marks", "tie", "old"] : List Str).Nodup by decide +kernel) rfl (Or.inl rfl))) (fun _ _ _ _ => pts_nil) (fun _ _ _ _ => (pe_ix (ixL K) (pe_lst (pa_cons (pv 0) (pa_cons (pe_ix (ixL K) (pv 1) (pe_ix (ixT K) (pv 2) pe_int (fun _ _ => rfl)) (fun _ _ => rfl)) pa_nil))) (pe_callTy call_int1 (by rfl) T.n_int PyProof.Rows.boot_int (pa_cons (pe_cmpR op_eq (pv 0) (pv 3) (nomark _)) pa_nil)) (fun _ _ => rfl))) (by intro _; rfl)) (by rfl) (by first | exact .inl rfl | exact .inr rfl | assumption)))))) pss_nil)))) (by intro _; rfl)) (@pss_one _ _ _ (@ps_ret _ _ _ _ (@pe_tup _ _ _ _ _ (@pa_cons _ _ _ _ _ (pv 4) (@pa_cons _ _ _ _ _ (@pe_callTy _ _ _ _ _ _ _ _ _ (tuplK K) (by rfl) T.n_tuple PyProof.Rows.boot_tuple (@pa_cons _ _ _ _ _ (pv 7) pa_nil (by rfl)) (by decide) (by decide) (by rfl) (by rfl)) pa_nil (by rfl)) (by rfl)))))))))))))), ?_⟩
    refine hd_law_web ?_
    intro zz0 zz1 zz2 zz3 zz4 zz5 zz6 zz7 zz8 zz9 zz10 zz11 zz12 zz13 zz14 zz15 zz16 zz17
    refine (exq rfl ⟨b, ns, 0, rfl, (by decide), hS, fun z => ?_⟩)
    refine (exq rfl (ijq ⟨(modC rfl), ijq (?_)⟩))
    obtain ⟨p, hp, p1, p2⟩ : ∃ p : Nat, 2 + z % 5 = (p : Int) ∧ 2 ≤ p ∧ p ≤ 6 := by
      obtain ⟨h1, h2⟩ := emod2 z 5 (by decide)
      exact ⟨(2 + z % 5).toNat, by (first | lia | omega), by (first | lia | omega), by (first | lia | omega)⟩
    dsimp only
    rw [hp]
    refine (exq rfl (ijq ⟨⟨by decide, by decide⟩, ijq ⟨(modC rfl), ?_⟩⟩))
    obtain ⟨wy, hwy⟩ : ∃ y : Nat, z / 5 % 3 = (y : Int) := by
      obtain ⟨h1, h2⟩ := emod2 (z / 5) 3 (by decide)
      exact ⟨(z / 5 % 3).toNat, by (first | lia | omega)⟩
    dsimp only
    rw [hwy]
    refine (exq rfl (exq rfl ⟨b, _, rfl, hS, fun c hc => ?_⟩))
    have hcut := ints_cut ns (some 1) none
    have hml : ((ns.drop (HT.sIx ns.length 0 (some 1))).take (HT.sIx ns.length ns.length none - HT.sIx ns.length 0 (some 1))).length ≤ 63 := by
      rw [List.length_take, List.length_drop]
      (first | lia | omega)
    generalize (ns.drop (HT.sIx ns.length 0 (some 1))).take (HT.sIx ns.length ns.length none - HT.sIx ns.length 0 (some 1)) = ms at hcut hml
    rw [hcut]
    have cont : ∀ (c1 : Addr) (ms1 : List Int) (H1 : Hp), Same H H1 → H1 c1 = some (.lst (ms1.map V.int)) → zz11 { nx := fun _ H' => Q V.non H', rt := Q } [some (.ref b), some (.int (mt : Int)), some (.int (rk : Int)), some (.int z), some (.int (p : Int)), some (.int (wy : Int)), some (.ref c1), none, none, none, none, none, none, none] H1 := by
      intro c1 ms1 H1 s1 hc1
      refine ⟨dl rfl, fun L hL => ?_⟩
      have t2 : Ties (p : Int) H1 L 0 (upd H1 L (.lst [])) := .start hL
      generalize upd H1 L (.lst []) = H2 at t2
      refine (exq rfl (exq rfl ⟨(by (first | lia | omega)), (by (first | lia | omega)), fun M hM => comp_range (lo := 0) (m := (p : Int).toNat) (Pick (fun _ => true) H2 M) (.start hM) (fun i acc H3 _ pk => pk.len) (small24 (by (first | lia | omega))) ?_ ?_⟩))
      · intro i acc H3 hi pk
        rw [Int.zero_add]
        exact ⟨rfl, exq rfl (pk.yes hM (Same.refl _) rfl)⟩
      intro acc H3 pk
      have b3 : Belo H3 M p p := by
        refine ⟨(List.range p).filter (fun _ => true), by rw [pk.2.1, pk.2.2, Int.toNat_natCast], ?_, fun k hk => List.mem_range.mp (List.mem_filter.mp hk).1⟩
        rw [List.filter_eq_self.mpr (fun _ _ => rfl), List.length_range]
      have t3 : Ties (p : Int) H1 L 0 H3 := by
        obtain ⟨a1, acc, ts, a2, a3, a4⟩ := t2
        exact ⟨a1.trans pk.1, acc, ts, pk.1 _ _ a2, Paired.imp' (fun _ _ z => z.tups pk.1.tups) a3, a4⟩
      clear pk
      have fr : H1 M = none := t2.1.free hM
      refine (exq rfl ⟨c1, rfl, ⟨_, SqL.of (t3.1 _ _ hc1)⟩, for_list' (K := K) (a := c1) (xs := ms1.map V.int) (fun i σ H4 => ∃ (M : Addr) (n : Nat) (f : Int) (v10 v11 v12 v13 : Option V), σ = [some (.ref b), some (.int (mt : Int)), some (.int (rk : Int)), some (.int z), some (.int (p : Int)), some (.int (wy : Int)), some (.ref c1), some (.ref L), some (.ref M), some (.int f), v10, v11, v12, v13] ∧ Ties (p : Int) H1 L n H4 ∧ n ≤ mt ∧ Belo H4 M p p ∧ H1 M = none ∧ M ≠ L) ⟨M, 0, 0, none, none, none, none, rfl, t3, Nat.zero_le _, b3, fr, fun e => ?_⟩ (fun i σ H4 _ ⟨_, _, _, _, _, _, _, _, t, _⟩ => SqL.of (t.1 _ _ hc1)) ?_ ?_⟩)
      · obtain ⟨_, acc, _, a2, _⟩ := t2
        rw [e, a2] at hM
        cases hM
      · rintro i y D' σ H4 hi ⟨M, n, f, v10, v11, v12, v13, rfl, t4, hnm, b4, hMn, hML⟩
        rw [List.getElem?_map] at hi
        obtain ⟨ce, hce, rfl⟩ := Option.map_eq_some_iff.mp hi
        refine (exq rfl (exq rfl (exq rfl ⟨ce, p, wy, rfl, p1, by (first | lia | omega), fun t bt H5 s5 gt hbt => ?_⟩)))
        obtain ⟨ks, hM4, kl, kb⟩ := b4
        have hM5 := s5 _ _ hM4
        have t5 : Ties (p : Int) H1 L n H5 := by
          obtain ⟨a1, acc, ts, a2, a3, a4⟩ := t4
          exact ⟨a1.trans s5, acc, ts, s5 _ _ a2, Paired.imp' (fun _ _ z => z.tups s5.tups) a3, a4⟩
        obtain ⟨u, hu⟩ := Int.eq_ofNat_of_zero_le gt.a0
        obtain ⟨v, hv⟩ := Int.eq_ofNat_of_zero_le gt.b0
        have hul : u < ks.length := by have := gt.a1; (first | lia | omega)
        have hvl : v < ks.length := by have := gt.b1; (first | lia | omega)
        have hku : (natsV ks)[u]? = some (.int (ks[u] : Int)) := nats_at (List.getElem?_eq_getElem hul)
        have hkv : (natsV ks)[v]? = some (.int (ks[v] : Int)) := nats_at (List.getElem?_eq_getElem hvl)
        have iu : atI (natsV ks) t.1 = some (.int (ks[u] : Int)) := by rw [hu]; exact atI_nat hku
        have iv : atI (natsV ks) t.2.1 = some (.int (ks[v] : Int)) := by rw [hv]; exact atI_nat hkv
        have kub := kb _ (List.getElem_mem hul)
        refine (exq rfl (exq rfl (ixq (SqT.of hbt) (atI_nat (j := 0) rfl) (ixl (SqL.of hM5) (iu) (exq rfl (exq rfl (ixq (SqT.of hbt) (atI_nat (j := 1) rfl) (ixl (SqL.of hM5) (iv) ⟨rfl, ?_⟩))))))))
        obtain ⟨s05, accL, tsL, hL5, prL, alL, gdL⟩ := id t5
        have skip : D'.nx [some (.ref b), some (.int (mt : Int)), some (.int (rk : Int)), some (.int z), some (.int (p : Int)), some (.int (wy : Int)), some (.ref c1), some (.ref L), some (.ref M), some (.int f), some (.int ce), some (.ref bt), some (.bl (!decide (V.int (ks[u] : Int) = V.int (ks[v] : Int)))), v13] H5 := ⟨M, n, f, _, _, _, _, rfl, t5, hnm, ⟨ks, hM5, kl, kb⟩, hMn, hML⟩
        generalize (!decide (V.int (ks[u] : Int) = V.int (ks[v] : Int))) = jb at skip
        have put : accL.length < mt → zz4 D' [some (.ref b), some (.int (mt : Int)), some (.int (rk : Int)), some (.int z), some (.int (p : Int)), some (.int (wy : Int)), some (.ref c1), some (.ref L), some (.ref M), some (.int f), some (.int ce), some (.ref bt), some (.bl jb), v13] H5 := fun hlt => by
          obtain ⟨acc6, e6, t6⟩ : ∃ acc, H5 L = some (.lst acc) ∧ Ties (p : Int) H1 L (n + 1) (upd H5 L (.lst (acc ++ [.ref bt]))) := by
            have := t5.push hL (Same.refl _) gt hbt
            obtain ⟨acc, e1, _, e2⟩ := this
            exact ⟨acc, e1, e2⟩
          rw [hL5] at e6
          cases e6
          refine (exq rfl ⟨.inl ⟨rfl, _, SqL.of hL5⟩, exq rfl ⟨L, _, _, rfl, rfl, hL5, smallL (by (first | lia | omega)), ?_⟩⟩)
          have hM6 : upd H5 L (.lst (accL ++ [.ref bt])) M = some (.lst (natsV ks)) := by rw [upd_ne hML]; exact hM5
          have hbt6 : upd H5 L (.lst (accL ++ [.ref bt])) bt = some (.tup (tieV t)) := Tups.put hL5 _ _ hbt
          have hL6 : upd H5 L (.lst (accL ++ [.ref bt])) L = some (.lst (accL ++ [.ref bt])) := upd_same
          generalize upd H5 L (.lst (accL ++ [.ref bt])) = H6 at t6 hM6 hbt6 hL6
          refine (exq rfl (exq rfl (exq rfl (.inr (exq rfl (ijq (?_)))))))
          refine (exq rfl (exq rfl (ixq (SqT.of hbt6) (atI_nat (j := 1) rfl) (ixl (SqL.of hM6) (iv) (?_)))))
          refine (exq rfl ⟨M, rfl, ⟨_, SqL.of hM6⟩, fun M2 hM2 => comp_list (xs := natsV ks) (fun i acc H7 => Same H6 H7 ∧ H7 M2 = some (.lst acc) ∧ ∃ ks2 : List Nat, acc = natsV ks2 ∧ ks2.length = i ∧ ∀ k ∈ ks2, k < p) ⟨Same.new hM2, upd_same, [], rfl, rfl, (fun k hk => nomatch hk)⟩ (fun i acc H7 _ z => ⟨SqL.of (z.1 _ _ hM6), z.2.1, by obtain ⟨ks2, e, e2, _⟩ := z.2.2; rw [e, natsV_len, e2]; exact Nat.le_refl _⟩) (small24 (by rw [natsV_len]; (first | lia | omega))) ?_ ?_⟩)
          · rintro i x acc H7 hx ⟨s7, hM7, ks2, rfl, kl2, kb2⟩
            obtain ⟨k, hk, rfl⟩ := natsV_get hx
            have hkp := kb k (List.mem_of_getElem? hk)
            refine ⟨rfl, exq rfl (exq rfl (exq rfl (ixq (SqT.of (s7 _ _ hbt6)) (atI_nat (j := 0) rfl) (ixl (SqL.of (s7 _ _ hM6)) (iu) ⟨dl rfl, fun l hl => ?_⟩))))⟩
            have s8 : Same H7 (upd H7 l (.lst [.int (k : Int), .int (ks[u] : Int)])) := Same.new hl
            have hl8 : upd H7 l (.lst [.int (k : Int), .int (ks[u] : Int)]) l = some (.lst [.int (k : Int), .int (ks[u] : Int)]) := upd_same
            generalize upd H7 l (.lst [.int (k : Int), .int (ks[u] : Int)]) = H8 at s8 hl8
            refine (exq rfl (exq rfl ⟨rfl, .inr (exq rfl (?_))⟩))
            have nxt : ∀ k' : Nat, k' < p → H8 M2 = some (.lst (natsV ks2)) ∧ Same H6 (upd H8 M2 (.lst (natsV ks2 ++ [.int (k' : Int)]))) ∧ upd H8 M2 (.lst (natsV ks2 ++ [.int (k' : Int)])) M2 = some (.lst (natsV ks2 ++ [.int (k' : Int)])) ∧ ∃ ks3 : List Nat, natsV ks2 ++ [.int (k' : Int)] = natsV ks3 ∧ ks3.length = i + 1 ∧ ∀ k ∈ ks3, k < p := fun k' hk' => by
              refine ⟨s8 _ _ hM7, (s7.trans s8).put hM2, upd_same, ks2 ++ [k'], (natsV_snoc ks2 k').symm, by rw [List.length_append, kl2]; rfl, fun x hx => ?_⟩
              rcases List.mem_append.mp hx with hx | hx
              · exact kb2 x hx
              · have e : x = k' := by simpa using hx
                (first | lia | omega)
            cases hd : decide (V.int (k : Int) = V.int (ks[v] : Int)) with
            | true => exact (ixl (SqL.of hl8) (atI_nat (j := 1) rfl) (nxt _ kub))
            | false => exact (ixl (SqL.of hl8) (atI_nat (j := 0) rfl) (nxt _ hkp))
          · rintro acc H7 ⟨s7, hM7, ks2, rfl, kl2, kb2⟩
            rw [natsV_len, kl] at kl2
            refine ⟨M2, n + 1, _, _, _, _, _, rfl, ?_, by (first | lia | omega), ⟨ks2, hM7, kl2, kb2⟩, t6.1.free hM2, fun e => ?_⟩
            · obtain ⟨a1, acc, ts, a2, a3, a4⟩ := t6
              exact ⟨a1.trans s7, acc, ts, s7 _ _ a2, Paired.imp' (fun _ _ z => z.tups s7.tups) a3, a4⟩
            · rw [e, hL6] at hM2
              cases hM2
        refine (exq rfl (lnq rfl (.inl (SqL.of hL5)) (exq rfl (ijq (exq rfl (ite2 (fun h1 => ?_) (fun _ => skip)))))))
        have h1 : (accL.length : Int) < (mt : Int) := of_decide_eq_true h1
        refine (exq rfl (exq rfl (?_)))
        cases jb with
        | true => exact iteT (put (by (first | lia | omega)))
        | false => exact iteF (exq rfl (exq rfl (ijq (exq rfl (ite2 (fun _ => put (by (first | lia | omega))) (fun _ => skip))))))
      · rintro σ H4 ⟨M, n, f, v10, v11, v12, v13, rfl, t4, hnm, b4, hMn, hML⟩
        obtain ⟨acc, ts, hL4, hl4, gd, mk⟩ := t4.fin
        refine (exq rfl (exq rfl ⟨L, _, rfl, .inl ⟨SqL.of hL4, fun l hl => ⟨dl rfl, fun w hw => ?_⟩⟩⟩))
        obtain ⟨sm, hwb⟩ := mk l hl w hw
        exact q w p ts _ (s1.trans sm) ⟨by (first | lia | omega), by (first | lia | omega), by (first | lia | omega), gd⟩ p1 p2 (by (first | lia | omega)) hwb
    refine (exq rfl (ijq ⟨⟨by decide, by decide⟩, ijq ⟨(modC rfl), rfl, exq rfl (ite2 (fun _ => ?_) (fun _ => cont c ms _ (Same.new hc) upd_same))⟩⟩))
    have s1 : Same H (upd H c (.lst (ms.map V.int))) := Same.new hc
    generalize upd H c (.lst (ms.map V.int)) = H1 at s1
    refine (exq rfl (exq rfl ⟨b, _, rfl, s1.seq hS, fun c3 hc3 => ?_⟩))
    rw [hcut]
    have s2 : Same H1 (upd H1 c3 (.lst (ms.map V.int))) := Same.new hc3
    have hc2 : upd H1 c3 (.lst (ms.map V.int)) c3 = some (.lst (ms.map V.int)) := upd_same
    generalize upd H1 c3 (.lst (ms.map V.int)) = H2 at s2 hc2
    refine ⟨c3, rfl, ⟨_, SqL.of hc2⟩, fun D hD => comp_enumL (xs := ms.map V.int) (fun i acc H3 => Same H2 H3 ∧ H3 D = some (.lst acc) ∧ ∃ ms2 : List Int, acc = ms2.map V.int ∧ ms2.length = i) ⟨Same.new hD, upd_same, [], rfl, rfl⟩ (fun i acc H3 _ z => ⟨SqL.of (z.1 _ _ hc2), z.2.1, by obtain ⟨ms2, e, e2⟩ := z.2.2; rw [e, List.length_map, e2]; exact Nat.le_refl _⟩) (Nat.le_of_lt (smallL (by rw [List.length_map]; (first | lia | omega)))) ?_ ?_⟩
    · rintro i x T0 acc H3 hx ⟨s3, hD3, ms2, rfl, ml2⟩ hT
      rw [List.getElem?_map] at hx
      obtain ⟨ce, hce, rfl⟩ := Option.map_eq_some_iff.mp hx
      have hil := (List.getElem?_eq_some_iff.mp hce).1
      refine ⟨T0, _, rfl, SqT.of upd_same, rfl, _, _, rfl, _, _, rfl, rfl, rfl, exq rfl (exq rfl ⟨ce, (i : Int), rfl, by (first | lia | omega), by (first | lia | omega), fun y _ _ => ?_⟩)⟩
      have s4 : Same H3 (upd H3 T0 (.tup [.int (i : Int), .int ce])) := Same.new hT
      exact ⟨s4 _ _ hD3, (s3.trans s4).put hD, upd_same, ms2 ++ [y], by rw [List.map_append]; rfl, by rw [List.length_append, ml2]; rfl⟩
    · rintro acc H3 ⟨s3, hD3, ms2, rfl, ml2⟩
      rw [List.length_map] at ml2
      refine (exq rfl ⟨.inl ⟨rfl, _, SqL.of hD3⟩, exq rfl ⟨(by decide), (by decide), fun D2 hD2 => comp_range (lo := 0) (m := 5) (fun i acc H4 => Same H3 H4 ∧ H4 D2 = some (.lst acc) ∧ ∃ ms3 : List Int, acc = ms3.map V.int ∧ ms3.length = i) ⟨Same.new hD2, upd_same, [], rfl, rfl⟩ (fun i acc H4 _ z => ⟨z.2.1, by obtain ⟨ms2, e, e2⟩ := z.2.2; rw [e, List.length_map, e2]; exact Nat.le_refl _⟩) (small24 (by decide)) ?_ ?_⟩⟩)
      · rintro i acc H4 hi ⟨s4, hD4, ms3, rfl, ml3⟩
        rw [Int.zero_add]
        exact ⟨rfl, exq rfl (exq rfl (ijq ⟨z, _, rfl, by (first | lia | omega), by (first | lia | omega), fun y _ _ => ⟨hD4, s4.put hD2, upd_same, ms3 ++ [y], by rw [List.map_append]; rfl, by rw [List.length_append, ml3]; rfl⟩⟩))⟩
      · rintro acc H4 ⟨s4, hD4, ms3, rfl, ml3⟩
        have hD4' := s4 _ _ hD3
        refine ⟨D, D2, _, _, rfl, rfl, hD4', hD4, dl (Nat.ble_eq.mpr (by rw [List.length_map, List.length_map]; (first | lia | omega))), ?_⟩
        refine cont D (ms2 ++ ms3) _ ?_ ?_
        · exact (((s1.trans s2).trans (s3.trans s4))).put ((s1.trans s2).free hD)
        · rw [upd_same, List.map_append]
end

def sp_counts : Sp := fun vs H Q _ => ∃ w p ts, ∃ g : GoodWeb p ts, ∃ (S : Int) (m : Nat), vs = [.ref w, .int S] ∧ S = (m : Int) ∧ WebAt H w p ts ∧ m < 2 ^ ts.length ∧ ∀ D H', Same H H' → H' D = some (.lst (mapV (fun x => (netOf p ts g).dg m x) p)) → Q (.ref D) H'
def sp_lpieces : Sp := fun vs H Q _ => ∃ w p ts, ∃ g : GoodWeb p ts, ∃ (S : Int) (m : Nat), vs = [.ref w, .int S] ∧ S = (m : Int) ∧ WebAt H w p ts ∧ m < 2 ^ ts.length ∧ ∀ H', Same H H' → Q (.int ((RM.cnt ((netOf p ts g).root (fun k => m.testBit k) ts.length) p : Nat) : Int)) H'
def sp_lring : Sp := fun vs H Q _ => ∃ w p ts, ∃ g : GoodWeb p ts, ∃ (S : Int) (m : Nat), vs = [.ref w, .int S] ∧ S = (m : Int) ∧ WebAt H w p ts ∧ m < 2 ^ ts.length ∧ ∀ H' (d : Bool), Same H H' → (d = true ↔ (netOf p ts g).Ring m) → Q (.bl d) H'
theorem dg_put {N : RM.Net} {m x : Nat} (k : Nat) : RM.cnt (fun j => m.testBit j && N.inc j x) (k + 1) = RM.cnt (fun j => m.testBit j && N.inc j x) k + if (m.testBit k && N.inc k x) = true then 1 else 0 := rfl
theorem in_two (x u v : Nat) : inV (.int (x : Int)) [.int (u : Int), .int (v : Int)] = decide (u = x ∨ v = x) := by
  have e : ([.int (u : Int), .int (v : Int)] : List V) = natsV [u, v] := rfl
  rw [e, inV_nats]
  refine decide_eq_decide.mpr ?_
  simp [eq_comm]
theorem mapV_set {f : Nat → Nat} {n u v : Nat} : (mapV f n).set u (.int (v : Int)) = mapV (fun x => if x = u then v else f x) n := by
  unfold mapV
  refine List.ext_getElem? fun i => ?_
  rw [List.getElem?_set, List.getElem?_map]
  by_cases e : u = i
  · subst e
    rw [if_pos rfl, List.length_map, List.length_range]
    by_cases h : u < n
    · rw [if_pos h, List.getElem?_map, List.getElem?_range h]
      simp
    · rw [if_neg h, List.getElem?_map, List.getElem?_eq_none (by rw [List.length_range]; (first | lia | omega))]
      rfl
  · rw [if_neg e, List.getElem?_map]
    by_cases h : i < n
    · rw [List.getElem?_range h]
      simp [show ¬ i = u from fun z => e z.symm]
    · rw [List.getElem?_eq_none (by rw [List.length_range]; (first | lia | omega))]
      rfl
theorem met_congr {f g : Nat → Int} {n : Nat} (h : ∀ i, i < n → f i = g i) : PyProof.Rows.firstMet f n = PyProof.Rows.firstMet g n := by
  unfold PyProof.Rows.firstMet
  rw [List.map_congr_left fun i hi => h i (List.mem_range.mp hi)]
section
variable {P : Program} {w : World} {K : PySem.W.Frag} {mg : Str → Option Value} {base : Heap} {a : Adr}
theorem G_law_counts (T : Txt K mg a) : FnOk P w K mg base CX0 1 a.f_law_counts a.d_law_counts ["web", "some"] sp_counts := by
  refine T.F_law_counts.ok sc_law_counts (fun vs H Q E h => ?_) (fun cdv A outer s H vs Q E hr h => ?_)
  · obtain ⟨w, p, ts, g, S, m, rfl, _⟩ := h
    rfl
  · obtain ⟨wb, p, ts, g, S, m, rfl, rfl, hw, hm, q⟩ := h
    refine ⟨_, (@pss_cons _ _ _ _ _ (@ps_set _ _ 2 _ _ _ _ sc_law_counts.nd rfl (Or.inl rfl) (@pe_op _ _ _ _ _ _ _ _ op_rep (@pe_lst _ _ _ _ (@pa_cons _ _ _ _ _ pe_int pa_nil (by rfl))) (@pe_ix _ _ _ _ _ _ _ (ixT K) (pv 0) pe_int (fun _ _ => rfl))) (by rfl) (by first | exact .inl rfl | exact .inr rfl | assumption)) (@pss_cons _ _ _ _ _ (@ps_for _ _ _ _ _ _ _ _ PassesOwn.never rfl (@pi_range1 _ _ _ _ _ _ (by rfl) T.n_range (@pa_cons _ _ _ _ _ (@pe_callB _ _ _ _ _ _ _ _ _ (lenK K) (by rfl) T.n_len PySem.boot_len (@pa_cons _ _ _ _ _ (@pe_ix _ _ _ _ _ _ _ (ixT K) (pv 0) pe_int (fun _ _ => rfl)) pa_nil (by rfl)) (by decide) (by decide) (by rfl) (by rfl)) pa_nil (by rfl)) (by rfl)) (pg_name (i := 3) sc_law_counts.nd rfl (Or.inl rfl)) (@pss_one _ _ _ (@ps_if _ _ _ _ _ _ _ _ (@pt_cmpR _ _ _ _ _ _ _ _ op_eq (@pe_op _ _ _ _ _ _ _ _ op_mod (@pe_op _ _ _ _ _ _ _ _ op_shr (pv 1) (pv 3)) pe_int) pe_int (nomark _)) (@pss_cons _ _ _ _ _ (@ps_asg _ _ _ _ _ _ (@pe_op _ _ _ _ _ _ _ _ op_add (@pe_ix _ _ _ _ _ _ _ (ixL K) (pv 2) (@pe_ix _ _ _ _ _ _ _ (ixT K) (@pe_ix _ _ _ _ _ _ _ (ixT K) (@pe_ix _ _ _ _ _ _ _ (ixT K) (pv 0) pe_int (fun _ _ => rfl)) (pv 3) (fun _ _ => rfl)) pe_int (fun _ _ => rfl)) (fun _ _ => rfl)) pe_int) (@pg_sub _ _ _ _ _ _ _ (pv 2) (@pe_ix _ _ _ _ _ _ _ (ixT K) (@pe_ix _ _ _ _ _ _ _ (ixT K) (@pe_ix _ _ _ _ _ _ _ (ixT K) (pv 0) pe_int (fun _ _ => rfl)) (pv 3) (fun _ _ => rfl)) pe_int (fun _ _ => rfl)) set_list (by intro _; rfl)) (by rfl) (by rfl) (by rfl)) (@pss_one _ _ _ (@ps_asg _ _ _ _ _ _ (@pe_op _ _ _ _ _ _ _ _ op_add (@pe_ix _ _ _ _ _ _ _ (ixL K) (pv 2) (@pe_ix _ _ _ _ _ _ _ (ixT K) (@pe_ix _ _ _ _ _ _ _ (ixT K) (@pe_ix _ _ _ _ _ _ _ (ixT K) (pv 0) pe_int (fun _ _ => rfl)) (pv 3) (fun _ _ => rfl)) pe_int (fun _ _ => rfl)) (fun _ _ => rfl)) pe_int) (@pg_sub _ _ _ _ _ _ _ (pv 2) (@pe_ix _ _ _ _ _ _ _ (ixT K) (@pe_ix _ _ _ _ _ _ _ (ixT K) (@pe_ix _ _ _ _ _ _ _ (ixT K) (pv 0) pe_int (fun _ _ => rfl)) (pv 3) (fun _ _ => rfl)) pe_int (fun _ _ => rfl)) set_list (by intro _; rfl)) (by rfl) (by rfl) (by rfl)))) pss_nil)) (by intro _; rfl)) (@pss_one _ _ _ (@ps_ret _ _ _ _ (pv 2))))), ?_⟩
    refine hd_law_counts ?_
    intro zz0 zz1 zz2 zz3 zz4
    obtain ⟨bt, xs, h1, h2, h3⟩ := id hw.ex
    have hxl := h3.length
    have wl := g.len
    have wp := g.p2
    refine ⟨dl rfl, fun c hc => ?_⟩
    have s1 : Same H (upd H c (.lst [.int 0])) := Same.new hc
    have hc1 : upd H c (.lst [.int 0]) c = some (.lst [.int 0]) := upd_same
    generalize upd H c (.lst [.int 0]) = H1 at s1 hc1
    refine (exq rfl (ixq (SqT.of (s1 _ _ h1)) (atI_nat (j := 0) rfl) ⟨c, (p : Int), exq rfl ⟨rfl, hc1, by (first | lia | omega), by (first | lia | omega), (by rw [Int.toNat_natCast]; show 1 * p ≤ sizeLine; exact dl (Nat.ble_eq.mpr (by (first | lia | omega)))), fun e he => ?_⟩⟩))
    have heH : H e = none := s1.free he
    have s2 := s1.trans (Same.new (o := .lst (List.replicate (p : Int).toNat [V.int 0]).flatten) he)
    have he2 : upd H1 e (.lst (List.replicate (p : Int).toNat [V.int 0]).flatten) e = some (.lst (mapV (fun _ => 0) p)) := by
      rw [upd_same, Int.toNat_natCast, rep_mapV]
    generalize upd H1 e (.lst (List.replicate (p : Int).toNat [V.int 0]).flatten) = H2 at s2 he2
    refine (exq rfl (ixq (SqT.of (s2 _ _ h1)) (atI_nat (j := 1) rfl) (lnq rfl (.inr (SqT.of (s2 _ _ h2))) (exq rfl ⟨(by (first | lia | omega)), (by (first | lia | omega)), ?_⟩))))
    refine for_range' (lo := 0) (n := (xs.length : Int).toNat) (fun k σ H3 => ∃ v3, σ = [some (.ref wb), some (.int (m : Int)), some (.ref e), v3] ∧ Same H H3 ∧ H3 e = some (.lst (mapV (fun x => RM.cnt (fun j => m.testBit j && (netOf p ts g).inc j x) k) p))) ⟨none, rfl, s2, he2⟩ ?_ ?_
    · rintro k D' σ H3 hk ⟨v3, rfl, s3, he3⟩
      rw [Int.toNat_natCast] at hk
      rw [Int.zero_add]
      have hkl : k < ts.length := by (first | lia | omega)
      obtain ⟨ct, ex, hct⟩ := tie_in (g := g) h3 hkl
      have ha : (netOf p ts g).a k < p := (netOf p ts g).al k hkl
      have hb : (netOf p ts g).b k < p := (netOf p ts g).bl k hkl
      have ne : (netOf p ts g).a k ≠ (netOf p ts g).b k := (netOf p ts g).ne k hkl
      refine (exq rfl (exq rfl (ijq ⟨(by (first | lia | omega)), ijq ⟨(modC rfl), rfl, exq rfl (?_)⟩⟩)))
      rw [Int.toNat_natCast, bit_eq, bit_nat]
      cases hbit : m.testBit k with
      | false =>
        refine iteF (exq rfl ⟨s3, ?_⟩)
        rw [he3]
        congr 2
        refine mapV_congr fun x _ => ?_
        rw [dg_put, hbit]
        rfl
      | true =>
        generalize hF : (fun x => RM.cnt (fun j => m.testBit j && (netOf p ts g).inc j x) k) = F at he3
        refine iteT (exq rfl (exq rfl (ixq (SqT.of (s3 _ _ h1)) (atI_nat (j := 1) rfl) (exq rfl (ixq (SqT.of (s3 _ _ h2)) (atI_nat (j := k) ex) (ixq (SqT.of (s3 _ _ hct)) (atI_nat (j := 0) rfl) (ixl (SqL.of he3) (atI_nat (mapV_get ha)) (ijq (?_)))))))))
        refine (exq rfl (exq rfl (ixq (SqT.of (s3 _ _ h1)) (atI_nat (j := 1) rfl) (exq rfl (ixq (SqT.of (s3 _ _ h2)) (atI_nat (j := k) ex) (ixq (SqT.of (s3 _ _ hct)) (atI_nat (j := 0) rfl) ⟨e, _, _, (netOf p ts g).a k, rfl, rfl, he3, ixN_nat (by rw [mapV_len]; exact ha), ?_⟩))))))
        have e4 : (mapV F p).set ((netOf p ts g).a k) (.int ((F ((netOf p ts g).a k) : Nat) + 1 : Int)) = mapV (fun x => if x = (netOf p ts g).a k then F ((netOf p ts g).a k) + 1 else F x) p := by
          rw [← mapV_set]
          rfl
        dsimp only
        rw [e4]
        have s4 : Same H (upd H3 e (.lst (mapV (fun x => if x = (netOf p ts g).a k then F ((netOf p ts g).a k) + 1 else F x) p))) := s3.put heH
        have he4 : upd H3 e (.lst (mapV (fun x => if x = (netOf p ts g).a k then F ((netOf p ts g).a k) + 1 else F x) p)) e = _ := upd_same
        generalize upd H3 e (.lst (mapV (fun x => if x = (netOf p ts g).a k then F ((netOf p ts g).a k) + 1 else F x) p)) = H4 at s4 he4
        generalize hF2 : (fun x => if x = (netOf p ts g).a k then F ((netOf p ts g).a k) + 1 else F x) = F2 at he4
        refine (exq rfl (exq rfl (ixq (SqT.of (s4 _ _ h1)) (atI_nat (j := 1) rfl) (exq rfl (ixq (SqT.of (s4 _ _ h2)) (atI_nat (j := k) ex) (ixq (SqT.of (s4 _ _ hct)) (atI_nat (j := 1) rfl) (ixl (SqL.of he4) (atI_nat (mapV_get hb)) (ijq (?_)))))))))
        refine (exq rfl (exq rfl (ixq (SqT.of (s4 _ _ h1)) (atI_nat (j := 1) rfl) (exq rfl (ixq (SqT.of (s4 _ _ h2)) (atI_nat (j := k) ex) (ixq (SqT.of (s4 _ _ hct)) (atI_nat (j := 1) rfl) ⟨e, _, _, (netOf p ts g).b k, rfl, rfl, he4, ixN_nat (by rw [mapV_len]; exact hb), ?_⟩))))))
        refine (exq rfl ⟨s4.put heH, ?_⟩)
        rw [upd_same]
        have e5 : (mapV F2 p).set ((netOf p ts g).b k) (.int ((F2 ((netOf p ts g).b k) : Nat) + 1 : Int)) = mapV (fun x => if x = (netOf p ts g).b k then F2 ((netOf p ts g).b k) + 1 else F2 x) p := by
          rw [← mapV_set]
          rfl
        dsimp only
        rw [e5]
        congr 2
        refine mapV_congr fun x _ => ?_
        rw [dg_put, hbit, Bool.true_and, show RM.cnt (fun j => m.testBit j && (netOf p ts g).inc j x) k = F x from congrFun hF x]
        unfold RM.Net.inc
        have f2 : ∀ y, F2 y = if y = (netOf p ts g).a k then F ((netOf p ts g).a k) + 1 else F y := fun y => (congrFun hF2 y).symm
        by_cases e1 : x = (netOf p ts g).b k
        · rw [if_pos e1, f2, if_neg (fun z : (netOf p ts g).b k = (netOf p ts g).a k => ne z.symm), e1, decide_eq_false ne, decide_eq_true rfl]
          rfl
        · rw [if_neg e1, f2, decide_eq_false (fun z : (netOf p ts g).b k = x => e1 z.symm), Bool.xor_false]
          by_cases e2 : x = (netOf p ts g).a k
          · rw [if_pos e2, e2, decide_eq_true rfl]
            rfl
          · rw [if_neg e2, decide_eq_false (fun z : (netOf p ts g).a k = x => e2 z.symm)]
            rfl
    · rintro σ H3 ⟨v3, rfl, s3, he3⟩
      rw [Int.toNat_natCast, hxl] at he3
      exact (exq rfl (q e H3 s3 he3))
theorem G_law_pieces (T : Txt K mg a) : FnOk P w K mg base CX0 1 a.f_law_pieces a.d_law_pieces ["web", "some"] sp_lpieces := by
  refine T.F_law_pieces.ok sc_law_pieces (fun vs H Q E h => ?_) (fun cdv A outer s H vs Q E hr h => ?_)
  · obtain ⟨w, p, ts, g, S, m, rfl, _⟩ := h
    rfl
  · obtain ⟨wb, p, ts, g, S, m, rfl, rfl, hw, hm, q⟩ := h
    refine ⟨_, (@pss_cons _ _ _ _ _ (@ps_set _ _ 2 _ _ _ _ sc_law_pieces.nd rfl (Or.inr rfl) (@pe_comp _ _ _ _ _ _ _ ["point"] [] [] _ _ _ _ (compText_of (defScope s_law_pieces) ["web", "some", "marks", "k", "old"]) rfl (@pi_range1 _ _ _ _ _ _ (by rfl) T.n_range (@pa_cons _ _ _ _ _ (@pe_ix _ _ _ _ _ _ _ (ixT K) (pv 0) pe_int (fun _ _ => rfl)) pa_nil (by rfl)) (by rfl)) (fun _ _ _ _ => (pg_name (i := 0) (show (["point"] : List Str).Nodup by decide +kernel) rfl (Or.inl rfl))) (fun _ _ _ _ => pts_nil) (fun _ _ _ _ => (pv 0)) (by intro _; rfl)) (by rfl) (by first | exact .inl rfl | exact .inr rfl | assumption)) (@pss_cons _ _ _ _ _ (@ps_for _ _ _ _ _ _ _ _ PassesOwn.never rfl (@pi_range1 _ _ _ _ _ _ (by rfl) T.n_range (@pa_cons _ _ _ _ _ (@pe_callB _ _ _ _ _ _ _ _ _ (lenK K) (by rfl) T.n_len PySem.boot_len (@pa_cons _ _ _ _ _ (@pe_ix _ _ _ _ _ _ _ (ixT K) (pv 0) pe_int (fun _ _ => rfl)) pa_nil (by rfl)) (by decide) (by decide) (by rfl) (by rfl)) pa_nil (by rfl)) (by rfl)) (pg_name (i := 3) sc_law_pieces.nd rfl (Or.inr rfl)) (@pss_one _ _ _ (@ps_if _ _ _ _ _ _ _ _ (@pt_cmpR _ _ _ _ _ _ _ _ op_eq (@pe_op _ _ _ _ _ _ _ _ op_mod (@pe_op _ _ _ _ _ _ _ _ op_shr (pv 1) (pv 3)) pe_int) pe_int (nomark _)) (@pss_cons _ _ _ _ _ (@ps_set _ _ 4 _ _ _ _ sc_law_pieces.nd rfl (Or.inr rfl) (@pe_ix _ _ _ _ _ _ _ (ixL K) (pv 2) (@pe_ix _ _ _ _ _ _ _ (ixT K) (@pe_ix _ _ _ _ _ _ _ (ixT K) (@pe_ix _ _ _ _ _ _ _ (ixT K) (pv 0) pe_int (fun _ _ => rfl)) (pv 3) (fun _ _ => rfl)) pe_int (fun _ _ => rfl)) (fun _ _ => rfl)) (by rfl) (by first | exact .inl rfl | exact .inr rfl | assumption)) (@pss_one _ _ _ (@ps_set _ _ 2 _ _ _ _ sc_law_pieces.nd rfl (Or.inr rfl) (@pe_comp _ _ _ _ _ _ _ ["mark"] ["web", "marks", "k", "old"] [0, 2, 3, 4] _ _ _ _ (compText_of (defScope s_law_pieces) ["web", "some", "marks", "k", "old"]) rfl (@piL _ _ _ _ K (pv 2) (by rfl)) (fun _ _ _ _ => (pg_name (i := 0) (show (["mark", "web", "marks", "k", "old"] : List Str).Nodup by decide +kernel) rfl (Or.inl rfl))) (fun _ _ _ _ => pts_nil) (fun _ _ _ _ => (pe_ix (ixL K) (pe_lst (pa_cons (pv 0) (pa_cons (pe_ix (ixL K) (pv 2) (pe_ix (ixT K) (pe_ix (ixT K) (pe_ix (ixT K) (pv 1) pe_int (fun _ _ => rfl)) (pv 3) (fun _ _ => rfl)) pe_int (fun _ _ => rfl)) (fun _ _ => rfl)) pa_nil))) (pe_callTy call_int1 (by rfl) T.n_int PyProof.Rows.boot_int (pa_cons (pe_cmpR op_eq (pv 0) (pv 4) (nomark _)) pa_nil)) (fun _ _ => rfl))) (by intro _; rfl)) (by rfl) (by first | exact .inl rfl | exact .inr rfl | assumption)))) pss_nil)) (by intro _; rfl)) (@pss_one _ _ _ (@ps_ret _ _ _ _ (@pe_callB _ _ _ _ _ _ _ _ _ lenSet (by rfl) T.n_len PySem.boot_len (@pa_cons _ _ _ _ _ (@pe_callTy _ _ _ _ _ _ _ _ _ (setL K rfl) (by rfl) T.n_set PyProof.Rows.boot_set (@pa_cons _ _ _ _ _ (pv 2) pa_nil (by rfl)) (by decide) (by decide) (by rfl) (by rfl)) pa_nil (by rfl)) (by decide) (by decide) (by rfl) (by rfl)))))), ?_⟩
    refine hd_law_pieces ?_
    intro zz0 zz1 zz2 zz3 zz4
    obtain ⟨bt, xs, h1, h2, h3⟩ := id hw.ex
    have hxl := h3.length
    have wl := g.len
    have wp := g.p2
    refine (exq rfl (ixq (SqT.of h1) (atI_nat (j := 0) rfl) (exq rfl ⟨(by (first | lia | omega)), (by (first | lia | omega)), fun M hM => comp_range (lo := 0) (m := p) (Mapd (fun x => x) H M) (.start hM) (fun i acc H3 _ pd => pd.len) (small24 (by (first | lia | omega))) ?_ ?_⟩)))
    · intro i acc H3 hi pd
      rw [Int.zero_add]
      exact ⟨rfl, exq rfl (pd.next hM (Same.refl _) rfl)⟩
    intro acc H1 pd
    have hM1 : H1 M = some (.lst (mapV (fun x => x) p)) := by rw [pd.2.1, pd.2.2]
    have s1 := pd.1
    clear pd
    refine (exq rfl (ixq (SqT.of (s1 _ _ h1)) (atI_nat (j := 1) rfl) (lnq rfl (.inr (SqT.of (s1 _ _ h2))) (exq rfl ⟨(by (first | lia | omega)), (by (first | lia | omega)), ?_⟩))))
    refine for_range' (lo := 0) (n := (xs.length : Int).toNat) (fun k σ H3 => ∃ M v3 v4 L, σ = [some (.ref wb), some (.int (m : Int)), some (.ref M), v3, v4] ∧ Same H H3 ∧ H3 M = some (.lst (mapV L p)) ∧ RM.RelS (netOf p ts g) (fun k => m.testBit k) L k) ⟨M, none, none, _, rfl, s1, hM1, RM.RelS.start⟩ ?_ ?_
    · rintro k D' σ H3 hk ⟨M, v3, v4, L, rfl, s3, hM3, rel⟩
      rw [Int.toNat_natCast] at hk
      rw [Int.zero_add]
      have hkl : k < ts.length := by (first | lia | omega)
      obtain ⟨ct, ex, hct⟩ := tie_in (g := g) h3 hkl
      have ha : (netOf p ts g).a k < p := (netOf p ts g).al k hkl
      have hb : (netOf p ts g).b k < p := (netOf p ts g).bl k hkl
      refine (exq rfl (exq rfl (ijq ⟨(by (first | lia | omega)), ijq ⟨(modC rfl), rfl, exq rfl (?_)⟩⟩)))
      rw [Int.toNat_natCast, bit_eq, bit_nat]
      cases hbit : m.testBit k with
      | false => exact iteF ⟨M, _, _, L, rfl, s3, hM3, rel.skip hbit⟩
      | true =>
        refine iteT (exq rfl (exq rfl (ixq (SqT.of (s3 _ _ h1)) (atI_nat (j := 1) rfl) (exq rfl (ixq (SqT.of (s3 _ _ h2)) (atI_nat (j := k) ex) (ixq (SqT.of (s3 _ _ hct)) (atI_nat (j := 1) rfl) (ixl (SqL.of hM3) (atI_nat (mapV_get hb)) (?_))))))))
        refine (exq rfl ⟨M, rfl, ⟨_, SqL.of hM3⟩, fun M2 hM2 => comp_list (xs := mapV L p) (Mapd (RM.mrg L ((netOf p ts g).a k) ((netOf p ts g).b k)) H3 M2) (.start hM2) (fun i acc H4 _ pd => ⟨SqL.of (pd.1 _ _ hM3), pd.len⟩) (by rw [mapV_len]; exact dl (Nat.ble_eq.mpr (by (first | lia | omega)))) ?_ ?_⟩)
        · intro i x acc H4 hx pd
          obtain ⟨hi, rfl⟩ := mapV_of hx
          have s4 := s3.trans pd.1
          refine ⟨rfl, exq rfl (exq rfl (exq rfl (ixq (SqT.of (s4 _ _ h1)) (atI_nat (j := 1) rfl) (exq rfl (ixq (SqT.of (s4 _ _ h2)) (atI_nat (j := k) ex) (ixq (SqT.of (s4 _ _ hct)) (atI_nat (j := 0) rfl) (ixl (SqL.of (pd.1 _ _ hM3)) (atI_nat (mapV_get ha)) ⟨dl rfl, fun l hl => ?_⟩)))))))⟩
          refine (exq rfl (exq rfl ⟨rfl, .inr (exq rfl (?_))⟩))
          rw [dec_nat]
          by_cases e : L i = L ((netOf p ts g).b k)
          · rw [decide_eq_true e]
            exact (ixl (SqL.of upd_same) (atI_nat (j := 1) rfl) (pd.next hM2 (Same.new hl) (by unfold RM.mrg; rw [if_pos e])))
          · rw [decide_eq_false e]
            exact (ixl (SqL.of upd_same) (atI_nat (j := 0) rfl) (pd.next hM2 (Same.new hl) (by unfold RM.mrg; rw [if_neg e])))
        · intro acc H4 pd
          rw [mapV_len] at pd
          exact ⟨M2, _, _, _, rfl, s3.trans pd.1, by rw [pd.2.1, pd.2.2], rel.put hkl hbit⟩
    · rintro σ H3 ⟨M, v3, v4, L, rfl, s3, hM3, rel⟩
      rw [Int.toNat_natCast, hxl] at rel
      have ens : mapV L p = ((List.range p).map fun x => ((L x : Nat) : Int)).map V.int := by
        unfold mapV
        rw [List.map_map]
        rfl
      refine (exq rfl ⟨M, (List.range p).map (fun x => ((L x : Nat) : Int)), rfl, SqL.of (by rw [hM3, ens]), by rw [List.length_map, List.length_range]; (first | lia | omega), fun l S hl => ⟨l, S, _, rfl, upd_same, ?_⟩⟩)
      rw [List.length_map, List.length_range, met_congr (g := fun i => ((L i : Nat) : Int)) (fun i hi => by rw [List.getD_eq_getElem?_getD, List.getElem?_map, List.getElem?_range hi]; rfl)]
      have e := RM.rel_cnt (N := netOf p ts g) (L := L) rel
      have e : (PyProof.Rows.firstMet (fun i => ((L i : Nat) : Int)) p).length = _ := e
      rw [e]
      exact q _ (s3.trans (Same.new hl))
theorem G_law_ring (T : Txt K mg a) : FnOk P w K mg base CX0 2 a.f_law_ring a.d_law_ring ["web", "some"] sp_lring := by
  have G_law_pieces : FnOk P w K mg base CX0 1 a.f_law_pieces a.d_law_pieces ["web", "some"] sp_lpieces := G_law_pieces T
  have G_law_counts : FnOk P w K mg base CX0 1 a.f_law_counts a.d_law_counts ["web", "some"] sp_counts := G_law_counts T
  refine T.F_law_ring.ok sc_law_ring (fun vs H Q E h => ?_) (fun cdv A outer s H vs Q E hr h => ?_)
  · obtain ⟨w, p, ts, g, S, m, rfl, _⟩ := h
    rfl
  · obtain ⟨wb, p, ts, g, S, m, rfl, rfl, hw, hm, q⟩ := h
    refine ⟨_, (@pss_cons _ _ _ _ _ (@ps_set _ _ 2 _ _ _ _ sc_law_ring.nd rfl (Or.inl rfl) (@pe_call _ _ _ _ _ _ _ _ _ _ _ _ _ _ _ _ G_law_counts (hr.mono (by decide)) (by rfl) T.m_law_counts T.k_law_counts T.b_law_counts .nil pass0 (@pa_cons _ _ _ _ _ (pv 0) (@pa_cons _ _ _ _ _ (pv 1) pa_nil (by rfl)) (by rfl)) (by decide) (by rfl) (by rfl)) (by rfl) (by first | exact .inl rfl | exact .inr rfl | assumption)) (@pss_cons _ _ _ _ _ (@ps_if _ _ _ _ _ _ _ _ (PW.pt (@pw_or _ _ _ _ _ _ _ (@pt_cmpR _ _ _ _ _ _ _ _ op_le (pv 1) pe_int (nomark _)) (@pw_or1 _ _ _ _ (@pt_cmpR _ _ _ _ _ _ _ _ op_gt (@pe_callB _ _ _ _ _ _ _ _ _ (lenK K) (by rfl) T.n_len PySem.boot_len (@pa_cons _ _ _ _ _ (@pe_comp _ _ _ _ _ _ _ ["count"] [] [] _ _ _ _ (compText_of (defScope s_law_ring) ["web", "some", "counts"]) rfl (@piL _ _ _ _ K (pv 2) (by rfl)) (fun _ _ _ _ => (pg_name (i := 0) (show (["count"] : List Str).Nodup by decide +kernel) rfl (Or.inl rfl))) (fun _ _ _ _ => (pts_one (pt_cmpR (notInK K) (pv 0) (pe_tup (pa_cons pe_int (pa_cons pe_int pa_nil))) (by with_unfolding_all rfl)))) (fun _ _ _ _ => (pv 0)) (by intro _; rfl)) pa_nil (by rfl)) (by decide) (by decide) (by rfl) (by rfl)) pe_int (nomark _))))) (@pss_one _ _ _ (@ps_ret _ _ _ _ pe_bl)) pss_nil) (@pss_one _ _ _ (@ps_ret _ _ _ _ (@pe_cmpR _ _ _ _ _ _ _ _ op_eq (@pe_call _ _ _ _ _ _ _ _ _ _ _ _ _ _ _ _ G_law_pieces (hr.mono (by decide)) (by rfl) T.m_law_pieces T.k_law_pieces T.b_law_pieces .nil pass0 (@pa_cons _ _ _ _ _ (pv 0) (@pa_cons _ _ _ _ _ (pv 1) pa_nil (by rfl)) (by rfl)) (by decide) (by rfl) (by rfl)) (@pe_op _ _ _ _ _ _ _ _ op_add (@pe_op _ _ _ _ _ _ _ _ op_sub (@pe_ix _ _ _ _ _ _ _ (ixT K) (pv 0) pe_int (fun _ _ => rfl)) (@pe_callB _ _ _ _ _ _ _ _ _ (lenK K) (by rfl) T.n_len PySem.boot_len (@pa_cons _ _ _ _ _ (@pe_comp _ _ _ _ _ _ _ ["count"] [] [] _ _ _ _ (compText_of (defScope s_law_ring) ["web", "some", "counts"]) rfl (@piL _ _ _ _ K (pv 2) (by rfl)) (fun _ _ _ _ => (pg_name (i := 0) (show (["count"] : List Str).Nodup by decide +kernel) rfl (Or.inl rfl))) (fun _ _ _ _ => (pts_one (pt_cmpR op_eq (pv 0) pe_int (nomark _)))) (fun _ _ _ _ => (pv 0)) (by intro _; rfl)) pa_nil (by rfl)) (by decide) (by decide) (by rfl) (by rfl))) pe_int) (nomark _)))))), ?_⟩
    refine hd_law_ring ?_
    intro zz0 zz1 zz2
    obtain ⟨bt, xs, h1, h2, h3⟩ := id hw.ex
    have wp := g.p2
    refine (exq rfl (exq rfl ⟨wb, p, ts, g, _, m, rfl, rfl, hw, hm, fun D H1 s1 hD1 => ?_⟩))
    refine (exq rfl (ijq (exq rfl (ite2 (fun h0 => ?_) (fun h0 => ?_)))))
    · have h0 : (m : Int) ≤ 0 := of_decide_eq_true h0
      exact q H1 false s1 ⟨(fun z => nomatch z), fun r => absurd (show m = 0 by (first | lia | omega)) r.1⟩
    have h0 : m ≠ 0 := fun z => h0 (decide_eq_true (show (m : Int) ≤ 0 by (first | lia | omega)))
    refine (exq rfl ⟨D, rfl, ⟨_, SqL.of hD1⟩, fun C hC => comp_list (xs := mapV (fun x => (netOf p ts g).dg m x) p) (fun i acc H2 => Same H1 H2 ∧ H2 C = some (.lst acc) ∧ acc.length = RM.cnt (fun x => !decide (0 = (netOf p ts g).dg m x ∨ 2 = (netOf p ts g).dg m x)) i) ⟨Same.new hC, upd_same, rfl⟩ (fun i acc H2 _ f => ⟨SqL.of (f.1 _ _ hD1), f.2.1, by have := RM.cnt_not (fun x => !decide (0 = (netOf p ts g).dg m x ∨ 2 = (netOf p ts g).dg m x)) i; have := f.2.2; (first | lia | omega)⟩) (small24 (by rw [mapV_len]; (first | lia | omega))) ?_ ?_⟩)
    · rintro i x acc H2 hx ⟨s2, hC2, al⟩
      obtain ⟨hi, rfl⟩ := mapV_of hx
      refine ⟨rfl, exq rfl ⟨dl rfl, fun u hu => (lnq rfl (.inr (SqT.of upd_same)) ⟨rfl, rfl, exq rfl (?_)⟩)⟩⟩
      have e : inV (.int (((netOf p ts g).dg m i : Nat) : Int)) [.int 0, .int 2] = decide (0 = (netOf p ts g).dg m i ∨ 2 = (netOf p ts g).dg m i) := in_two _ 0 2
      have hc1 : RM.cnt (fun x => !decide (0 = (netOf p ts g).dg m x ∨ 2 = (netOf p ts g).dg m x)) (i + 1) = RM.cnt (fun x => !decide (0 = (netOf p ts g).dg m x ∨ 2 = (netOf p ts g).dg m x)) i + if (!decide (0 = (netOf p ts g).dg m i ∨ 2 = (netOf p ts g).dg m i)) = true then 1 else 0 := rfl
      dsimp only
      rw [if_pos rfl, e]
      have hCu : C ≠ u := ne_of_none hC2 hu
      cases hb : decide (0 = (netOf p ts g).dg m i ∨ 2 = (netOf p ts g).dg m i) with
      | false =>
        rw [hb] at hc1
        refine iteT (exq rfl ⟨by rw [upd_ne hCu]; exact hC2, (s2.trans (Same.new hu)).put hC, upd_same, ?_⟩)
        rw [List.length_append, hc1, al]
        rfl
      | true =>
        rw [hb] at hc1
        exact iteF ⟨s2.trans (Same.new hu), by rw [upd_ne hCu]; exact hC2, by rw [hc1, al]; rfl⟩
    rintro acc H2 ⟨s2, hC2, al⟩
    rw [mapV_len] at al
    have s12 := s1.trans s2
    refine (lnq rfl (.inl (SqL.of hC2)) (ijq (exq rfl (ite2 (fun hpos => ?_) (fun hpos => ?_)))))
    · have hpos : (0 : Int) < (acc.length : Int) := of_decide_eq_true hpos
      refine q H2 false s12 ⟨(fun z => nomatch z), fun r => ?_⟩
      obtain ⟨x, hx, hf⟩ := RM.cnt_some (show 0 < RM.cnt _ p by rw [← al]; (first | lia | omega))
      have d2 := RM.ring_d2 hm r x hx
      rw [Bool.not_eq_true', decide_eq_false_iff_not] at hf
      exact absurd (d2.imp Eq.symm Eq.symm) hf
    have d2 : (netOf p ts g).D2 m := fun x hx => by
      apply Classical.byContradiction
      intro hn
      have := RM.cnt_pos (f := fun x => !decide (0 = (netOf p ts g).dg m x ∨ 2 = (netOf p ts g).dg m x)) (k := x) (by
        rw [Bool.not_eq_true', decide_eq_false_iff_not]
        exact fun z => hn (z.imp Eq.symm Eq.symm)) (show x < p from hx)
      exact hpos (decide_eq_true (show (0 : Int) < (acc.length : Int) by (first | lia | omega)))
    refine (exq rfl (exq rfl ⟨wb, p, ts, g, _, m, rfl, rfl, hw.same s12, hm, fun H3 s3 => ?_⟩))
    have s13 := s12.trans s3
    have hD3 := (s2.trans s3) _ _ hD1
    refine (exq rfl (ixq (SqT.of (s13 _ _ h1)) (atI_nat (j := 0) rfl) (?_)))
    refine (exq rfl ⟨D, rfl, ⟨_, SqL.of hD3⟩, fun C2 hC2 => comp_list (xs := mapV (fun x => (netOf p ts g).dg m x) p) (fun i acc H4 => Same H3 H4 ∧ H4 C2 = some (.lst acc) ∧ acc.length = RM.cnt (fun x => decide ((netOf p ts g).dg m x = 2)) i) ⟨Same.new hC2, upd_same, rfl⟩ (fun i acc H4 _ f => ⟨SqL.of (f.1 _ _ hD3), f.2.1, by have := RM.cnt_not (fun x => decide ((netOf p ts g).dg m x = 2)) i; have := f.2.2; (first | lia | omega)⟩) (small24 (by rw [mapV_len]; (first | lia | omega))) ?_ ?_⟩)
    · rintro i x acc H4 hx ⟨s4, hC4, al4⟩
      obtain ⟨hi, rfl⟩ := mapV_of hx
      refine ⟨rfl, exq rfl ⟨rfl, exq rfl (?_)⟩⟩
      have hc1 : RM.cnt (fun x => decide ((netOf p ts g).dg m x = 2)) (i + 1) = RM.cnt (fun x => decide ((netOf p ts g).dg m x = 2)) i + if decide ((netOf p ts g).dg m i = 2) = true then 1 else 0 := rfl
      have e : decide (V.int (((netOf p ts g).dg m i : Nat) : Int) = V.int 2) = decide ((netOf p ts g).dg m i = 2) := dec_nat _ 2
      rw [e]
      cases hb : decide ((netOf p ts g).dg m i = 2) with
      | true =>
        rw [hb] at hc1
        refine (exq rfl ⟨hC4, s4.put hC2, upd_same, ?_⟩)
        rw [List.length_append, hc1, al4]
        rfl
      | false =>
        rw [hb] at hc1
        exact ⟨s4, hC4, by rw [hc1, al4]; rfl⟩
    · rintro acc H4 ⟨s4, hC4, al4⟩
      rw [mapV_len] at al4
      refine (lnq rfl (.inl (SqL.of hC4)) (ijq (ijq ⟨rfl, q H4 _ (s13.trans s4) ?_⟩)))
      have h := RM.d2_count hm h0 d2
      have hcc : RM.cnt (fun x => decide ((netOf p ts g).dg m x = 2)) p ≤ p := by have := RM.cnt_not (fun x => decide ((netOf p ts g).dg m x = 2)) p; (first | lia | omega)
      rw [h, decide_eq_true_iff]
      constructor
      · intro e
        have e := V.int.inj e
        show RM.cnt ((netOf p ts g).root (fun k => m.testBit k) ts.length) p + RM.cnt (fun x => decide ((netOf p ts g).dg m x = 2)) p = p + 1
        (first | lia | omega)
      · intro e
        have e : RM.cnt ((netOf p ts g).root (fun k => m.testBit k) ts.length) p + RM.cnt (fun x => decide ((netOf p ts g).dg m x = 2)) p = p + 1 := e
        exact congrArg V.int (by (first | lia | omega))
end

def sp_way : Sp := fun vs H Q _ => ∃ w p ts, ∃ g : GoodWeb p ts, ∃ (s u v : Nat), vs = [.ref w, .int (s : Int), .int (u : Int), .int (v : Int)] ∧ WebAt H w p ts ∧ s < 2 ^ ts.length ∧ u < p ∧ v < p ∧
  (∀ t H', Same H H' → (∀ k, t.testBit k = true → s.testBit k = true) → (∀ y, (netOf p ts g).bd t y = (decide (u = y) ^^ decide (v = y))) → Q (.int ((t : Nat) : Int)) H') ∧
  (∀ H', Same H H' → ¬ (netOf p ts g).Conn (fun k => s.testBit k) ts.length u v → Q .non H')
def sp_order : Sp := fun vs H Q _ => ∃ (c : Int) (n : Nat), vs = [.int c, .int (n : Int)] ∧ n ≤ 100 ∧ ∀ D ks H', Same H H' → H' D = some (.lst (natsV ks)) → ks.Perm (List.range n) → Q (.ref D) H'
def sp_chords26 : Sp := fun vs H Q _ => ∃ w p ts, ∃ g : GoodWeb p ts, ∃ (l : Addr) (ks : List Nat), vs = [.ref w, .ref l] ∧ WebAt H w p ts ∧ H l = some (.lst (natsV ks)) ∧ ks.Perm (List.range ts.length) ∧ ∀ D rs H', Same H H' → H' D = some (.lst (natsV rs)) → RM.Base (netOf p ts g) rs → Q (.ref D) H'
theorem cut_two (u v z : V) : cutV [u, v, z] none (some 2) = [u, v] := rfl
section
variable {P : Program} {w : World} {K : PySem.W.Frag} {mg : Str → Option Value} {base : Heap} {a : Adr}
theorem G_law_way (T : Txt K mg a) : FnOk P w K mg base CX0 1 a.f_law_way a.d_law_way ["web", "some", "one", "other"] sp_way := by
  refine T.F_law_way.ok sc_law_way (fun vs H Q E h => ?_) (fun cdv A outer s H vs Q E hr h => ?_)
  · obtain ⟨w, p, ts, g, s, u, v, rfl, _⟩ := h
    rfl
  · obtain ⟨wb, p, ts, g, sm, u, v, rfl, hw, hsm, hu, hv, q1, q2⟩ := h
    refine ⟨_, (@pss_cons _ _ _ _ _ (@ps_set _ _ 4 _ _ _ _ sc_law_way.nd rfl (Or.inl rfl) (@pe_disp _ _ _ _ _ (@pps_cons _ _ _ _ _ _ _ _ _ (pv 2) pe_int (@pps_nil _ _)) rfl rfl (fun z => (nomatch z)) (by decide)) (by rfl) (by first | exact .inl rfl | exact .inr rfl | assumption)) (@pss_cons _ _ _ _ _ (@ps_set _ _ 5 _ _ _ _ sc_law_way.nd rfl (Or.inl rfl) (@pe_lst _ _ _ _ (@pa_cons _ _ _ _ _ (pv 2) pa_nil (by rfl))) (by rfl) (by first | exact .inl rfl | exact .inr rfl | assumption)) (@pss_cons _ _ _ _ _ (@ps_set _ _ 6 _ _ _ _ sc_law_way.nd rfl (Or.inl rfl) pe_int (by rfl) (by first | exact .inl rfl | exact .inr rfl | assumption)) (@pss_cons _ _ _ _ _ (@ps_while _ _ _ _ _ _ PassesOwn.never (@pt_cmpR _ _ _ _ _ _ _ _ op_lt (pv 6) (@pe_callB _ _ _ _ _ _ _ _ _ (lenK K) (by rfl) T.n_len PySem.boot_len (@pa_cons _ _ _ _ _ (pv 5) pa_nil (by rfl)) (by decide) (by decide) (by rfl) (by rfl)) (nomark _)) (@pss_cons _ _ _ _ _ (@ps_set _ _ 7 _ _ _ _ sc_law_way.nd rfl (Or.inl rfl) (@pe_ix _ _ _ _ _ _ _ (ixL K) (pv 5) (pv 6) (fun _ _ => rfl)) (by rfl) (by first | exact .inl rfl | exact .inr rfl | assumption)) (@pss_cons _ _ _ _ _ (@ps_set _ _ 6 _ _ _ _ sc_law_way.nd rfl (Or.inl rfl) (@pe_op _ _ _ _ _ _ _ _ op_add (pv 6) pe_int) (by rfl) (by first | exact .inl rfl | exact .inr rfl | assumption)) (@pss_one _ _ _ (@ps_for _ _ _ _ _ _ _ _ PassesOwn.never rfl (@pi_range1 _ _ _ _ _ _ (by rfl) T.n_range (@pa_cons _ _ _ _ _ (@pe_callB _ _ _ _ _ _ _ _ _ (lenK K) (by rfl) T.n_len PySem.boot_len (@pa_cons _ _ _ _ _ (@pe_ix _ _ _ _ _ _ _ (ixT K) (pv 0) pe_int (fun _ _ => rfl)) pa_nil (by rfl)) (by decide) (by decide) (by rfl) (by rfl)) pa_nil (by rfl)) (by rfl)) (pg_name (i := 8) sc_law_way.nd rfl (Or.inl rfl)) (@pss_one _ _ _ (@ps_if _ _ _ _ _ _ _ _ (PW.pt (@pw_and _ _ _ _ _ _ _ (@pt_cmpR _ _ _ _ _ _ _ _ op_eq (@pe_op _ _ _ _ _ _ _ _ op_mod (@pe_op _ _ _ _ _ _ _ _ op_shr (pv 1) (pv 8)) pe_int) pe_int (nomark _)) (@pw_and1 _ _ _ _ (@pt_cmpR _ _ _ _ _ _ _ _ (inK K) (pv 7) (@pe_slice _ _ _ _ _ _ _ _ _ _ (slT K) (@pe_ix _ _ _ _ _ _ _ (ixT K) (@pe_ix _ _ _ _ _ _ _ (ixT K) (pv 0) pe_int (fun _ _ => rfl)) (pv 8) (fun _ _ => rfl)) po_none (@po_some _ _ _ pe_int)) (by with_unfolding_all rfl))))) (@pss_cons _ _ _ _ _ (@ps_set _ _ 9 _ _ _ _ sc_law_way.nd rfl (Or.inl rfl) (@pe_op _ _ _ _ _ _ _ _ op_sub (@pe_op _ _ _ _ _ _ _ _ op_add (@pe_ix _ _ _ _ _ _ _ (ixT K) (@pe_ix _ _ _ _ _ _ _ (ixT K) (@pe_ix _ _ _ _ _ _ _ (ixT K) (pv 0) pe_int (fun _ _ => rfl)) (pv 8) (fun _ _ => rfl)) pe_int (fun _ _ => rfl)) (@pe_ix _ _ _ _ _ _ _ (ixT K) (@pe_ix _ _ _ _ _ _ _ (ixT K) (@pe_ix _ _ _ _ _ _ _ (ixT K) (pv 0) pe_int (fun _ _ => rfl)) (pv 8) (fun _ _ => rfl)) pe_int (fun _ _ => rfl))) (pv 7)) (by rfl) (by first | exact .inl rfl | exact .inr rfl | assumption)) (@pss_one _ _ _ (@ps_if _ _ _ _ _ _ _ _ (@pt_cmp _ _ _ _ _ _ (@pc_dnotin _ _ _ _ _ (by exact hu_of hr) (pv 9) (pv 4)) (by first | exact nobehind _ (by decide) (by decide) | rfl)) (@pss_cons _ _ _ _ _ (@ps_dput _ _ _ _ _ _ _ _ _ (by exact hu_of hr) (pv 4) (pv 9) (@pe_op _ _ _ _ _ _ _ _ op_or (@pe_dget _ _ _ _ _ _ (by exact hu_of hr) (pv 4) (pv 7) (fun _ _ => rfl)) (@pe_op _ _ _ _ _ _ _ _ op_shl pe_int (pv 8))) rfl) (@pss_one _ _ _ (@ps_expr _ _ _ _ (@bmK _ _ _ _ _ _ K (@pe_bm _ _ _ _ _ _ _ _ _ _ _ _ PySem.F.plainAttrs_list PySem.F.slot_list_append PySem.F.type_list_append mt_append (pv 5) (@pa_cons _ _ _ _ _ (pv 9) pa_nil (by rfl)) (by rfl) (by rfl) (by rfl) (by rfl) (by rfl)) (by rfl)) (by rfl)))) pss_nil))) pss_nil)) (by intro _; rfl)))))) (@pss_one _ _ _ (@ps_ret _ _ _ _ (@pe_dget1 _ _ _ _ _ _ _ (by exact hu_of hr) (pv 4) (pv 3) ⟨rfl, rfl, rfl, rfl⟩))))))), ?_⟩
    refine hd_law_way ?_
    intro zz0 zz1 zz2 zz3 zz4 zz5 zz6 zz7 zz8 zz9 zz10 zz11
    obtain ⟨bt, xs, h1, h2, h3⟩ := id hw.ex
    have hxl := h3.length
    have wl := g.len
    have wp := g.p2
    intro C hC
    have s1 : Same H (upd H C (.dK [])) := Same.new hC
    refine (exq rfl ⟨upd_same, [((Sum.inl ((u : Nat) : Int) : Key), V.int 0)], rfl, (by show 1 ≤ 15; decide), ?_⟩)
    have hC1 : upd (upd H C (.dK [])) C (.dK (mergeK [] [((Sum.inl ((u : Nat) : Int) : Key), V.int 0)])) C = some (.dK (cameK [u] (fun _ => 0))) := upd_same
    have s2 : Same H (upd (upd H C (.dK [])) C (.dK (mergeK [] [((Sum.inl ((u : Nat) : Int) : Key), V.int 0)]))) := s1.put hC
    generalize upd (upd H C (.dK [])) C (.dK (mergeK [] [((Sum.inl ((u : Nat) : Int) : Key), V.int 0)])) = H1 at s2 hC1
    clear s1
    refine (exq rfl ⟨dl rfl, fun L hL => ?_⟩)
    have hL2 : upd H1 L (.lst [.int ((u : Nat) : Int)]) L = some (.lst (natsV [u])) := upd_same
    have hCL : C ≠ L := ne_of_none hC1 hL
    have hC2 : upd H1 L (.lst [.int ((u : Nat) : Int)]) C = some (.dK (cameK [u] (fun _ => 0))) := Same.new hL _ _ hC1
    have s03 : Same H (upd H1 L (.lst [.int ((u : Nat) : Int)])) := s2.trans (Same.new hL)
    have hLn : H L = none := s2.free hL
    generalize upd H1 L (.lst [.int ((u : Nat) : Int)]) = H2 at s03 hL2 hC2
    clear s2 hC1 hL
    refine ⟨fun z σ H3 => ∃ (i : Nat) (l : List Nat) (c : Nat → Nat) (v7 v8 v9 : Option V), σ = [some (.ref wb), some (.int (sm : Int)), some (.int (u : Int)), some (.int (v : Int)), some (.ref C), some (.ref L), some (.int (i : Int)), v7, v8, v9] ∧ Same H H3 ∧ H3 L = some (.lst (natsV l)) ∧ H3 C = some (.dK (cameK l c)) ∧ RM.BF (netOf p ts g) sm u l c ∧ (∀ j x, j < i → l[j]? = some x → RM.Lft (netOf p ts g) sm l x ts.length) ∧ i ≤ l.length ∧ z = p - i, ⟨p - 0, 0, [u], fun _ => 0, none, none, none, rfl, s03, hL2, hC2, RM.BF.start hu, (fun j x hj => by (first | lia | omega)), Nat.zero_le _, rfl⟩, ?_⟩
    rintro z σ H3 ⟨i, l, c, v7, v8, v9, rfl, s3, hL3, hC3, bf, lf, hil, rfl⟩
    clear s03 hL2 hC2
    have hlp : l.length ≤ p := RM.nodup_le bf.nd bf.lt
    refine (exq rfl (exq rfl (lnq rfl (.inl (SqL.of hL3)) (ijq (exq rfl (ite2 (fun hlt => ?_) (fun hlt => ?_)))))))
    · have hlt : (i : Int) < ((natsV l).length : Int) := of_decide_eq_true hlt
      rw [natsV_len] at hlt
      have hlt : i < l.length := by (first | lia | omega)
      have hx : l[i]? = some l[i] := List.getElem?_eq_getElem hlt
      generalize l[i] = x at hx
      have hxl2 := bf.lt x (List.mem_of_getElem? hx)
      refine ⟨fun σ H4 => ∃ (l : List Nat) (c : Nat → Nat) (v7 v8 v9 : Option V), σ = [some (.ref wb), some (.int (sm : Int)), some (.int (u : Int)), some (.int (v : Int)), some (.ref C), some (.ref L), some (.int ((i + 1 : Nat) : Int)), v7, v8, v9] ∧ Same H H4 ∧ H4 L = some (.lst (natsV l)) ∧ H4 C = some (.dK (cameK l c)) ∧ RM.BF (netOf p ts g) sm u l c ∧ (∀ j x, j < i + 1 → l[j]? = some x → RM.Lft (netOf p ts g) sm l x ts.length) ∧ i + 1 ≤ l.length, fun σ H4 ⟨l, c, v7, v8, v9, z1, z2, z3, z4, z5, z6, z7⟩ => ⟨p - (i + 1), by (first | lia | omega), i + 1, l, c, v7, v8, v9, z1, z2, z3, z4, z5, z6, z7, rfl⟩, ?_⟩
      refine (exq rfl (exq rfl (ixl (SqL.of hL3) (atI_nat (nats_at hx)) (?_))))
      refine (exq rfl (ijq (?_)))
      refine (exq rfl (ixq (SqT.of (s3 _ _ h1)) (atI_nat (j := 1) rfl) (lnq rfl (.inr (SqT.of (s3 _ _ h2))) (exq rfl ⟨(by (first | lia | omega)), (by (first | lia | omega)), ?_⟩))))
      refine for_range' (lo := 0) (n := (xs.length : Int).toNat) (fun k σ H4 => ∃ (l : List Nat) (c : Nat → Nat) (v8 v9 : Option V), σ = [some (.ref wb), some (.int (sm : Int)), some (.int (u : Int)), some (.int (v : Int)), some (.ref C), some (.ref L), some (.int ((i : Int) + 1)), some (.int (x : Int)), v8, v9] ∧ Same H H4 ∧ H4 L = some (.lst (natsV l)) ∧ H4 C = some (.dK (cameK l c)) ∧ RM.BF (netOf p ts g) sm u l c ∧ (∀ j x, j < i → l[j]? = some x → RM.Lft (netOf p ts g) sm l x ts.length) ∧ i + 1 ≤ l.length ∧ l[i]? = some x ∧ RM.Lft (netOf p ts g) sm l x k) ⟨l, c, _, _, rfl, s3, hL3, hC3, bf, lf, by (first | lia | omega), hx, (fun k hk => by (first | lia | omega))⟩ ?_ ?_
      · rintro k D' σ H4 hk ⟨l, c, v8, v9, rfl, s4, hL4, hC4, bf, lf, hil, hx, lfk⟩
        clear hlt hL3 hC3
        rw [Int.toNat_natCast] at hk
        rw [Int.zero_add]
        have hkl : k < ts.length := by (first | lia | omega)
        have hlp : l.length ≤ p := RM.nodup_le bf.nd bf.lt
        have hxm := List.mem_of_getElem? hx
        obtain ⟨ct, ex, hct⟩ := tie_in (g := g) h3 hkl
        have skip : (sm.testBit k = true → ∀ y, RM.Jn (netOf p ts g) k x y → y ∈ l) → ∀ v9 H5, Same H4 H5 → D'.nx [some (.ref wb), some (.int (sm : Int)), some (.int (u : Int)), some (.int (v : Int)), some (.ref C), some (.ref L), some (.int ((i : Int) + 1)), some (.int (x : Int)), some (.int (k : Int)), v9] H5 := fun hn v9 H5 s5 => by
          refine ⟨l, c, _, _, rfl, s4.trans s5, s5 _ _ hL4, s5 _ _ hC4, bf, lf, hil, hx, fun j hj hb y hy => ?_⟩
          by_cases e : j = k
          · subst e
            exact hn hb y hy
          · exact lfk j (by (first | lia | omega)) hb y hy
        refine (exq rfl (exq rfl (ijq ⟨(by (first | lia | omega)), ijq ⟨(modC rfl), rfl, exq rfl (?_)⟩⟩)))
        rw [Int.toNat_natCast, bit_eq, bit_nat]
        cases hbit : sm.testBit k with
        | false => exact iteF (skip (fun z => by rw [hbit] at z; cases z) _ _ (Same.refl _))
        | true =>
          refine iteT (exq rfl (exq rfl (ixq (SqT.of (s4 _ _ h1)) (atI_nat (j := 1) rfl) (exq rfl (ixq (SqT.of (s4 _ _ h2)) (atI_nat (j := k) ex) (?_))))))
          refine (exq rfl ⟨ct, _, rfl, SqT.of (s4 _ _ hct), (fun z => absurd (show HT.sIx 3 3 (some 2) = 3 from z.2) (by decide)), fun w hw' => ?_⟩)
          rw [cut_two]
          refine (lnq rfl (.inr (SqT.of upd_same)) ⟨rfl, rfl, exq rfl (?_)⟩)
          dsimp only
          rw [in_two]
          have s5 : Same H4 (upd H4 w (.tup [.int (((netOf p ts g).a k : Nat) : Int), .int (((netOf p ts g).b k : Nat) : Int)])) := Same.new hw'
          generalize upd H4 w (.tup [.int (((netOf p ts g).a k : Nat) : Int), .int (((netOf p ts g).b k : Nat) : Int)]) = H5 at s5
          have s05 := s4.trans s5
          by_cases hin : (netOf p ts g).a k = x ∨ (netOf p ts g).b k = x
          case neg =>
            rw [decide_eq_false hin]
            refine iteF (skip (fun _ y hy => absurd ?_ hin) _ _ s5)
            rcases hy with ⟨e, _⟩ | ⟨e, _⟩
            · exact .inl e
            · exact .inr e
          rw [decide_eq_true hin]
          refine iteT (exq rfl (ixq (SqT.of (s05 _ _ h1)) (atI_nat (j := 1) rfl) (exq rfl (ixq (SqT.of (s05 _ _ h2)) (atI_nat (j := k) ex) (ixq (SqT.of (s05 _ _ hct)) (atI_nat (j := 0) rfl) (exq rfl (ixq (SqT.of (s05 _ _ h1)) (atI_nat (j := 1) rfl) (exq rfl (ixq (SqT.of (s05 _ _ h2)) (atI_nat (j := k) ex) (ixq (SqT.of (s05 _ _ hct)) (atI_nat (j := 1) rfl) (ijq (exq rfl (ijq (?_))))))))))))))
          obtain ⟨y, hjn, hyv, one⟩ : ∃ y, RM.Jn (netOf p ts g) k x y ∧ (((netOf p ts g).a k : Nat) : Int) + (((netOf p ts g).b k : Nat) : Int) - (x : Int) = (y : Int) ∧ ∀ y', RM.Jn (netOf p ts g) k x y' → y' = y := by
            have ne := (netOf p ts g).ne k hkl
            rcases hin with e | e
            · refine ⟨(netOf p ts g).b k, .inl ⟨e, rfl⟩, by (first | lia | omega), fun y' hy' => ?_⟩
              rcases hy' with ⟨_, e2⟩ | ⟨e1, _⟩
              · exact e2.symm
              · exact absurd (e.trans e1.symm) ne
            · refine ⟨(netOf p ts g).a k, .inr ⟨e, rfl⟩, by (first | lia | omega), fun y' hy' => ?_⟩
              rcases hy' with ⟨e1, _⟩ | ⟨_, e2⟩
              · exact absurd (e1.trans e.symm) ne
              · exact e2.symm
          dsimp only
          rw [hyv]
          have hC5 := s5 _ _ hC4
          have hL5 := s5 _ _ hL4
          refine (exq rfl (exq rfl ⟨C, _, rfl, DGet.k (k := Sum.inl ((y : Nat) : Int)) hC5, _, rfl, ?_⟩))
          rw [came_val]
          by_cases hy : y ∈ l
          · rw [if_pos hy]
            exact iteF (skip (fun _ y' hy' => by rw [one y' hy']; exact hy) _ _ s5)
          · rw [if_neg hy]
            have hcx : DGet H5 C (.int (x : Int)) (some (.int ((c x : Nat) : Int))) := by
              have := DGet.k (k := Sum.inl ((x : Nat) : Int)) hC5
              rw [came_val, if_pos hxm] at this
              exact this
            refine iteT (exq rfl (exq rfl ⟨C, _, rfl, hcx, _, rfl, ijq ⟨⟨by (first | lia | omega), by (first | lia | omega), by decide⟩, ijq (exq rfl (exq rfl ⟨C, _, rfl, DPut.k (k := Sum.inl ((y : Nat) : Int)) hC5 (smallL (by unfold cameK; rw [List.length_map]; (first | lia | omega))), ?_⟩))⟩⟩))
            have ev : Builtin.bitOr ((c x : Nat) : Int) (1 * 2 ^ ((k : Nat) : Int).toNat) = ((c x ||| 2 ^ k : Nat) : Int) := by rw [shl_int, or_int]
            dsimp only
            rw [ev, came_put hy]
            have s6 : Same H (upd H5 C (.dK (cameK (l ++ [y]) fun z => if z = y then c x ||| 2 ^ k else c z))) := s05.put hC
            have hC6 : upd H5 C (.dK (cameK (l ++ [y]) fun z => if z = y then c x ||| 2 ^ k else c z)) C = some (.dK (cameK (l ++ [y]) fun z => if z = y then c x ||| 2 ^ k else c z)) := upd_same
            have hL6 : upd H5 C (.dK (cameK (l ++ [y]) fun z => if z = y then c x ||| 2 ^ k else c z)) L = some (.lst (natsV l)) := by rw [upd_ne hCL.symm]; exact hL5
            generalize upd H5 C (.dK (cameK (l ++ [y]) fun z => if z = y then c x ||| 2 ^ k else c z)) = H6 at s6 hC6 hL6
            refine (exq rfl ⟨.inl ⟨rfl, _, SqL.of hL6⟩, exq rfl ⟨L, _, _, rfl, rfl, hL6, smallL (by rw [natsV_len]; (first | lia | omega)), ?_⟩⟩)
            have mono : ∀ z j, RM.Lft (netOf p ts g) sm l z j → RM.Lft (netOf p ts g) sm (l ++ [y]) z j := fun z j h k hk hb w hw => List.mem_append_left _ (h k hk hb w hw)
            refine ⟨l ++ [y], _, _, _, rfl, s6.put hLn, by rw [upd_same, natsV_snoc], by rw [upd_ne hCL]; exact hC6, bf.put hsm hxm hkl hbit hjn hy, fun j z hj hz => ?_, by rw [List.length_append]; (first | lia | omega), by rw [List.getElem?_append_left (by (first | lia | omega))]; exact hx, fun j hj hb w hw => ?_⟩
            · rw [List.getElem?_append_left (by (first | lia | omega))] at hz
              exact mono z _ (lf j z hj hz)
            · by_cases e : j = k
              · subst e
                rw [one w hw]
                exact List.mem_append_right _ (by simp)
              · exact List.mem_append_left _ (lfk j (by (first | lia | omega)) hb w hw)
      · rintro σ H4 ⟨l, c, v8, v9, rfl, s4, hL4, hC4, bf, lf, hil, hx, lfk⟩
        rw [Int.toNat_natCast, hxl] at lfk
        refine ⟨l, c, _, _, _, rfl, s4, hL4, hC4, bf, fun j y hj hy => ?_, hil⟩
        by_cases e : j = i
        · subst e
          rw [hx] at hy
          cases hy
          exact lfk
        · exact lf j y (by (first | lia | omega)) hy
    · have hge : l.length ≤ i := by
        have : ¬ (i : Int) < ((natsV l).length : Int) := fun z => hlt (decide_eq_true z)
        rw [natsV_len] at this
        (first | lia | omega)
      have all : ∀ x ∈ l, RM.Lft (netOf p ts g) sm l x ts.length := fun x hx => by
        obtain ⟨j, hj⟩ := List.getElem?_of_mem hx
        have := (List.getElem?_eq_some_iff.mp hj).1
        exact lf j x (by (first | lia | omega)) hj
      have cn := bf.conn hsm all (show v < (netOf p ts g).p from hv)
      refine (exq rfl ⟨C, rfl, .inl ⟨_, .inl hC3⟩, exq rfl ⟨_, DGet.k (k := Sum.inl ((v : Nat) : Int)) hC3, ?_⟩⟩)
      rw [came_val]
      by_cases hm : v ∈ l
      · rw [if_pos hm]
        exact q1 (c v) H3 s3 (bf.sub v hm) (bf.bd v hm)
      · rw [if_neg hm]
        exact q2 H3 s3 fun h => hm (cn.mpr h)
theorem G_law_order (T : Txt K mg a) : FnOk P w K mg base CX0 2 a.f_law_order a.d_law_order ["cell", "many"] sp_order := by
  have G_law_mixed : FnOk P w K mg base CX0 1 a.f_law_mixed a.d_law_mixed ["cell", "k"] sp_mixed := G_law_mixed T
  refine T.F_law_order.ok sc_law_order (fun vs H Q E h => ?_) (fun cdv A outer s H vs Q E hr h => ?_)
  · obtain ⟨c, n, rfl, _⟩ := h
    rfl
  · obtain ⟨c, n, rfl, hn, q⟩ := h
    refine ⟨_, (@pss_cons _ _ _ _ _ (@ps_set _ _ 2 _ _ _ _ sc_law_order.nd rfl (Or.inl rfl) (@pe_lst _ _ _ _ pa_nil) (by rfl) (by first | exact .inl rfl | exact .inr rfl | assumption)) (@pss_cons _ _ _ _ _ (@ps_for _ _ _ _ _ _ _ _ PassesOwn.never rfl (@pi_range1 _ _ _ _ _ _ (by rfl) T.n_range (@pa_cons _ _ _ _ _ (pv 1) pa_nil (by rfl)) (by rfl)) (pg_name (i := 3) sc_law_order.nd rfl (Or.inl rfl)) (@pss_one _ _ _ (@ps_expr _ _ _ _ (@bmK _ _ _ _ _ _ K (@pe_bm _ _ _ _ _ _ _ _ _ _ _ _ PySem.F.plainAttrs_list PySem.F.slot_list_insert PySem.F.type_list_insert mt_insert (pv 2) (@pa_cons _ _ _ _ _ (@pe_op _ _ _ _ _ _ _ _ op_mod (@pe_call _ _ _ _ _ _ _ _ _ _ _ _ _ _ _ _ G_law_mixed (hr.mono (by decide)) (by rfl) T.m_law_mixed T.k_law_mixed T.b_law_mixed .nil pass0 (@pa_cons _ _ _ _ _ (pv 0) (@pa_cons _ _ _ _ _ (@pe_op _ _ _ _ _ _ _ _ op_add pe_int (pv 3)) pa_nil (by rfl)) (by rfl)) (by decide) (by rfl) (by rfl)) (@pe_op _ _ _ _ _ _ _ _ op_add (pv 3) pe_int)) (@pa_cons _ _ _ _ _ (pv 3) pa_nil (by rfl)) (by rfl)) (by rfl) (by rfl) (by rfl) (by rfl) (by rfl)) (by rfl)) (by rfl))) (by intro _; rfl)) (@pss_one _ _ _ (@ps_ret _ _ _ _ (pv 2))))), ?_⟩
    refine hd_law_order ?_
    intro zz0 zz1 zz2
    refine ⟨dl rfl, fun D hD => ?_⟩
    have s1 : Same H (upd H D (.lst [])) := Same.new hD
    have hD1 : upd H D (.lst []) D = some (.lst (natsV [])) := upd_same
    generalize upd H D (.lst []) = H1 at s1 hD1
    refine (exq rfl (exq rfl ⟨(by (first | lia | omega)), (by (first | lia | omega)), ?_⟩))
    refine for_range' (lo := 0) (n := (n : Int).toNat) (fun k σ H2 => ∃ v3 ks, σ = [some (.int c), some (.int (n : Int)), some (.ref D), v3] ∧ Same H H2 ∧ H2 D = some (.lst (natsV ks)) ∧ ks.Perm (List.range k)) ⟨none, [], rfl, s1, hD1, List.Perm.refl _⟩ ?_ ?_
    · rintro k D' σ H2 hk ⟨v3, ks, rfl, s2, hD2, pm⟩
      rw [Int.toNat_natCast] at hk
      rw [Int.zero_add]
      have hkl : ks.length = k := by rw [pm.length_eq, List.length_range]
      refine (exq rfl ⟨.inl ⟨rfl, _, SqL.of hD2⟩, exq rfl (exq rfl (ijq ⟨c, _, rfl, by (first | lia | omega), by (first | lia | omega), fun z hz hz2 => ?_⟩))⟩)
      refine (exq rfl (ijq (ijq ⟨(by (first | lia | omega)), exq rfl (?_)⟩)))
      obtain ⟨j, hj, hj2⟩ : ∃ j : Nat, z % ((k : Int) + 1) = (j : Int) ∧ j ≤ k := by
        obtain ⟨h1, h2⟩ := emod2 z ((k : Int) + 1) (by (first | lia | omega))
        exact ⟨(z % ((k : Int) + 1)).toNat, by (first | lia | omega), by (first | lia | omega)⟩
      dsimp only
      rw [hj]
      refine ⟨D, _, j, _, rfl, rfl, hD2, by rw [natsV_len]; (first | lia | omega), smallL (by rw [natsV_len]; (first | lia | omega)), _, ks.take j ++ k :: ks.drop j, rfl, s2.put hD, ?_, ?_⟩
      · rw [upd_same]
        unfold natsV
        rw [List.map_append, List.map_cons, List.map_take, List.map_drop]
      · have p1 : (ks.take j ++ k :: ks.drop j).Perm (k :: ks) := by
          have := List.perm_middle (a := k) (l₁ := ks.take j) (l₂ := ks.drop j)
          rwa [List.take_append_drop] at this
        rw [List.range_succ]
        exact p1.trans ((List.Perm.cons k pm).trans (List.perm_append_singleton k (List.range k)).symm)
    · rintro σ H2 ⟨v3, ks, rfl, s2, hD2, pm⟩
      rw [Int.toNat_natCast] at pm
      exact (exq rfl (q D ks H2 s2 hD2 pm))
theorem G_law_chord_rings (T : Txt K mg a) : FnOk P w K mg base CX0 2 a.f_law_chord_rings a.d_law_chord_rings ["web", "order"] sp_chords26 := by
  have G_law_way : FnOk P w K mg base CX0 1 a.f_law_way a.d_law_way ["web", "some", "one", "other"] sp_way := G_law_way T
  refine T.F_law_chord_rings.ok sc_law_chord_rings (fun vs H Q E h => ?_) (fun cdv A outer s H vs Q E hr h => ?_)
  · obtain ⟨w, p, ts, g, l, ks, rfl, _⟩ := h
    rfl
  · obtain ⟨wb, p, ts, g, l, od, rfl, hw, hl, pm, q⟩ := h
    refine ⟨_, (@pss_cons _ _ _ _ _ (@ps_set _ _ 2 _ _ _ _ sc_law_chord_rings.nd rfl (Or.inl rfl) pe_int (by rfl) (by first | exact .inl rfl | exact .inr rfl | assumption)) (@pss_cons _ _ _ _ _ (@ps_set _ _ 3 _ _ _ _ sc_law_chord_rings.nd rfl (Or.inl rfl) (@pe_lst _ _ _ _ pa_nil) (by rfl) (by first | exact .inl rfl | exact .inr rfl | assumption)) (@pss_cons _ _ _ _ _ (@ps_for _ _ _ _ _ _ _ _ PassesOwn.never rfl (@piL _ _ _ _ K (pv 1) (by rfl)) (pg_name (i := 4) sc_law_chord_rings.nd rfl (Or.inl rfl)) (@pss_cons _ _ _ _ _ (@ps_set _ _ 5 _ _ _ _ sc_law_chord_rings.nd rfl (Or.inl rfl) (@pe_call _ _ _ _ _ _ _ _ _ _ _ _ _ _ _ _ G_law_way (hr.mono (by decide)) (by rfl) T.m_law_way T.k_law_way T.b_law_way .nil pass0 (@pa_cons _ _ _ _ _ (pv 0) (@pa_cons _ _ _ _ _ (pv 2) (@pa_cons _ _ _ _ _ (@pe_ix _ _ _ _ _ _ _ (ixT K) (@pe_ix _ _ _ _ _ _ _ (ixT K) (@pe_ix _ _ _ _ _ _ _ (ixT K) (pv 0) pe_int (fun _ _ => rfl)) (pv 4) (fun _ _ => rfl)) pe_int (fun _ _ => rfl)) (@pa_cons _ _ _ _ _ (@pe_ix _ _ _ _ _ _ _ (ixT K) (@pe_ix _ _ _ _ _ _ _ (ixT K) (@pe_ix _ _ _ _ _ _ _ (ixT K) (pv 0) pe_int (fun _ _ => rfl)) (pv 4) (fun _ _ => rfl)) pe_int (fun _ _ => rfl)) pa_nil (by rfl)) (by rfl)) (by rfl)) (by rfl)) (by decide) (by rfl) (by rfl)) (by rfl) (by first | exact .inl rfl | exact .inr rfl | assumption)) (@pss_one _ _ _ (@ps_if _ _ _ _ _ _ _ _ (@pt_cmpR _ _ _ _ _ _ _ _ op_isN (pv 5) pe_non (nomark _)) (@pss_one _ _ _ (@ps_set _ _ 2 _ _ _ _ sc_law_chord_rings.nd rfl (Or.inl rfl) (@pe_op _ _ _ _ _ _ _ _ op_or (pv 2) (@pe_op _ _ _ _ _ _ _ _ op_shl pe_int (pv 4))) (by rfl) (by first | exact .inl rfl | exact .inr rfl | assumption))) (@pss_one _ _ _ (@ps_expr _ _ _ _ (@bmK _ _ _ _ _ _ K (@pe_bm _ _ _ _ _ _ _ _ _ _ _ _ PySem.F.plainAttrs_list PySem.F.slot_list_append PySem.F.type_list_append mt_append (pv 3) (@pa_cons _ _ _ _ _ (@pe_op _ _ _ _ _ _ _ _ op_or (pv 5) (@pe_op _ _ _ _ _ _ _ _ op_shl pe_int (pv 4))) pa_nil (by rfl)) (by rfl) (by rfl) (by rfl) (by rfl) (by rfl)) (by rfl)) (by rfl)))))) (by intro _; rfl)) (@pss_one _ _ _ (@ps_ret _ _ _ _ (pv 3)))))), ?_⟩
    refine hd_law_chord_rings ?_
    intro zz0 zz1 zz2 zz3 zz4 zz5 zz6
    obtain ⟨bt, xs, h1, h2, h3⟩ := id hw.ex
    have hxl := h3.length
    have wl := g.len
    have hol : od.length = ts.length := by rw [pm.length_eq, List.length_range]
    have hom : ∀ k, k ∈ od ↔ k < ts.length := fun k => by rw [pm.mem_iff, List.mem_range]
    have hond : od.Nodup := pm.nodup_iff.mpr List.nodup_range
    refine ⟨dl rfl, fun D hD => ?_⟩
    have s1 : Same H (upd H D (.lst [])) := Same.new hD
    have hD1 : upd H D (.lst []) D = some (.lst (natsV [])) := upd_same
    generalize upd H D (.lst []) = H1 at s1 hD1
    refine (exq rfl ⟨l, rfl, ⟨_, SqL.of (s1 _ _ hl)⟩, for_list' (K := K) (a := l) (xs := natsV od) (fun i σ H2 => ∃ (sm : Nat) (v4 v5 : Option V) (ks rs : List Nat), σ = [some (.ref wb), some (.ref l), some (.int (sm : Int)), some (.ref D), v4, v5] ∧ Same H H2 ∧ H2 D = some (.lst (natsV rs)) ∧ RM.Fr (netOf p ts g) (od.take i) sm ks rs) ⟨0, none, none, [], [], rfl, s1, hD1, RM.Fr.start⟩ (fun i σ H2 _ ⟨_, _, _, _, _, _, z, _⟩ => SqL.of (z _ _ hl)) ?_ ?_⟩)
    · rintro i y D' σ H2 hi ⟨sm, v4, v5, ks, rs, rfl, s2, hD2, fr⟩
      obtain ⟨k, hk, rfl⟩ := natsV_get hi
      have hkl := (hom k).mp (List.mem_of_getElem? hk)
      have hkd : k ∉ od.take i := fun hm => by
        obtain ⟨j, hj⟩ := List.getElem?_of_mem hm
        have hjl := (List.getElem?_eq_some_iff.mp hj).1
        rw [List.length_take] at hjl
        rw [List.getElem?_take_of_lt (by (first | lia | omega))] at hj
        obtain ⟨a1, a2⟩ := List.getElem?_eq_some_iff.mp hj
        obtain ⟨b1, b2⟩ := List.getElem?_eq_some_iff.mp hk
        have := (List.getElem_inj hond).mp (a2.trans b2.symm)
        (first | lia | omega)
      have hrl : rs.length ≤ ts.length := by
        rw [fr.len]
        have h1 : ∀ x ∈ ks, x < ts.length := fun x hx => (hom x).mp (List.mem_of_mem_take (fr.ksub x hx).1)
        exact RM.nodup_le fr.nd h1
      obtain ⟨ct, ex, hct⟩ := tie_in (g := g) h3 hkl
      have ha : (netOf p ts g).a k < p := (netOf p ts g).al k hkl
      have hb : (netOf p ts g).b k < p := (netOf p ts g).bl k hkl
      have tk : od.take (i + 1) = od.take i ++ [k] := take3 hk
      refine (exq rfl (exq rfl (exq rfl (ixq (SqT.of (s2 _ _ h1)) (atI_nat (j := 1) rfl) (exq rfl (ixq (SqT.of (s2 _ _ h2)) (atI_nat (j := k) ex) (ixq (SqT.of (s2 _ _ hct)) (atI_nat (j := 0) rfl) (exq rfl (ixq (SqT.of (s2 _ _ h1)) (atI_nat (j := 1) rfl) (exq rfl (ixq (SqT.of (s2 _ _ h2)) (atI_nat (j := k) ex) (ixq (SqT.of (s2 _ _ hct)) (atI_nat (j := 1) rfl) (?_)))))))))))))
      refine ⟨wb, p, ts, g, sm, _, _, rfl, hw.same s2, fr.lt, ha, hb, fun t H3 s3 hsub hbd => ?_, fun H3 s3 hn => ?_⟩
      · have hD3 := s3 _ _ hD2
        refine (exq rfl ⟨rfl, exq rfl (iteD (fun z => nomatch z) ?_)⟩)
        refine (exq rfl ⟨.inl ⟨rfl, _, SqL.of hD3⟩, exq rfl (exq rfl (ijq ⟨⟨by (first | lia | omega), by (first | lia | omega), by decide⟩, ijq (?_)⟩))⟩)
        refine ⟨D, _, _, rfl, rfl, hD3, smallL (by rw [natsV_len]; (first | lia | omega)), sm, _, _, ks ++ [k], rs ++ [t ||| 2 ^ k], rfl, (s2.trans s3).put hD, ?_, ?_⟩
        · rw [upd_same, natsV_snoc, shl_int]
          dsimp only
          rw [or_int]
        · rw [tk]
          exact fr.chord hkl hkd hsub hbd
      · refine (exq rfl ⟨rfl, exq rfl (iteP rfl (exq rfl (exq rfl (ijq ⟨⟨by (first | lia | omega), by (first | lia | omega), by decide⟩, ijq ⟨sm ||| 2 ^ k, some (.int (k : Int)), some .non, ks, rs, ?_, s2.trans s3, s3 _ _ hD2, ?_⟩⟩))))⟩)
        · show [_, _, some (V.int (Builtin.bitOr (sm : Int) (1 * 2 ^ ((k : Nat) : Int).toNat))), _, _, _] = _
          rw [shl_int, or_int]
        · rw [tk]
          exact fr.tree hkl hkd hn
    · rintro σ H2 ⟨sm, v4, v5, ks, rs, rfl, s2, hD2, fr⟩
      rw [natsV_len, List.take_length] at fr
      exact (exq rfl (q D rs H2 s2 hD2 (fr.base fun k hk => (hom k).mpr hk)))
end

def sp_exch : Sp := fun vs H Q _ => ∃ w p ts, ∃ g : GoodWeb p ts, ∃ (l : Addr) (rs : List Nat) (c : Int), vs = [.ref w, .ref l, .int c] ∧ WebAt H w p ts ∧ H l = some (.lst (natsV rs)) ∧ RM.Base (netOf p ts g) rs ∧ ∀ D rs' H', Same H H' → H' D = some (.lst (natsV rs')) → RM.Base (netOf p ts g) rs' → Q (.ref D) H'
section
variable {P : Program} {w : World} {K : PySem.W.Frag} {mg : Str → Option Value} {base : Heap} {a : Adr}
theorem G_law_exchanged (T : Txt K mg a) : FnOk P w K mg base CX0 3 a.f_law_exchanged a.d_law_exchanged ["web", "rings", "cell"] sp_exch := by
  have G_law_mixed : FnOk P w K mg base CX0 1 a.f_law_mixed a.d_law_mixed ["cell", "k"] sp_mixed := G_law_mixed T
  have G_law_ring : FnOk P w K mg base CX0 2 a.f_law_ring a.d_law_ring ["web", "some"] sp_lring := G_law_ring T
  refine T.F_law_exchanged.ok sc_law_exchanged (fun vs H Q E h => ?_) (fun cdv A outer s H vs Q E hr h => ?_)
  · obtain ⟨w, p, ts, g, l, rs, c, rfl, _⟩ := h
    rfl
  · obtain ⟨wb, p, ts, g, l, rs, c, rfl, hw, hl, bs, q⟩ := h
    refine ⟨_, (@pss_cons _ _ _ _ _ (@ps_set _ _ 3 _ _ _ _ sc_law_exchanged.nd rfl (Or.inl rfl) (@pe_callTy _ _ _ _ _ _ _ _ _ (listK K) (by rfl) T.n_list PyProof.Rows.boot_list (@pa_cons _ _ _ _ _ (pv 1) pa_nil (by rfl)) (by decide) (by decide) (by rfl) (by rfl)) (by rfl) (by first | exact .inl rfl | exact .inr rfl | assumption)) (@pss_cons _ _ _ _ _ (@ps_for _ _ _ _ _ _ _ _ PassesOwn.never rfl (@pi_range1 _ _ _ _ _ _ (by rfl) T.n_range (@pa_cons _ _ _ _ _ (@pe_callB _ _ _ _ _ _ _ _ _ (lenK K) (by rfl) T.n_len PySem.boot_len (@pa_cons _ _ _ _ _ (pv 3) pa_nil (by rfl)) (by decide) (by decide) (by rfl) (by rfl)) pa_nil (by rfl)) (by rfl)) (pg_name (i := 4) sc_law_exchanged.nd rfl (Or.inl rfl)) (@pss_cons _ _ _ _ _ (@ps_set _ _ 5 _ _ _ _ sc_law_exchanged.nd rfl (Or.inl rfl) (@pe_op _ _ _ _ _ _ _ _ op_mod (@pe_call _ _ _ _ _ _ _ _ _ _ _ _ _ _ _ _ G_law_mixed (hr.mono (by decide)) (by rfl) T.m_law_mixed T.k_law_mixed T.b_law_mixed .nil pass0 (@pa_cons _ _ _ _ _ (pv 2) (@pa_cons _ _ _ _ _ (@pe_op _ _ _ _ _ _ _ _ op_add pe_int (pv 4)) pa_nil (by rfl)) (by rfl)) (by decide) (by rfl) (by rfl)) (@pe_callB _ _ _ _ _ _ _ _ _ (lenK K) (by rfl) T.n_len PySem.boot_len (@pa_cons _ _ _ _ _ (pv 3) pa_nil (by rfl)) (by decide) (by decide) (by rfl) (by rfl))) (by rfl) (by first | exact .inl rfl | exact .inr rfl | assumption)) (@pss_one _ _ _ (@ps_if _ _ _ _ _ _ _ _ (PW.pt (@pw_and _ _ _ _ _ _ _ (@pt_cmpR _ _ _ _ _ _ _ _ op_ne (pv 5) (pv 4) (nomark _)) (@pw_and1 _ _ _ _ (@pt_val _ _ _ (@pe_call _ _ _ _ _ _ _ _ _ _ _ _ _ _ _ _ G_law_ring (hr.mono (by decide)) (by rfl) T.m_law_ring T.k_law_ring T.b_law_ring .nil pass0 (@pa_cons _ _ _ _ _ (pv 0) (@pa_cons _ _ _ _ _ (@pe_op _ _ _ _ _ _ _ _ op_xor (@pe_ix _ _ _ _ _ _ _ (ixL K) (pv 3) (pv 4) (fun _ _ => rfl)) (@pe_ix _ _ _ _ _ _ _ (ixL K) (pv 3) (pv 5) (fun _ _ => rfl))) pa_nil (by rfl)) (by rfl)) (by decide) (by rfl) (by rfl)) (by intro _; rfl))))) (@pss_one _ _ _ (@ps_asg _ _ _ _ _ _ (@pe_op _ _ _ _ _ _ _ _ op_xor (@pe_ix _ _ _ _ _ _ _ (ixL K) (pv 3) (pv 4) (fun _ _ => rfl)) (@pe_ix _ _ _ _ _ _ _ (ixL K) (pv 3) (pv 5) (fun _ _ => rfl))) (@pg_sub _ _ _ _ _ _ _ (pv 3) (pv 4) set_list (by intro _; rfl)) (by rfl) (by rfl) (by rfl))) pss_nil))) (by intro _; rfl)) (@pss_one _ _ _ (@ps_ret _ _ _ _ (pv 3))))), ?_⟩
    refine hd_law_exchanged ?_
    intro zz0 zz1 zz2 zz3 zz4
    have hrl : rs.length ≤ 24 := by
      rw [bs.len]
      have h1 : (netOf p ts g).chords.length ≤ ts.length := by
        unfold RM.Net.chords
        have := List.length_filter_le (fun k => !(netOf p ts g).inF k) (List.range (netOf p ts g).n)
        rw [List.length_range] at this
        exact this
      have := g.len
      (first | lia | omega)
    refine (exq rfl (lnq rfl (.inl (SqL.of hl)) (fun D hD => ?_)))
    have s1 : Same H (upd H D (.lst (natsV rs))) := Same.new hD
    have hD1 : upd H D (.lst (natsV rs)) D = some (.lst (natsV rs)) := upd_same
    generalize upd H D (.lst (natsV rs)) = H1 at s1 hD1
    refine (exq rfl (lnq rfl (.inl (SqL.of hD1)) (exq rfl ⟨(by rw [natsV_len]; (first | lia | omega)), (by rw [natsV_len]; (first | lia | omega)), ?_⟩)))
    refine for_range' (lo := 0) (n := ((natsV rs).length : Int).toNat) (fun i σ H2 => ∃ v4 v5 rs', σ = [some (.ref wb), some (.ref l), some (.int c), some (.ref D), v4, v5] ∧ Same H H2 ∧ H2 D = some (.lst (natsV rs')) ∧ RM.Base (netOf p ts g) rs' ∧ rs'.length = rs.length) ⟨none, none, rs, rfl, s1, hD1, bs, rfl⟩ ?_ ?_
    · rintro k D' σ H2 hk ⟨v4, v5, rs', rfl, s2, hD2, bs', hl2⟩
      rw [natsV_len, Int.toNat_natCast] at hk
      rw [Int.zero_add]
      refine (exq rfl (exq rfl (ijq ⟨c, _, rfl, by (first | lia | omega), by (first | lia | omega), fun z hz hz2 => ?_⟩)))
      refine (exq rfl (lnq rfl (.inl (SqL.of hD2)) (ijq ⟨(by rw [natsV_len]; (first | lia | omega)), ?_⟩)))
      obtain ⟨o, ho, ho2⟩ : ∃ o : Nat, z % ((natsV rs').length : Int) = (o : Int) ∧ o < rs'.length := by
        rw [natsV_len]
        obtain ⟨h1, h2⟩ := emod2 z (rs'.length : Int) (by (first | lia | omega))
        exact ⟨(z % (rs'.length : Int)).toNat, by (first | lia | omega), by (first | lia | omega)⟩
      dsimp only
      rw [ho]
      have hx : rs'[k]? = some (rs'[k]'(by (first | lia | omega))) := List.getElem?_eq_getElem _
      have hy : rs'[o]? = some (rs'[o]'ho2) := List.getElem?_eq_getElem _
      generalize rs'[k]'(by (first | lia | omega)) = x at hx
      generalize rs'[o]'ho2 = y at hy
      refine (exq rfl (exq rfl ⟨rfl, exq rfl (?_)⟩))
      by_cases e : o = k
      case pos => exact iteNS (by rw [e]) ⟨_, _, rs', rfl, s2, hD2, bs', hl2⟩
      refine iteNe (fun z => e (by have := V.int.inj z; (first | lia | omega))) ?_
      have ex : Builtin.bitXor (x : Int) (y : Int) = ((x ^^^ y : Nat) : Int) := xor_int x y
      have hxy : x ^^^ y < 2 ^ ts.length := Nat.xor_lt_two_pow (bs'.ring x (List.mem_of_getElem? hx)).2 (bs'.ring y (List.mem_of_getElem? hy)).2
      refine (exq rfl (exq rfl (exq rfl (ixl (SqL.of hD2) (atI_nat (nats_at hx)) (exq rfl (exq rfl (ixl (SqL.of hD2) (atI_nat (nats_at hy)) (ijq ⟨wb, p, ts, g, _, x ^^^ y, rfl, ex, hw.same s2, hxy, fun H3 d s3 hd => (exq rfl (?_))⟩))))))))
      have hD3 := s3 _ _ hD2
      cases d with
      | false => exact iteF ⟨_, _, rs', rfl, s2.trans s3, hD3, bs', hl2⟩
      | true =>
        refine iteT (exq rfl (exq rfl (ixl (SqL.of hD3) (atI_nat (nats_at hx)) (exq rfl (exq rfl (ixl (SqL.of hD3) (atI_nat (nats_at hy)) (ijq (exq rfl (exq rfl ⟨D, _, _, k, rfl, rfl, hD3, ixN_nat (by rw [natsV_len]; (first | lia | omega)), _, _, rs'.set k (x ^^^ y), rfl, (s2.trans s3).put hD, ?_, bs'.put hx hy e (hd.mp rfl), by rw [List.length_set]; exact hl2⟩)))))))))
        rw [upd_same]
        dsimp only
        rw [ex]
        unfold natsV
        rw [List.map_set]
    · rintro σ H2 ⟨v4, v5, rs', rfl, s2, hD2, bs', hl2⟩
      exact (exq rfl (q D rs' H2 s2 hD2 bs'))
end

def sp_whole : Sp := fun vs H Q _ => ∃ c, vs = [.int c] ∧ Q (.bl true) H
section
variable {P : Program} {w : World} {K : PySem.W.Frag} {mg : Str → Option Value} {base : Heap} {a : Adr}
theorem G_law_whole (T : Txt K mg a) : FnOk P w K mg base CX0 1 a.f_law_whole a.d_law_whole ["found"] sp_whole := by
  refine T.F_law_whole.ok sc_law_whole (fun vs H Q E h => ?_) (fun cdv A outer s H vs Q E hr h => ?_)
  · obtain ⟨c, rfl, _⟩ := h
    rfl
  · obtain ⟨c, rfl, k⟩ := h
    refine ⟨_, (@pss_one _ _ _ (@ps_ret _ _ _ _ (@pe_and _ _ _ _ _ _ _ (@pe_callB _ _ _ _ _ _ _ _ _ (isiK K) (by rfl) T.n_isinstance PyProof.Rows.boot_isinstance (@pa_cons _ _ _ _ _ (pv 0) (@pa_cons _ _ _ _ _ (pe_ty (by rfl) T.n_int PyProof.Rows.boot_int) pa_nil (by rfl)) (by rfl)) (by decide) (by decide) (by rfl) (by rfl)) (@pe_one _ _ _ _ _ (@pe_not _ _ _ _ (@pe_callB _ _ _ _ _ _ _ _ _ (isiK K) (by rfl) T.n_isinstance PyProof.Rows.boot_isinstance (@pa_cons _ _ _ _ _ (pv 0) (@pa_cons _ _ _ _ _ (pe_ty (by rfl) T.n_bool PyProof.Rows.boot_bool) pa_nil (by rfl)) (by rfl)) (by decide) (by decide) (by rfl) (by rfl))))))), ?_⟩
    exact (exq rfl ⟨_, _, _, _, _, rfl, rfl, .int c, kit_ii K, _, rfl, iteT (exq rfl ⟨_, _, _, _, _, rfl, rfl, .int c, kit_ib K, _, rfl, k⟩)⟩)
end

def sp_odd27 : Sp := fun vs H Q _ => ∃ (x y : Nat), vs = [.int (x : Int), .int (y : Int)] ∧ ∀ v : Bool, (∀ d, x &&& y < 2 ^ d → v = RM.xsum (fun j => (x &&& y).testBit j) d) → Q (.bl v) H
def sp_right : Sp := fun vs H Q _ => ∃ w p ts, ∃ g : GoodWeb p ts, ∃ (R F : Addr) (rs ms : List Nat), vs = [.ref w, .ref R, .ref F] ∧ WebAt H w p ts ∧ H R = some (.lst (natsV rs)) ∧ H F = some (.lst (natsV ms)) ∧ MarksOf (netOf p ts g) rs ms ∧ rs.length ≤ 200 ∧ Q (.bl true) H
def sp_refused27 : Sp := fun vs H Q _ => ∃ w p ts, ∃ g : GoodWeb p ts, ∃ (l : Addr) (zs : List Int), vs = [.ref w, .ref l] ∧ WebAt H w p ts ∧ H l = some (.lst (zs.map V.int)) ∧ zs.length ≤ 200 ∧ ¬ BaseI p ts g zs ∧ ∀ H', Same H H' → Q (.bl true) H'
def sp_law (K : PySem.W.Frag) : Sp := fun vs H Q _ => ∃ (a : Addr) (ns : List Int), vs = [.ref a] ∧ SqL K H a (ns.map V.int) ∧ ns.length ≤ 63 ∧ ∀ H', Q (.bl true) H'
theorem base_few {p : Nat} {ts : List Tie} {g : GoodWeb p ts} {rs : List Nat} (bs : RM.Base (netOf p ts g) rs) : rs.length ≤ 24 := by
  rw [bs.len]
  have h1 : (netOf p ts g).chords.length ≤ ts.length := by
    unfold RM.Net.chords
    have := List.length_filter_le (fun k => !(netOf p ts g).inF k) (List.range (netOf p ts g).n)
    rw [List.length_range] at this
    exact this
  have := g.len
  (first | lia | omega)
section
variable {P : Program} {w : World} {K : PySem.W.Frag} {mg : Str → Option Value} {base : Heap} {a : Adr}
theorem G_law_odd (T : Txt K mg a) : FnOk P w K mg base CX0 1 a.f_law_odd a.d_law_odd ["one", "other"] sp_odd27 := by
  refine T.F_law_odd.ok sc_law_odd (fun vs H Q E h => ?_) (fun cdv A outer s H vs Q E hr h => ?_)
  · obtain ⟨x, y, rfl, _⟩ := h
    rfl
  · obtain ⟨x, y, rfl, q⟩ := h
    refine ⟨_, (@pss_cons _ _ _ _ _ (@ps_set _ _ 2 _ _ _ _ sc_law_odd.nd rfl (Or.inl rfl) (@pe_op _ _ _ _ _ _ _ _ op_and (pv 0) (pv 1)) (by rfl) (by first | exact .inl rfl | exact .inr rfl | assumption)) (@pss_cons _ _ _ _ _ (@ps_set _ _ 3 _ _ _ _ sc_law_odd.nd rfl (Or.inl rfl) pe_int (by rfl) (by first | exact .inl rfl | exact .inr rfl | assumption)) (@pss_cons _ _ _ _ _ (@ps_while _ _ _ _ _ _ PassesOwn.never (@pt_cmpR _ _ _ _ _ _ _ _ op_gt (pv 2) pe_int (nomark _)) (@pss_cons _ _ _ _ _ (@ps_set _ _ 3 _ _ _ _ sc_law_odd.nd rfl (Or.inl rfl) (@pe_op _ _ _ _ _ _ _ _ op_sub pe_int (pv 3)) (by rfl) (by first | exact .inl rfl | exact .inr rfl | assumption)) (@pss_one _ _ _ (@ps_set _ _ 2 _ _ _ _ sc_law_odd.nd rfl (Or.inl rfl) (@pe_op _ _ _ _ _ _ _ _ op_and (pv 2) (@pe_op _ _ _ _ _ _ _ _ op_sub (pv 2) pe_int)) (by rfl) (by first | exact .inl rfl | exact .inr rfl | assumption))))) (@pss_one _ _ _ (@ps_ret _ _ _ _ (@pe_cmpR _ _ _ _ _ _ _ _ op_eq (pv 3) pe_int (nomark _))))))), ?_⟩
    refine hd_law_odd ?_
    intro zz0 zz1 zz2 zz3 zz4
    refine (exq rfl (exq rfl (ijq (?_))))
    have e0 : Builtin.bitAnd (x : Int) (y : Int) = ((x &&& y : Nat) : Int) := and_int x y
    refine ⟨fun k σ H2 => ∃ (n : Nat) (c : Bool), σ = [some (.int (x : Int)), some (.int (y : Int)), some (.int (n : Int)), some (.int (c.toNat : Int))] ∧ H2 = H ∧ (∀ d, x &&& y < 2 ^ d → n < 2 ^ d ∧ RM.xsum (fun j => (x &&& y).testBit j) d = (c ^^ RM.xsum (fun j => n.testBit j) d)) ∧ n = k, ⟨x &&& y, x &&& y, false, ?_, rfl, fun d hd => ⟨hd, by rw [Bool.false_xor]⟩, rfl⟩, ?_⟩
    · show [_, _, some (V.int (Builtin.bitAnd (x : Int) (y : Int))), _] = _
      rw [e0]
      rfl
    rintro k σ H2 ⟨n, c, rfl, rfl, hc, rfl⟩
    refine (exq rfl (ijq (exq rfl (ite2 (fun hpos => ?_) (fun hpos => ?_)))))
    · have hpos : (0 : Int) < ((n : Nat) : Int) := of_decide_eq_true hpos
      have hlt : n &&& (n - 1) < n := by
        have := Nat.and_le_right (n := n) (m := n - 1)
        (first | lia | omega)
      refine ⟨fun σ H3 => ∃ (n' : Nat) (c : Bool), σ = [some (.int (x : Int)), some (.int (y : Int)), some (.int (n' : Int)), some (.int (c.toNat : Int))] ∧ H3 = H2 ∧ (∀ d, x &&& y < 2 ^ d → n' < 2 ^ d ∧ RM.xsum (fun j => (x &&& y).testBit j) d = (c ^^ RM.xsum (fun j => n'.testBit j) d)) ∧ n' < n, fun σ H3 ⟨n', c, z1, z2, z3, z4⟩ => ⟨n', z4, n', c, z1, z2, z3, rfl⟩, ?_⟩
      refine (exq rfl (ijq (exq rfl (exq rfl (ijq (ijq ⟨n &&& (n - 1), !c, ?_, rfl, fun d hd => ?_, hlt⟩))))))
      · show [_, _, some (V.int (Builtin.bitAnd (n : Int) ((n : Int) - 1))), some (V.int (1 - (c.toNat : Int)))] = _
        rw [show (n : Int) - 1 = ((n - 1 : Nat) : Int) by (first | lia | omega), and_int]
        cases c <;> rfl
      · obtain ⟨h1, h2⟩ := hc d hd
        refine ⟨by (first | lia | omega), ?_⟩
        rw [h2, RM.low_off d n (by (first | lia | omega)) h1]
        cases c <;> cases RM.xsum (fun j => n.testBit j) d <;> rfl
    · have hz : n = 0 := by
        have : ¬ (0 : Int) < ((n : Nat) : Int) := fun z => hpos (decide_eq_true z)
        (first | lia | omega)
      subst hz
      have ec : decide (V.int (c.toNat : Int) = V.int 1) = c := by
        cases c
        · rfl
        · rfl
      refine (exq rfl ⟨rfl, ?_⟩)
      rw [ec]
      refine q c fun d hd => ?_
      rw [(hc d hd).2, RM.xsum_none fun k _ => Nat.zero_testBit k, Bool.xor_false]
theorem G_law_right (T : Txt K mg a) : FnOk P w K mg base CX0 2 a.f_law_right a.d_law_right ["web", "rings", "found"] sp_right := by
  have G_law_odd : FnOk P w K mg base CX0 1 a.f_law_odd a.d_law_odd ["one", "other"] sp_odd27 := G_law_odd T
  have G_law_whole : FnOk P w K mg base CX0 1 a.f_law_whole a.d_law_whole ["found"] sp_whole := G_law_whole T
  refine T.F_law_right.ok sc_law_right (fun vs H Q E h => ?_) (fun cdv A outer s H vs Q E hr h => ?_)
  · obtain ⟨w, p, ts, g, R, F, rs, ms, rfl, _⟩ := h
    rfl
  · obtain ⟨wb, p, ts, g, R, F, rs, ms, rfl, hw, hR, hF, ⟨mlen, mk⟩, hrl, q⟩ := h
    refine ⟨_, (@pss_cons _ _ _ _ _ (@ps_if _ _ _ _ _ _ _ _ (PW.pt (@pw_or _ _ _ _ _ _ _ (@pt_not _ _ _ _ (@pt_val _ _ _ (@pe_callB _ _ _ _ _ _ _ _ _ (isiK K) (by rfl) T.n_isinstance PyProof.Rows.boot_isinstance (@pa_cons _ _ _ _ _ (pv 2) (@pa_cons _ _ _ _ _ (pe_ty (by rfl) T.n_list PyProof.Rows.boot_list) pa_nil (by rfl)) (by rfl)) (by decide) (by decide) (by rfl) (by rfl)) (by intro _; rfl))) (@pw_or1 _ _ _ _ (@pt_cmpR _ _ _ _ _ _ _ _ op_ne (@pe_callB _ _ _ _ _ _ _ _ _ (lenK K) (by rfl) T.n_len PySem.boot_len (@pa_cons _ _ _ _ _ (pv 2) pa_nil (by rfl)) (by decide) (by decide) (by rfl) (by rfl)) (@pe_callB _ _ _ _ _ _ _ _ _ (lenK K) (by rfl) T.n_len PySem.boot_len (@pa_cons _ _ _ _ _ (pv 1) pa_nil (by rfl)) (by decide) (by decide) (by rfl) (by rfl)) (nomark _))))) (@pss_one _ _ _ (@ps_ret _ _ _ _ pe_bl)) pss_nil) (@pss_cons _ _ _ _ _ (@ps_for _ _ _ _ _ _ _ _ PassesOwn.never rfl (@pi_range1 _ _ _ _ _ _ (by rfl) T.n_range (@pa_cons _ _ _ _ _ (@pe_callB _ _ _ _ _ _ _ _ _ (lenK K) (by rfl) T.n_len PySem.boot_len (@pa_cons _ _ _ _ _ (pv 1) pa_nil (by rfl)) (by decide) (by decide) (by rfl) (by rfl)) pa_nil (by rfl)) (by rfl)) (pg_name (i := 3) sc_law_right.nd rfl (Or.inl rfl)) (@pss_cons _ _ _ _ _ (@ps_if _ _ _ _ _ _ _ _ (PW.pt (@pw_or _ _ _ _ _ _ _ (@pt_not _ _ _ _ (@pt_val _ _ _ (@pe_call _ _ _ _ _ _ _ _ _ _ _ _ _ _ _ _ G_law_whole (hr.mono (by decide)) (by rfl) T.m_law_whole T.k_law_whole T.b_law_whole .nil pass0 (@pa_cons _ _ _ _ _ (@pe_ix _ _ _ _ _ _ _ (ixL K) (pv 2) (pv 3) (fun _ _ => rfl)) pa_nil (by rfl)) (by decide) (by rfl) (by rfl)) (by intro _; rfl))) (@pw_or _ _ _ _ _ _ _ (@pt_cmpR _ _ _ _ _ _ _ _ op_lt (@pe_ix _ _ _ _ _ _ _ (ixL K) (pv 2) (pv 3) (fun _ _ => rfl)) pe_int (nomark _)) (@pw_or1 _ _ _ _ (@pt_cmpR _ _ _ _ _ _ _ _ op_ge (@pe_ix _ _ _ _ _ _ _ (ixL K) (pv 2) (pv 3) (fun _ _ => rfl)) (@pe_op _ _ _ _ _ _ _ _ op_shl pe_int (@pe_callB _ _ _ _ _ _ _ _ _ (lenK K) (by rfl) T.n_len PySem.boot_len (@pa_cons _ _ _ _ _ (@pe_ix _ _ _ _ _ _ _ (ixT K) (pv 0) pe_int (fun _ _ => rfl)) pa_nil (by rfl)) (by decide) (by decide) (by rfl) (by rfl))) (nomark _)))))) (@pss_one _ _ _ (@ps_ret _ _ _ _ pe_bl)) pss_nil) (@pss_one _ _ _ (@ps_for _ _ _ _ _ _ _ _ PassesOwn.never rfl (@pi_range1 _ _ _ _ _ _ (by rfl) T.n_range (@pa_cons _ _ _ _ _ (@pe_callB _ _ _ _ _ _ _ _ _ (lenK K) (by rfl) T.n_len PySem.boot_len (@pa_cons _ _ _ _ _ (pv 1) pa_nil (by rfl)) (by decide) (by decide) (by rfl) (by rfl)) pa_nil (by rfl)) (by rfl)) (pg_name (i := 4) sc_law_right.nd rfl (Or.inl rfl)) (@pss_one _ _ _ (@ps_if _ _ _ _ _ _ _ _ (@pt_cmpR _ _ _ _ _ _ _ _ op_ne (@pe_call _ _ _ _ _ _ _ _ _ _ _ _ _ _ _ _ G_law_odd (hr.mono (by decide)) (by rfl) T.m_law_odd T.k_law_odd T.b_law_odd .nil pass0 (@pa_cons _ _ _ _ _ (@pe_ix _ _ _ _ _ _ _ (ixL K) (pv 1) (pv 4) (fun _ _ => rfl)) (@pa_cons _ _ _ _ _ (@pe_ix _ _ _ _ _ _ _ (ixL K) (pv 2) (pv 3) (fun _ _ => rfl)) pa_nil (by rfl)) (by rfl)) (by decide) (by rfl) (by rfl)) (@pe_cmpR _ _ _ _ _ _ _ _ op_eq (pv 4) (pv 3) (nomark _)) (nomark _)) (@pss_one _ _ _ (@ps_ret _ _ _ _ pe_bl)) pss_nil)) (by intro _; rfl)))) (by intro _; rfl)) (@pss_one _ _ _ (@ps_ret _ _ _ _ pe_bl)))), ?_⟩
    refine hd_law_right ?_
    intro zz0 zz1 zz2 zz3 zz4 zz5 zz6 zz7
    obtain ⟨bt, xs, h1, h2, h3⟩ := id hw.ex
    have hxl := h3.length
    have wl := g.len
    refine (exq rfl ⟨_, _, _, _, _, rfl, rfl, .lst hF, kit_ll K, _, rfl, iteF (exq rfl (lnq rfl (.inl (SqL.of hF)) (exq rfl (lnq rfl (.inl (SqL.of hR)) ⟨rfl, exq rfl (iteNS (by rw [natsV_len, natsV_len, mlen]) ?_)⟩))))⟩)
    refine (exq rfl (lnq rfl (.inl (SqL.of hR)) (exq rfl ⟨(by rw [natsV_len]; (first | lia | omega)), (by rw [natsV_len]; (first | lia | omega)), ?_⟩)))
    refine for_range' (lo := 0) (n := ((natsV rs).length : Int).toNat) (fun k σ H2 => ∃ v3 v4, σ = [some (.ref wb), some (.ref R), some (.ref F), v3, v4] ∧ H2 = H) ⟨none, none, rfl, rfl⟩ ?_ ?_
    · rintro k D' σ H2 hk ⟨v3, v4, rfl, rfl⟩
      rw [natsV_len, Int.toNat_natCast] at hk
      rw [Int.zero_add]
      have hm : ms[k]? = some (ms[k]'(by (first | lia | omega))) := List.getElem?_eq_getElem _
      generalize ms[k]'(by (first | lia | omega)) = m at hm
      obtain ⟨hml, hpar⟩ := mk k m hm
      have hml : m < 2 ^ ts.length := hml
      have gF := atI_nat (nats_at hm)
      refine (exq rfl (exq rfl (ixl (SqL.of hF) (gF) (exq rfl (exq rfl (iteF ?_))))))
      refine (exq rfl (exq rfl (ixl (SqL.of hF) (gF) (ijq (exq rfl (iteD (by (first | lia | omega)) ?_))))))
      refine (exq rfl (exq rfl (ixl (SqL.of hF) (gF) (exq rfl (ixq (SqT.of h1) (atI_nat (j := 1) rfl) (lnq rfl (.inr (SqT.of h2)) (ijq ⟨⟨by (first | lia | omega), by (first | lia | omega), by decide⟩, ijq (exq rfl (iteD ?_ ?_))⟩)))))))
      · rw [shl_int, hxl]
        (first | lia | omega)
      refine (exq rfl (lnq rfl (.inl (SqL.of hR)) (exq rfl ⟨(by rw [natsV_len]; (first | lia | omega)), (by rw [natsV_len]; (first | lia | omega)), ?_⟩)))
      refine for_range' (lo := 0) (n := ((natsV rs).length : Int).toNat) (fun j σ H3 => ∃ v4, σ = [some (.ref wb), some (.ref R), some (.ref F), some (.int (k : Int)), v4] ∧ H3 = H2) (exq rfl (rfl)) ?_ ?_
      · rintro j D2' σ H3 hj ⟨v4, rfl, rfl⟩
        rw [natsV_len, Int.toNat_natCast] at hj
        rw [Int.zero_add]
        have hr : rs[j]? = some rs[j] := List.getElem?_eq_getElem hj
        generalize rs[j] = r at hr
        have hp := hpar j r hr
        refine (exq rfl (exq rfl (ixl (SqL.of hR) (atI_nat (nats_at hr)) (exq rfl (exq rfl (ixl (SqL.of hF) (gF) ⟨r, m, rfl, fun v hv => ?_⟩))))))
        have ev : v = decide (k = j) := by
          rw [hv ts.length (Nat.and_lt_two_pow _ hml), ← hp]
          exact RM.xsum_congr fun i _ => Nat.testBit_and ..
        refine (exq rfl (exq rfl ⟨rfl, rfl, exq rfl (iteNS ?_ (exq rfl (rfl)))⟩))
        rw [ev, dec_nat]
        exact congrArg V.bl (decide_eq_decide.mpr eq_comm)
      · rintro σ H3 ⟨v4, rfl, rfl⟩
        exact ⟨_, _, rfl, rfl⟩
    · rintro σ H2 ⟨v3, v4, rfl, rfl⟩
      exact q
theorem G_law_refused (T : Txt K mg a) : FnOk P w K mg base CX0 11 a.f_law_refused a.d_law_refused ["web", "rings"] sp_refused27 := by
  have G_marks_for : FnOk P w K mg base (CX1 P w) 10 a.f_marks_for a.d_marks_for ["web", "rings"] (sp_marks_for a.c_NoBase) := G_marks_for T
  refine T.F_law_refused.ok sc_law_refused (fun vs H Q E h => ?_) (fun cdv A outer s H vs Q E hr h => ?_)
  · obtain ⟨w, p, ts, g, l, zs, rfl, _⟩ := h
    rfl
  · obtain ⟨wb, p, ts, g, l, zs, rfl, hw, hl, hz, hn, q⟩ := h
    refine ⟨_, (@pss_cons _ _ _ _ _ (@ps_set _ _ 2 _ _ _ _ sc_law_refused.nd rfl (Or.inl rfl) pe_non (by rfl) (by first | exact .inl rfl | exact .inr rfl | assumption)) (@pss_cons _ _ _ _ _ (@ps_try _ _ _ 3 _ _ _ _ _ _ _ _ _ K rfl rfl rfl sc_law_refused.nd rfl rfl (by rfl) T.g_RingError (fun E pn xe hp => (pss_one (ps_expr (pe_call G_marks_for (hr.mono (by decide)) (by rfl) T.m_marks_for T.k_marks_for T.b_marks_for .nil hp (pa_cons (pv 0) (pa_cons (pv 1) pa_nil)))))) (fun ea pn => (pss_one (ps_set (i := 2) sc_law_refused.nd rfl (Or.inl rfl) (pv 3)))) (by rfl) (by decide)) (@pss_cons _ _ _ _ _ (@ps_if _ _ _ _ _ _ _ _ (PW.pt (@pw_or _ _ _ _ _ _ _ (@pt_not _ _ _ _ (@pt_val _ _ _ (@pe_callB _ _ _ _ _ _ _ _ _ (isiX K) (by rfl) T.n_isinstance PyProof.Rows.boot_isinstance (@pa_cons _ _ _ _ _ (pv 2) (@pa_cons _ _ _ _ _ (@pe_cls _ _ _ _ (by rfl) T.g_NoBase (by decide)) pa_nil (by rfl)) (by rfl)) (by decide) (by decide) (by rfl) (by rfl)) (by intro _; rfl))) (@pw_or1 _ _ _ _ (@pt_not _ _ _ _ (@pt_val _ _ _ (@pe_callB _ _ _ _ _ _ _ _ _ (isiX K) (by rfl) T.n_isinstance PyProof.Rows.boot_isinstance (@pa_cons _ _ _ _ _ (pv 2) (@pa_cons _ _ _ _ _ (pe_ty (T := "ValueError") (by rfl) T.n_ValueError (by decide +kernel)) pa_nil (by rfl)) (by rfl)) (by decide) (by decide) (by rfl) (by rfl)) (by intro _; rfl)))))) (@pss_one _ _ _ (@ps_ret _ _ _ _ pe_bl)) pss_nil) (@pss_one _ _ _ (@ps_ret _ _ _ _ (@pe_not _ _ _ _ (@pe_callB _ _ _ _ _ _ _ _ _ (isiXT K) (by rfl) T.n_isinstance PyProof.Rows.boot_isinstance (@pa_cons _ _ _ _ _ (pv 2) (@pa_cons _ _ _ _ _ (@pe_tup _ _ _ _ _ (@pa_cons _ _ _ _ _ (@pe_cls _ _ _ _ (by rfl) T.g_BadSet (by decide)) (@pa_cons _ _ _ _ _ (@pe_cls _ _ _ _ (by rfl) T.g_BadWeb (by decide)) (@pa_cons _ _ _ _ _ (@pe_cls _ _ _ _ (by rfl) T.g_NoSuch (by decide)) (@pa_cons _ _ _ _ _ (@pe_cls _ _ _ _ (by rfl) T.g_NotRing (by decide)) (@pa_cons _ _ _ _ _ (@pe_cls _ _ _ _ (by rfl) T.g_TooMany (by decide)) pa_nil (by rfl)) (by rfl)) (by rfl)) (by rfl)) (by rfl))) pa_nil (by rfl)) (by rfl)) (by decide) (by decide) (by rfl) (by rfl)))))))), ?_⟩
    refine hd_law_refused ?_
    intro zz0 zz1 zz2 zz3
    refine ⟨fun cls od H' => cls = .ref a.c_NoBase ∧ Same H H', ?_, ?_⟩
    · exact (exq rfl (exq rfl ⟨wb, p, ts, g, l, zs, rfl, hw, hl, hz, .inr ⟨hn, fun H' s' => ⟨rfl, s'⟩⟩⟩))
    · rintro cls od H' ⟨rfl, s1⟩
      refine ⟨T.h_NoBase, fun ea hea => ?_⟩
      have s2 := s1.trans (Same.new (o := ExcO ea (.ref a.c_NoBase)) hea)
      have he : upd H' ea (ExcO ea (.ref a.c_NoBase)) ea = some (ExcO ea (.ref a.c_NoBase)) := upd_same
      generalize upd H' ea (ExcO ea (.ref a.c_NoBase)) = H2 at s2 he
      have ky : PySem.W.kitAny K (.ref a.c_NoBase) [.ref a.c_BadSet, .ref a.c_BadWeb, .ref a.c_NoSuch, .ref a.c_NotRing, .ref a.c_TooMany] = some false := by
        simp only [PySem.W.kitAny, T.q_NoBase_BadSet, T.q_NoBase_BadWeb, T.q_NoBase_NoSuch, T.q_NoBase_NotRing, T.q_NoBase_TooMany]
      refine (exq rfl (?_))
      refine (exq rfl ⟨ea, _, a.c_NoBase, _, _, rfl, rfl, he, T.e_NoBase, T.q_NoBase_NoBase, _, rfl, iteF (exq rfl ⟨ea, _, a.c_NoBase, _, _, rfl, rfl, he, T.e_NoBase, T.qV_NoBase, _, rfl, iteF ?_⟩)⟩)
      refine (exq rfl ⟨dl rfl, fun tp htp => ⟨ea, tp, _, _, a.c_NoBase, _, rfl, upd_same, .cons rfl (.cons rfl (.cons rfl (.cons rfl (.cons rfl .nil)))), Same.new htp _ _ he, T.e_NoBase, ky, _, rfl, q _ (s2.trans (Same.new htp))⟩⟩)
end

section
variable {P : Program} {w : World} {K : PySem.W.Frag} {mg : Str → Option Value} {base : Heap} {a : Adr}
theorem not_base_len {p : Nat} {ts : List Tie} {g : GoodWeb p ts} {zs : List Int} (h : zs.length ≠ (netOf p ts g).chords.length) : ¬ BaseI p ts g zs := fun ⟨rs, e, b⟩ => h (by rw [e, List.length_map]; exact b.len)
theorem G_law (T : Txt K mg a) : FnOk P w K mg base CX0 12 a.f_law a.d_law ["script"] (sp_law K) := by
  have G_law_web : FnOk P w K mg base CX0 3 a.f_law_web a.d_law_web ["script", "most", "ranked"] (sp_web K) := G_law_web T
  have G_law_cell_at : FnOk P w K mg base CX0 1 a.f_law_cell_at a.d_law_cell_at ["script", "k"] (sp_cell K) := G_law_cell_at T
  have G_law_mixed : FnOk P w K mg base CX0 1 a.f_law_mixed a.d_law_mixed ["cell", "k"] sp_mixed := G_law_mixed T
  have G_law_order : FnOk P w K mg base CX0 2 a.f_law_order a.d_law_order ["cell", "many"] sp_order := G_law_order T
  have G_law_chord_rings : FnOk P w K mg base CX0 2 a.f_law_chord_rings a.d_law_chord_rings ["web", "order"] sp_chords26 := G_law_chord_rings T
  have G_law_exchanged : FnOk P w K mg base CX0 3 a.f_law_exchanged a.d_law_exchanged ["web", "rings", "cell"] sp_exch := G_law_exchanged T
  have G_law_right : FnOk P w K mg base CX0 2 a.f_law_right a.d_law_right ["web", "rings", "found"] sp_right := G_law_right T
  have G_law_refused : FnOk P w K mg base CX0 11 a.f_law_refused a.d_law_refused ["web", "rings"] sp_refused27 := G_law_refused T
  have G_marks_for : FnOk P w K mg base (CX1 P w) 10 a.f_marks_for a.d_marks_for ["web", "rings"] (sp_marks_for a.c_NoBase) := G_marks_for T
  refine T.F_law.ok sc_law (fun vs H Q E h => ?_) (fun cdv A outer s H vs Q E hr h => ?_)
  · obtain ⟨b, ns, rfl, _⟩ := h
    rfl
  · obtain ⟨b, ns, rfl, hS, hn, fin⟩ := h
    refine ⟨_, (@pss_cons _ _ _ _ _ (@ps_set _ _ 1 _ _ _ _ sc_law.nd rfl (Or.inl rfl) (@pe_call _ _ _ _ _ _ _ _ _ _ _ _ _ _ _ _ G_law_web (hr.mono (by decide)) (by rfl) T.m_law_web T.k_law_web T.b_law_web .nil pass0 (@pa_cons _ _ _ _ _ (pv 0) (@pa_cons _ _ _ _ _ pe_int (@pa_cons _ _ _ _ _ pe_int pa_nil (by rfl)) (by rfl)) (by rfl)) (by decide) (by rfl) (by rfl)) (by rfl) (by first | exact .inl rfl | exact .inr rfl | assumption)) (@pss_cons _ _ _ _ _ (@ps_set _ _ 2 _ _ _ _ sc_law.nd rfl (Or.inl rfl) (@pe_op _ _ _ _ _ _ _ _ op_fdiv (@pe_call _ _ _ _ _ _ _ _ _ _ _ _ _ _ _ _ G_law_cell_at (hr.mono (by decide)) (by rfl) T.m_law_cell_at T.k_law_cell_at T.b_law_cell_at .nil pass0 (@pa_cons _ _ _ _ _ (pv 0) (@pa_cons _ _ _ _ _ pe_int pa_nil (by rfl)) (by rfl)) (by decide) (by rfl) (by rfl)) pe_int) (by rfl) (by first | exact .inl rfl | exact .inr rfl | assumption)) (@pss_cons _ _ _ _ _ (@ps_set _ _ 3 _ _ _ _ sc_law.nd rfl (Or.inr rfl) (@pe_call _ _ _ _ _ _ _ _ _ _ _ _ _ _ _ _ G_law_chord_rings (hr.mono (by decide)) (by rfl) T.m_law_chord_rings T.k_law_chord_rings T.b_law_chord_rings .nil pass0 (@pa_cons _ _ _ _ _ (pv 1) (@pa_cons _ _ _ _ _ (@pe_call _ _ _ _ _ _ _ _ _ _ _ _ _ _ _ _ G_law_order (hr.mono (by decide)) (by rfl) T.m_law_order T.k_law_order T.b_law_order .nil pass0 (@pa_cons _ _ _ _ _ (pv 2) (@pa_cons _ _ _ _ _ (@pe_callB _ _ _ _ _ _ _ _ _ (lenK K) (by rfl) T.n_len PySem.boot_len (@pa_cons _ _ _ _ _ (@pe_ix _ _ _ _ _ _ _ (ixT K) (pv 1) pe_int (fun _ _ => rfl)) pa_nil (by rfl)) (by decide) (by decide) (by rfl) (by rfl)) pa_nil (by rfl)) (by rfl)) (by decide) (by rfl) (by rfl)) pa_nil (by rfl)) (by rfl)) (by decide) (by rfl) (by rfl)) (by rfl) (by first | exact .inl rfl | exact .inr rfl | assumption)) (@pss_cons _ _ _ _ _ (@ps_set _ _ 3 _ _ _ _ sc_law.nd rfl (Or.inr rfl) (@pe_call _ _ _ _ _ _ _ _ _ _ _ _ _ _ _ _ G_law_exchanged (hr.mono (by decide)) (by rfl) T.m_law_exchanged T.k_law_exchanged T.b_law_exchanged .nil pass0 (@pa_cons _ _ _ _ _ (pv 1) (@pa_cons _ _ _ _ _ (pv 3) (@pa_cons _ _ _ _ _ (pv 2) pa_nil (by rfl)) (by rfl)) (by rfl)) (by decide) (by rfl) (by rfl)) (by rfl) (by first | exact .inl rfl | exact .inr rfl | assumption)) (@pss_cons _ _ _ _ _ (@ps_set _ _ 3 _ _ _ _ sc_law.nd rfl (Or.inr rfl) (@pe_comp _ _ _ _ _ _ _ ["k"] ["rings"] [3] _ _ _ _ (compText_of (defScope s_law) ["script", "web", "head", "rings", "turn", "handed", "found", "at", "far", "bad"]) rfl (@piL _ _ _ _ K (@pe_call _ _ _ _ _ _ _ _ _ _ _ _ _ _ _ _ G_law_order (hr.mono (by decide)) (by rfl) T.m_law_order T.k_law_order T.b_law_order .nil pass0 (@pa_cons _ _ _ _ _ (@pe_op _ _ _ _ _ _ _ _ op_fdiv (pv 2) pe_int) (@pa_cons _ _ _ _ _ (@pe_callB _ _ _ _ _ _ _ _ _ (lenK K) (by rfl) T.n_len PySem.boot_len (@pa_cons _ _ _ _ _ (pv 3) pa_nil (by rfl)) (by decide) (by decide) (by rfl) (by rfl)) pa_nil (by rfl)) (by rfl)) (by decide) (by rfl) (by rfl)) (by rfl)) (fun _ _ _ _ => (pg_name (i := 0) (show (["k", "rings"] : List Str).Nodup by decide +kernel) rfl (Or.inl rfl))) (fun _ _ _ _ => pts_nil) (fun _ _ _ _ => (pe_ix (ixL K) (pv 1) (pv 0) (fun _ _ => rfl))) (by intro _; rfl)) (by rfl) (by first | exact .inl rfl | exact .inr rfl | assumption)) (@pss_cons _ _ _ _ _ (@ps_for _ _ _ _ _ _ _ _ PassesOwn.never rfl (@pi_range1 _ _ _ _ _ _ (by rfl) T.n_range (@pa_cons _ _ _ _ _ pe_int pa_nil (by rfl)) (by rfl)) (pg_name (i := 4) sc_law.nd rfl (Or.inl rfl)) (@pss_cons _ _ _ _ _ (@ps_set _ _ 5 _ _ _ _ sc_law.nd rfl (Or.inl rfl) (@pe_callTy _ _ _ _ _ _ _ _ _ (listK K) (by rfl) T.n_list PyProof.Rows.boot_list (@pa_cons _ _ _ _ _ (pv 3) pa_nil (by rfl)) (by decide) (by decide) (by rfl) (by rfl)) (by rfl) (by first | exact .inl rfl | exact .inr rfl | assumption)) (@pss_cons _ _ _ _ _ (@ps_set _ _ 6 _ _ _ _ sc_law.nd rfl (Or.inl rfl) (@pe_call _ _ _ _ _ _ _ _ _ _ _ _ _ _ _ _ G_marks_for (hr.mono (by decide)) (by rfl) T.m_marks_for T.k_marks_for T.b_marks_for .nil passN (@pa_cons _ _ _ _ _ (pv 1) (@pa_cons _ _ _ _ _ (pv 5) pa_nil (by rfl)) (by rfl)) (by decide) (by rfl) (by rfl)) (by rfl) (by first | exact .inl rfl | exact .inr rfl | assumption)) (@pss_cons _ _ _ _ _ (@ps_if _ _ _ _ _ _ _ _ (PW.pt (@pw_or _ _ _ _ _ _ _ (@pt_not _ _ _ _ (@pt_val _ _ _ (@pe_call _ _ _ _ _ _ _ _ _ _ _ _ _ _ _ _ G_law_right (hr.mono (by decide)) (by rfl) T.m_law_right T.k_law_right T.b_law_right .nil pass0 (@pa_cons _ _ _ _ _ (pv 1) (@pa_cons _ _ _ _ _ (pv 3) (@pa_cons _ _ _ _ _ (pv 6) pa_nil (by rfl)) (by rfl)) (by rfl)) (by decide) (by rfl) (by rfl)) (by intro _; rfl))) (@pw_or1 _ _ _ _ (@pt_cmpR _ _ _ _ _ _ _ _ (op_neK K hr.units) (pv 5) (pv 3) (nomark _))))) (@pss_one _ _ _ (@ps_ret _ _ _ _ pe_bl)) pss_nil) (@pss_one _ _ _ (@ps_expr _ _ _ _ (@bmK _ _ _ _ _ _ K (@pe_bm _ _ _ _ _ _ _ _ _ _ _ _ PySem.F.plainAttrs_list PySem.F.slot_list_append PySem.F.type_list_append mt_append (pv 6) (@pa_cons _ _ _ _ _ pe_int pa_nil (by rfl)) (by rfl) (by rfl) (by rfl) (by rfl) (by rfl)) (by rfl)) (by rfl)))))) (by intro _; rfl)) (@pss_cons _ _ _ _ _ (@ps_set _ _ 7 _ _ _ _ sc_law.nd rfl (Or.inl rfl) (@pe_op _ _ _ _ _ _ _ _ op_mod (@pe_call _ _ _ _ _ _ _ _ _ _ _ _ _ _ _ _ G_law_mixed (hr.mono (by decide)) (by rfl) T.m_law_mixed T.k_law_mixed T.b_law_mixed .nil pass0 (@pa_cons _ _ _ _ _ (pv 2) (@pa_cons _ _ _ _ _ pe_int pa_nil (by rfl)) (by rfl)) (by decide) (by rfl) (by rfl)) (@pe_op _ _ _ _ _ _ _ _ op_add (@pe_callB _ _ _ _ _ _ _ _ _ (lenK K) (by rfl) T.n_len PySem.boot_len (@pa_cons _ _ _ _ _ (pv 3) pa_nil (by rfl)) (by decide) (by decide) (by rfl) (by rfl)) pe_int)) (by rfl) (by first | exact .inl rfl | exact .inr rfl | assumption)) (@pss_cons _ _ _ _ _ (@ps_set _ _ 8 _ _ _ _ sc_law.nd rfl (Or.inl rfl) (@pe_call _ _ _ _ _ _ _ _ _ _ _ _ _ _ _ _ G_law_mixed (hr.mono (by decide)) (by rfl) T.m_law_mixed T.k_law_mixed T.b_law_mixed .nil pass0 (@pa_cons _ _ _ _ _ (pv 2) (@pa_cons _ _ _ _ _ pe_int pa_nil (by rfl)) (by rfl)) (by decide) (by rfl) (by rfl)) (by rfl) (by first | exact .inl rfl | exact .inr rfl | assumption)) (@pss_cons _ _ _ _ _ (@ps_set _ _ 9 _ _ _ _ sc_law.nd rfl (Or.inl rfl) (@pe_lst _ _ _ _ (@pa_cons _ _ _ _ _ (@pe_op _ _ _ _ _ _ _ _ (catL K) (pv 3) (@pe_slice _ _ _ _ _ _ _ _ _ _ (slL K) (pv 3) po_none (@po_some _ _ _ pe_int))) (@pa_cons _ _ _ _ _ (@pe_op _ _ _ _ _ _ _ _ (catL K) (@pe_op _ _ _ _ _ _ _ _ (catL K) (@pe_slice _ _ _ _ _ _ _ _ _ _ (slL K) (pv 3) po_none (@po_some _ _ _ (pv 7))) (@pe_lst _ _ _ _ (@pa_cons _ _ _ _ _ (@pe_op _ _ _ _ _ _ _ _ op_sub (@pe_un _ _ _ _ _ _ un_neg pe_int) (pv 8)) pa_nil (by rfl)))) (@pe_slice _ _ _ _ _ _ _ _ _ _ (slL K) (pv 3) (@po_some _ _ _ (@pe_op _ _ _ _ _ _ _ _ op_add (pv 7) pe_int)) po_none)) (@pa_cons _ _ _ _ _ (@pe_op _ _ _ _ _ _ _ _ (catL K) (pv 3) (@pe_lst _ _ _ _ (@pa_cons _ _ _ _ _ (@pe_op _ _ _ _ _ _ _ _ op_add (@pe_op _ _ _ _ _ _ _ _ op_shl pe_int (@pe_callB _ _ _ _ _ _ _ _ _ (lenK K) (by rfl) T.n_len PySem.boot_len (@pa_cons _ _ _ _ _ (@pe_ix _ _ _ _ _ _ _ (ixT K) (pv 1) pe_int (fun _ _ => rfl)) pa_nil (by rfl)) (by decide) (by decide) (by rfl) (by rfl))) (pv 8)) pa_nil (by rfl)))) pa_nil (by rfl)) (by rfl)) (by rfl))) (by rfl) (by first | exact .inl rfl | exact .inr rfl | assumption)) (@pss_cons _ _ _ _ _ (@ps_if _ _ _ _ _ _ _ _ (@pt_cmpR _ _ _ _ _ _ _ _ op_eq (@pe_callB _ _ _ _ _ _ _ _ _ (lenK K) (by rfl) T.n_len PySem.boot_len (@pa_cons _ _ _ _ _ (pv 3) pa_nil (by rfl)) (by decide) (by decide) (by rfl) (by rfl)) pe_int (nomark _)) (@pss_one _ _ _ (@ps_ret _ _ _ _ (@pe_and _ _ _ _ _ _ _ (@pe_call _ _ _ _ _ _ _ _ _ _ _ _ _ _ _ _ G_law_refused (hr.mono (by decide)) (by rfl) T.m_law_refused T.k_law_refused T.b_law_refused .nil pass0 (@pa_cons _ _ _ _ _ (pv 1) (@pa_cons _ _ _ _ _ (@pe_lst _ _ _ _ (@pa_cons _ _ _ _ _ pe_int pa_nil (by rfl))) pa_nil (by rfl)) (by rfl)) (by decide) (by rfl) (by rfl)) (@pe_and _ _ _ _ _ _ _ (@pe_call _ _ _ _ _ _ _ _ _ _ _ _ _ _ _ _ G_law_refused (hr.mono (by decide)) (by rfl) T.m_law_refused T.k_law_refused T.b_law_refused .nil pass0 (@pa_cons _ _ _ _ _ (pv 1) (@pa_cons _ _ _ _ _ (@pe_ix _ _ _ _ _ _ _ (ixL K) (pv 9) pe_int (fun _ _ => rfl)) pa_nil (by rfl)) (by rfl)) (by decide) (by rfl) (by rfl)) (@pe_one _ _ _ _ _ (@pe_call _ _ _ _ _ _ _ _ _ _ _ _ _ _ _ _ G_law_refused (hr.mono (by decide)) (by rfl) T.m_law_refused T.k_law_refused T.b_law_refused .nil pass0 (@pa_cons _ _ _ _ _ (pv 1) (@pa_cons _ _ _ _ _ (@pe_ix _ _ _ _ _ _ _ (ixL K) (pv 9) pe_int (fun _ _ => rfl)) pa_nil (by rfl)) (by rfl)) (by decide) (by rfl) (by rfl))))))) pss_nil) (@pss_one _ _ _ (@ps_ret _ _ _ _ (@pe_and _ _ _ _ _ _ _ (@pe_call _ _ _ _ _ _ _ _ _ _ _ _ _ _ _ _ G_law_refused (hr.mono (by decide)) (by rfl) T.m_law_refused T.k_law_refused T.b_law_refused .nil pass0 (@pa_cons _ _ _ _ _ (pv 1) (@pa_cons _ _ _ _ _ (@pe_ix _ _ _ _ _ _ _ (ixL K) (pv 9) pe_int (fun _ _ => rfl)) pa_nil (by rfl)) (by rfl)) (by decide) (by rfl) (by rfl)) (@pe_and _ _ _ _ _ _ _ (@pe_call _ _ _ _ _ _ _ _ _ _ _ _ _ _ _ _ G_law_refused (hr.mono (by decide)) (by rfl) T.m_law_refused T.k_law_refused T.b_law_refused .nil pass0 (@pa_cons _ _ _ _ _ (pv 1) (@pa_cons _ _ _ _ _ (@pe_ix _ _ _ _ _ _ _ (ixL K) (pv 9) pe_int (fun _ _ => rfl)) pa_nil (by rfl)) (by rfl)) (by decide) (by rfl) (by rfl)) (@pe_one _ _ _ _ _ (@pe_call _ _ _ _ _ _ _ _ _ _ _ _ _ _ _ _ G_law_refused (hr.mono (by decide)) (by rfl) T.m_law_refused T.k_law_refused T.b_law_refused .nil pass0 (@pa_cons _ _ _ _ _ (pv 1) (@pa_cons _ _ _ _ _ (@pe_slice _ _ _ _ _ _ _ _ _ _ (slL K) (pv 3) (@po_some _ _ _ pe_int) po_none) pa_nil (by rfl)) (by rfl)) (by decide) (by rfl) (by rfl))))))))))))))))), ?_⟩
    refine hd_law ?_
    intro zz0 zz1 zz2 zz3 zz4 zz5 zz6 zz7 zz8 zz9 zz10 zz11 zz12 zz13 zz14 zz15
    refine (exq rfl ⟨b, ns, 10, 5, rfl, hS, hn, by decide, fun wb p ts H1 s1 g p1 p6 t10 hw => ?_⟩)
    obtain ⟨bt, xs, h1, h2, h3⟩ := id hw.ex
    have hxl := h3.length
    refine (exq rfl ⟨b, ns, 0, rfl, (by decide), s1.seq hS, fun z0 => (ijq ⟨⟨by decide, by decide⟩, ?_⟩)⟩)
    dsimp only
    generalize z0 / 30 = hd
    refine (exq rfl (exq rfl (exq rfl (ixq (SqT.of h1) (atI_nat (j := 1) rfl) (lnq rfl (.inr (SqT.of h2)) ⟨hd, xs.length, rfl, by (first | lia | omega), fun O od H2 s2 hO pm => ?_⟩)))))
    rw [hxl] at pm
    refine ⟨wb, p, ts, g, O, od, rfl, hw.same s2, hO, pm, fun R0 rs0 H3 s3 hR0 bs0 => ?_⟩
    refine (exq rfl (exq rfl (exq rfl ⟨wb, p, ts, g, R0, rs0, hd, rfl, hw.same (s2.trans s3), hR0, bs0, fun R1 rs1 H4 s4 hR1 bs1 => ?_⟩)))
    have s14 := (s2.trans s3).trans s4
    have few1 := base_few bs1
    -- another order
    refine (exq rfl (ijq ⟨⟨by decide, by decide⟩, exq rfl (lnq rfl (.inl (SqL.of hR1)) ⟨_, (natsV rs1).length, rfl, by rw [natsV_len]; (first | lia | omega), fun O2 od2 H5 s5 hO2 pm2 => ?_⟩)⟩))
    rw [natsV_len] at pm2
    have hol : od2.length = rs1.length := by rw [pm2.length_eq, List.length_range]
    have hR15 := s5 _ _ hR1
    refine ⟨O2, rfl, ⟨_, SqL.of hO2⟩, fun R hRn => comp_list (xs := natsV od2) (fun i acc H6 => Same H5 H6 ∧ H6 R = some (.lst acc) ∧ acc = natsV ((od2.take i).map fun k => rs1.getD k 0)) ⟨Same.new hRn, upd_same, rfl⟩ ?_ (small24 (by rw [natsV_len]; (first | lia | omega))) ?_ ?_⟩
    · rintro i acc H6 hi ⟨s6, hR6, rfl⟩
      refine ⟨SqL.of (s6 _ _ hO2), hR6, ?_⟩
      rw [natsV_len, List.length_map, List.length_take]
      (first | lia | omega)
    · rintro i x acc H6 hx ⟨s6, hR6, rfl⟩
      obtain ⟨k, hk, rfl⟩ := natsV_get hx
      have hkl : k < rs1.length := List.mem_range.mp (pm2.mem_iff.mp (List.mem_of_getElem? hk))
      have hg : rs1[k]? = some (rs1.getD k 0) := by rw [List.getD_eq_getElem?_getD, List.getElem?_eq_getElem hkl]; rfl
      refine ⟨rfl, exq rfl (exq rfl (ixl (SqL.of (s6 _ _ hR15)) (atI_nat (nats_at hg)) ⟨hR6, s6.put hRn, upd_same, ?_⟩))⟩
      rw [take3 hk, List.map_append, ← natsV_snoc]
      rfl
    rintro acc H6 ⟨s6, hR6, rfl⟩
    rw [natsV_len, List.take_length] at hR6
    have bs : RM.Base (netOf p ts g) (od2.map fun k => rs1.getD k 0) := bs1.perm (by
      have h := pm2.map fun k => rs1.getD k 0
      have e : (List.range rs1.length).map (fun k => rs1.getD k 0) = rs1 := by
        refine List.ext_getElem? fun i => ?_
        rw [List.getElem?_map]
        by_cases hi : i < rs1.length
        · rw [List.getElem?_range hi, List.getElem?_eq_getElem hi]
          show some (rs1.getD i 0) = _
          rw [List.getD_eq_getElem?_getD, List.getElem?_eq_getElem hi]
          rfl
        · rw [List.getElem?_eq_none (by rw [List.length_range]; (first | lia | omega)), List.getElem?_eq_none (by (first | lia | omega))]
          rfl
      rwa [e] at h)
    generalize (od2.map fun k => rs1.getD k 0) = rs at hR6 bs
    have few := base_few bs
    have blen := bs.len
    have s16 := (s14.trans s5).trans s6
    have hw6 := hw.same s16
    clear s2 s3 s4 s5 s6 s14 hR15 hR1 hR0 hO hO2
    refine (exq rfl ⟨(by decide), (by decide), ?_⟩)
    refine for_range' (lo := 0) (n := (2 : Int).toNat) (fun i σ H7 => ∃ v4 v5 v6, σ = [some (.ref b), some (.ref wb), some (.int hd), some (.ref R), v4, v5, v6, none, none, none] ∧ Same H6 H7) ⟨none, none, none, rfl, Same.refl _⟩ ?_ ?_
    · rintro i D' σ H7 hi ⟨v4, v5, v6, rfl, s7⟩
      have hR7 := s7 _ _ hR6
      refine (exq rfl (lnq rfl (.inl (SqL.of hR7)) (fun C hC => ?_)))
      have s8 : Same H7 (upd H7 C (.lst (natsV rs))) := Same.new hC
      have hC8 : upd H7 C (.lst (natsV rs)) C = some (.lst (natsV rs)) := upd_same
      generalize upd H7 C (.lst (natsV rs)) = H8 at s8 hC8
      have s68 := s7.trans s8
      refine (exq rfl (exq rfl ⟨wb, p, ts, g, C, rs.map (fun x => ((x : Nat) : Int)), rfl, hw6.same s68, by rw [hC8, natsV_ints], by rw [List.length_map]; (first | lia | omega), .inl ⟨rs, rfl, bs, fun F ms H9 hFn s9 hF mk => ?_⟩⟩))
      have s69 := s68.trans s9
      refine (exq rfl (exq rfl (exq rfl ⟨wb, p, ts, g, R, F, rs, ms, rfl, hw6.same s69, s69 _ _ hR6, hF, mk, by (first | lia | omega), _, rfl, iteF ?_⟩)))
      refine (exq rfl (exq rfl ⟨_, _, .lst (SqL.of (s9 _ _ hC8)) (nats_dat _), .lst (SqL.of (s69 _ _ hR6)) (nats_dat _), shaped_nats _, shaped_nats _, _, rfl, ?_⟩))
      rw [eqv_nats]
      refine iteF (exq rfl ⟨.inl ⟨rfl, _, SqL.of hF⟩, F, _, _, rfl, rfl, hF, smallL (by rw [natsV_len, mk.1]; (first | lia | omega)), ?_⟩)
      exact ⟨_, _, _, rfl, s69.put (s68.free hFn)⟩
    · rintro σ H7 ⟨v4, v5, v6, rfl, s7⟩
      have hR7 := s7 _ _ hR6
      have hw7 := hw6.same s7
      have s17 := s16.trans s7
      refine (exq rfl ⟨hd, _, rfl, by decide, by decide, fun za _ _ => (exq rfl (lnq rfl (.inl (SqL.of hR7)) (ijq (ijq ⟨(by rw [natsV_len]; (first | lia | omega)), ?_⟩))))⟩)
      dsimp only
      obtain ⟨at', hat⟩ : ∃ i : Nat, za % (((natsV rs).length : Int) + 1) = (i : Int) := by
        obtain ⟨h1, h2⟩ := emod2 za (((natsV rs).length : Int) + 1) (by rw [natsV_len]; (first | lia | omega))
        exact ⟨(za % (((natsV rs).length : Int) + 1)).toNat, by (first | lia | omega)⟩
      rw [hat]
      refine (exq rfl ⟨hd, _, rfl, by decide, by decide, fun zf hzf _ => ?_⟩)
      rw [natsV_ints] at hR7
      generalize hzs : rs.map (fun x => ((x : Nat) : Int)) = zs at hR7
      have hzl : zs.length = rs.length := by rw [← hzs, List.length_map]
      have cut : ∀ lo hi, ∃ ys : List Int, cutV (zs.map V.int) lo hi = ys.map V.int ∧ ys.length ≤ 24 := fun lo hi => by
        refine ⟨_, ints_cut zs lo hi, ?_⟩
        rw [List.length_take, List.length_drop]
        (first | lia | omega)
      -- rings + rings[:1]
      refine (exq rfl (exq rfl (exq rfl ⟨R, _, rfl, SqL.of hR7, fun c1 hc1 => ?_⟩)))
      have e1 : cutV (zs.map V.int) none (some 1) = (zs.take 1).map V.int := by
        rw [ints_cut]
        have h1 : HT.sIx zs.length 0 none = 0 := rfl
        have h2 : HT.sIx zs.length zs.length (some (1 : Int)) = min 1 zs.length := HT.sIx_nat zs.length zs.length 1
        rw [h1, h2, Nat.sub_zero, List.drop_zero]
        congr 1
        rcases Nat.lt_or_ge 0 zs.length with h | h
        · rw [show min 1 zs.length = 1 by (first | lia | omega)]
        · have : zs = [] := List.length_eq_zero_iff.mp (by (first | lia | omega))
          rw [this]
          rfl
      rw [e1]
      have t1 : Same H7 (upd H7 c1 (.lst ((zs.take 1).map V.int))) := Same.new hc1
      have hc11 : upd H7 c1 (.lst ((zs.take 1).map V.int)) c1 = some (.lst ((zs.take 1).map V.int)) := upd_same
      generalize upd H7 c1 (.lst ((zs.take 1).map V.int)) = G1 at t1 hc11
      refine ⟨R, c1, _, _, rfl, rfl, SqL.of (t1 _ _ hR7), SqL.of hc11, dl (Nat.ble_eq.mpr (by rw [List.length_map, List.length_map, List.length_take]; (first | lia | omega))), fun b0 hb0 => ?_⟩
      rw [← List.map_append]
      have t2 : Same G1 (upd G1 b0 (.lst ((zs ++ zs.take 1).map V.int))) := Same.new hb0
      have hb02 : upd G1 b0 (.lst ((zs ++ zs.take 1).map V.int)) b0 = some (.lst ((zs ++ zs.take 1).map V.int)) := upd_same
      generalize upd G1 b0 (.lst ((zs ++ zs.take 1).map V.int)) = G2 at t2 hb02
      have t02 := t1.trans t2
      -- rings[:at] + [-1 - far] + rings[at + 1:]
      refine (exq rfl (exq rfl (exq rfl ⟨R, _, rfl, SqL.of (t02 _ _ hR7), fun c2 hc2 => ?_⟩)))
      obtain ⟨ya, ea, la⟩ := cut none (some (at' : Int))
      rw [ea]
      have t3 : Same G2 (upd G2 c2 (.lst (ya.map V.int))) := Same.new hc2
      have hc23 : upd G2 c2 (.lst (ya.map V.int)) c2 = some (.lst (ya.map V.int)) := upd_same
      generalize upd G2 c2 (.lst (ya.map V.int)) = G3 at t3 hc23
      refine (exq rfl (exq rfl (ijq ⟨dl rfl, fun c3 hc3 => ?_⟩)))
      dsimp only
      have t4 : Same G3 (upd G3 c3 (.lst [.int (-1 - zf)])) := Same.new hc3
      have hc34 : upd G3 c3 (.lst [.int (-1 - zf)]) c3 = some (.lst [.int (-1 - zf)]) := upd_same
      generalize upd G3 c3 (.lst [.int (-1 - zf)]) = G4 at t4 hc34
      refine ⟨c2, c3, _, _, rfl, rfl, SqL.of (t4 _ _ hc23), SqL.of hc34, dl (Nat.ble_eq.mpr (by rw [List.length_map]; show ya.length + 1 ≤ 1000; (first | lia | omega))), fun c4 hc4 => ?_⟩
      have t5 : Same G4 (upd G4 c4 (.lst (ya.map V.int ++ [.int (-1 - zf)]))) := Same.new hc4
      have hc45 : upd G4 c4 (.lst (ya.map V.int ++ [.int (-1 - zf)])) c4 = some (.lst (ya.map V.int ++ [.int (-1 - zf)])) := upd_same
      generalize upd G4 c4 (.lst (ya.map V.int ++ [.int (-1 - zf)])) = G5 at t5 hc45
      have t05 := ((t02.trans t3).trans t4).trans t5
      refine (exq rfl (exq rfl (ijq (exq rfl ⟨R, _, rfl, SqL.of (t05 _ _ hR7), fun c5 hc5 => ?_⟩))))
      obtain ⟨yb, eb, lb⟩ := cut (some ((at' : Int) + 1)) none
      rw [eb]
      have t6 : Same G5 (upd G5 c5 (.lst (yb.map V.int))) := Same.new hc5
      have hc56 : upd G5 c5 (.lst (yb.map V.int)) c5 = some (.lst (yb.map V.int)) := upd_same
      generalize upd G5 c5 (.lst (yb.map V.int)) = G6 at t6 hc56
      refine ⟨c4, c5, _, _, rfl, rfl, SqL.of (t6 _ _ hc45), SqL.of hc56, dl (Nat.ble_eq.mpr (by rw [List.length_append, List.length_map, List.length_map]; show ya.length + 1 + yb.length ≤ 1000; (first | lia | omega))), fun b1 hb1 => ?_⟩
      have ebb : ya.map V.int ++ [.int (-1 - zf)] ++ yb.map V.int = (ya ++ [-1 - zf] ++ yb).map V.int := by rw [List.map_append, List.map_append]; rfl
      rw [ebb]
      have t7 : Same G6 (upd G6 b1 (.lst ((ya ++ [-1 - zf] ++ yb).map V.int))) := Same.new hb1
      have hb17 : upd G6 b1 (.lst ((ya ++ [-1 - zf] ++ yb).map V.int)) b1 = some (.lst ((ya ++ [-1 - zf] ++ yb).map V.int)) := upd_same
      generalize upd G6 b1 (.lst ((ya ++ [-1 - zf] ++ yb).map V.int)) = G7 at t7 hb17
      have t07 := (t05.trans t6).trans t7
      -- rings + [2 ^ n + far]
      refine (exq rfl (exq rfl (ixq (SqT.of ((s17.trans t07) _ _ h1)) (atI_nat (j := 1) rfl) (lnq rfl (.inr (SqT.of ((s17.trans t07) _ _ h2))) (ijq ⟨⟨by (first | lia | omega), by (first | lia | omega), by decide⟩, exq rfl (ijq ⟨dl rfl, fun c6 hc6 => ?_⟩)⟩)))))
      dsimp only
      generalize (1 : Int) * 2 ^ ((xs.length : Nat) : Int).toNat + zf = zg
      have t8 : Same G7 (upd G7 c6 (.lst [.int zg])) := Same.new hc6
      have hc68 : upd G7 c6 (.lst [.int zg]) c6 = some (.lst [.int zg]) := upd_same
      generalize upd G7 c6 (.lst [.int zg]) = G8 at t8 hc68
      refine ⟨R, c6, _, _, rfl, rfl, SqL.of ((t07.trans t8) _ _ hR7), SqL.of hc68, dl (Nat.ble_eq.mpr (by rw [List.length_map]; show zs.length + 1 ≤ 1000; (first | lia | omega))), fun b2 hb2 => ?_⟩
      have ebc : zs.map V.int ++ [.int zg] = (zs ++ [zg]).map V.int := by rw [List.map_append]; rfl
      rw [ebc]
      have t9 : Same G8 (upd G8 b2 (.lst ((zs ++ [zg]).map V.int))) := Same.new hb2
      have hb29 : upd G8 b2 (.lst ((zs ++ [zg]).map V.int)) b2 = some (.lst ((zs ++ [zg]).map V.int)) := upd_same
      generalize upd G8 b2 (.lst ((zs ++ [zg]).map V.int)) = G9 at t9 hb29
      refine ⟨dl rfl, fun bd hbd => ?_⟩
      have t10 : Same G9 (upd G9 bd (.lst [.ref b0, .ref b1, .ref b2])) := Same.new hbd
      have hbd10 : upd G9 bd (.lst [.ref b0, .ref b1, .ref b2]) bd = some (.lst [.ref b0, .ref b1, .ref b2]) := upd_same
      generalize upd G9 bd (.lst [.ref b0, .ref b1, .ref b2]) = G10 at t10 hbd10
      have tAll := ((t07.trans t8).trans t9).trans t10
      have hw10 := hw7.same tAll
      have hR10 := tAll _ _ hR7
      have hb0' := ((((((((t3.trans t4).trans t5).trans t6).trans t7).trans t8).trans t9).trans t10)) _ _ hb02
      have hb1' := ((t8.trans t9).trans t10) _ _ hb17
      have hb2' := t10 _ _ hb29
      have nb1 : ¬ BaseI p ts g (ya ++ [-1 - zf] ++ yb) := fun ⟨rs2, e, _⟩ => by
        have hm : (-1 - zf) ∈ ya ++ [-1 - zf] ++ yb := List.mem_append_left _ (List.mem_append_right _ (by simp))
        rw [e] at hm
        obtain ⟨r, _, e2⟩ := List.mem_map.mp hm
        (first | lia | omega)
      have lb1 : (ya ++ [-1 - zf] ++ yb).length ≤ 200 := by
        rw [List.length_append, List.length_append]
        show ya.length + 1 + yb.length ≤ 200
        (first | lia | omega)
      have nb2 : ¬ BaseI p ts g (zs ++ [zg]) := not_base_len (by
        rw [List.length_append, hzl, blen]
        show _ + 1 ≠ _
        (first | lia | omega))
      refine (exq rfl (lnq rfl (.inl (SqL.of hR10)) ⟨rfl, exq rfl (ite2 (fun h0 => ?_) (fun h0 => ?_))⟩))
      · have h0 := V.int.inj (of_decide_eq_true h0)
        rw [List.length_map] at h0
        refine (exq rfl ⟨dl rfl, fun c7 hc7 => ?_⟩)
        have u1 : Same G10 (upd G10 c7 (.lst [.int 0])) := Same.new hc7
        have hc71 : upd G10 c7 (.lst [.int 0]) c7 = some (.lst (([0] : List Int).map V.int)) := upd_same
        generalize upd G10 c7 (.lst [.int 0]) = J1 at u1 hc71
        refine ⟨wb, p, ts, g, c7, [0], rfl, hw10.same u1, hc71, by decide, not_base_len (by rw [← blen, ← hzl]; show 1 ≠ _; (first | lia | omega)), fun J2 u2 => (exq rfl (iteT ?_))⟩
        have u12 := u1.trans u2
        refine (exq rfl (exq rfl (ixl (SqL.of (u12 _ _ hbd10)) (atI_nat (j := 1) rfl) ⟨wb, p, ts, g, b1, _, rfl, hw10.same u12, u12 _ _ hb1', lb1, nb1, fun J3 u3 => (exq rfl (iteT ?_))⟩)))
        have u13 := u12.trans u3
        exact (exq rfl (exq rfl (ixl (SqL.of (u13 _ _ hbd10)) (atI_nat (j := 2) rfl) ⟨wb, p, ts, g, b2, _, rfl, hw10.same u13, u13 _ _ hb2', by rw [List.length_append]; show _ + 1 ≤ _; (first | lia | omega), nb2, fun J4 u4 => fin J4⟩)))
      · have hpos : 0 < zs.length := by
          apply Nat.pos_of_ne_zero
          intro e
          refine h0 (decide_eq_true ?_)
          rw [List.length_map, e]
          rfl
        refine (exq rfl (exq rfl (ixl (SqL.of hbd10) (atI_nat (j := 0) rfl) ⟨wb, p, ts, g, b0, _, rfl, hw10, hb0', by rw [List.length_append, List.length_take]; (first | lia | omega), not_base_len (by rw [List.length_append, List.length_take, ← blen, ← hzl]; (first | lia | omega)), fun J2 u12 => (exq rfl (iteT ?_))⟩)))
        refine (exq rfl (exq rfl (ixl (SqL.of (u12 _ _ hbd10)) (atI_nat (j := 1) rfl) ⟨wb, p, ts, g, b1, _, rfl, hw10.same u12, u12 _ _ hb1', lb1, nb1, fun J3 u3 => (exq rfl (iteT ?_))⟩)))
        have u13 := u12.trans u3
        refine (exq rfl (exq rfl (exq rfl ⟨R, _, rfl, SqL.of (u13 _ _ hR10), fun c8 hc8 => ?_⟩)))
        have e8 : cutV (zs.map V.int) (some 1) none = (zs.drop 1).map V.int := by
          rw [ints_cut]
          have h1 : HT.sIx zs.length zs.length none = zs.length := rfl
          have h2 : HT.sIx zs.length 0 (some (1 : Int)) = min 1 zs.length := HT.sIx_nat zs.length 0 1
          rw [h1, h2, show min 1 zs.length = 1 by (first | lia | omega)]
          congr 1
          exact List.take_of_length_le (by rw [List.length_drop]; (first | lia | omega))
        rw [e8]
        exact ⟨wb, p, ts, g, c8, zs.drop 1, rfl, (hw10.same u13).same (Same.new hc8), upd_same, by rw [List.length_drop]; (first | lia | omega), not_base_len (by rw [List.length_drop, ← blen, ← hzl]; (first | lia | omega)), fun J4 u4 => fin J4⟩
end

theorem all_mk {l : PySem.W.OpenLaw} {w : World} {K : PySem.W.Frag} {h : Heap} {mg : Str → Option Value} {fa : Addr} (X : K.In h) (G : h.Ns mainGlobals mg) (hfa : mg "law" = some (.ref fa))
    {f0 f1 f2 f3 f4 f5 f6 f7 f8 f9 f10 f11 f12 f13 f14 f15 f16 f17 f18 f19 f20 f21 f22 f23 f24 f25 f26 f27 f28 f29 f30 f31 f32 f33 f34 f35 : Addr} {od0 an0 od1 an1 od2 an2 od3 an3 od4 an4 od5 an5 od6 an6 od7 an7 od8 an8 od9 an9 od10 an10 od11 an11 od12 an12 od13 an13 od14 an14 od15 an15 od16 an16 od17 an17 od18 an18 od19 an19 od20 an20 od21 an21 od22 an22 od23 an23 od24 an24 od25 an25 od26 an26 od27 an27 od28 an28 od29 an29 od30 an30 od31 an31 od32 an32 od33 an33 od34 an34 od35 an35 : Option Addr} {sl0 sl1 sl2 sl3 sl4 sl5 sl6 sl7 sl8 sl9 sl10 sl11 sl12 sl13 sl14 sl15 sl16 sl17 sl18 sl19 sl20 sl21 sl22 sl23 sl24 sl25 sl26 sl27 sl28 sl29 sl30 sl31 sl32 sl33 sl34 sl35 : Array (Option Value)}
    {oc0 kV0 dc0 pm0 cd0 ct0 oc1 kV1 dc1 pm1 cd1 ct1 oc2 kV2 dc2 pm2 cd2 ct2 oc3 kV3 dc3 pm3 cd3 ct3 oc4 kV4 dc4 pm4 cd4 ct4 oc5 kV5 dc5 pm5 cd5 ct5 oc6 kV6 dc6 pm6 cd6 ct6 oc7 kV7 dc7 pm7 cd7 ct7 oc8 kV8 dc8 pm8 cd8 ct8 oc9 kV9 dc9 pm9 cd9 ct9 oc10 kV10 dc10 pm10 cd10 ct10 oc11 kV11 dc11 pm11 cd11 ct11 oc12 kV12 dc12 pm12 cd12 ct12 oc13 kV13 dc13 pm13 cd13 ct13 oc14 kV14 dc14 pm14 cd14 ct14 oc15 kV15 dc15 pm15 cd15 ct15 oc16 kV16 dc16 pm16 cd16 ct16 oc17 kV17 dc17 pm17 cd17 ct17 oc18 kV18 dc18 pm18 cd18 ct18 oc19 kV19 dc19 pm19 cd19 ct19 oc20 kV20 dc20 pm20 cd20 ct20 oc21 kV21 dc21 pm21 cd21 ct21 oc22 kV22 dc22 pm22 cd22 ct22 oc23 kV23 dc23 pm23 cd23 ct23 oc24 kV24 dc24 pm24 cd24 ct24 oc25 kV25 dc25 pm25 cd25 ct25 oc26 kV26 dc26 pm26 cd26 ct26 oc27 kV27 dc27 pm27 cd27 ct27 oc28 kV28 dc28 pm28 cd28 ct28 oc29 kV29 dc29 pm29 cd29 ct29 oc30 kV30 dc30 pm30 cd30 ct30 oc31 kV31 dc31 pm31 cd31 ct31 oc32 kV32 dc32 pm32 cd32 ct32 oc33 kV33 dc33 pm33 cd33 ct33 oc34 kV34 dc34 pm34 cd34 ct34 oc35 kV35 dc35 pm35 cd35 ct35 : Value}
    {u_RingError u_BadWeb u_BadSet u_NotRing u_NoBase u_NoSuch u_TooMany : Addr}
    (a0 : PySem.W.nsIn K mainGlobals "has_tie" = some (some (.ref f0)))
    (l0 : K.lookup f0 = some ⟨oc0, od0, .func (PySem.W.fnOf "has_tie" "has_tie" (defArgs s_has_tie) (defBody s_has_tie) (defScope s_has_tie) .none kV0 dc0 pm0 an0 cd0 ct0), sl0⟩)
    (c0 : PySem.W.codeIn K cd0 "has_tie" = true) (k0 : PySem.W.keepIn K (.ref f0) = true)
    (a1 : PySem.W.nsIn K mainGlobals "ties_in" = some (some (.ref f1)))
    (l1 : K.lookup f1 = some ⟨oc1, od1, .func (PySem.W.fnOf "ties_in" "ties_in" (defArgs s_ties_in) (defBody s_ties_in) (defScope s_ties_in) .none kV1 dc1 pm1 an1 cd1 ct1), sl1⟩)
    (c1 : PySem.W.codeIn K cd1 "ties_in" = true) (k1 : PySem.W.keepIn K (.ref f1) = true)
    (a2 : PySem.W.nsIn K mainGlobals "set_of" = some (some (.ref f2)))
    (l2 : K.lookup f2 = some ⟨oc2, od2, .func (PySem.W.fnOf "set_of" "set_of" (defArgs s_set_of) (defBody s_set_of) (defScope s_set_of) .none kV2 dc2 pm2 an2 cd2 ct2), sl2⟩)
    (c2 : PySem.W.codeIn K cd2 "set_of" = true) (k2 : PySem.W.keepIn K (.ref f2) = true)
    (a3 : PySem.W.nsIn K mainGlobals "all_ties" = some (some (.ref f3)))
    (l3 : K.lookup f3 = some ⟨oc3, od3, .func (PySem.W.fnOf "all_ties" "all_ties" (defArgs s_all_ties) (defBody s_all_ties) (defScope s_all_ties) .none kV3 dc3 pm3 an3 cd3 ct3), sl3⟩)
    (c3 : PySem.W.codeIn K cd3 "all_ties" = true) (k3 : PySem.W.keepIn K (.ref f3) = true)
    (a4 : PySem.W.nsIn K mainGlobals "is_set" = some (some (.ref f4)))
    (l4 : K.lookup f4 = some ⟨oc4, od4, .func (PySem.W.fnOf "is_set" "is_set" (defArgs s_is_set) (defBody s_is_set) (defScope s_is_set) .none kV4 dc4 pm4 an4 cd4 ct4), sl4⟩)
    (c4 : PySem.W.codeIn K cd4 "is_set" = true) (k4 : PySem.W.keepIn K (.ref f4) = true)
    (a5 : PySem.W.nsIn K mainGlobals "check_set" = some (some (.ref f5)))
    (l5 : K.lookup f5 = some ⟨oc5, od5, .func (PySem.W.fnOf "check_set" "check_set" (defArgs s_check_set) (defBody s_check_set) (defScope s_check_set) .none kV5 dc5 pm5 an5 cd5 ct5), sl5⟩)
    (c5 : PySem.W.codeIn K cd5 "check_set" = true) (k5 : PySem.W.keepIn K (.ref f5) = true)
    (a6 : PySem.W.nsIn K mainGlobals "triples_in" = some (some (.ref f6)))
    (l6 : K.lookup f6 = some ⟨oc6, od6, .func (PySem.W.fnOf "triples_in" "triples_in" (defArgs s_triples_in) (defBody s_triples_in) (defScope s_triples_in) .none kV6 dc6 pm6 an6 cd6 ct6), sl6⟩)
    (c6 : PySem.W.codeIn K cd6 "triples_in" = true) (k6 : PySem.W.keepIn K (.ref f6) = true)
    (a7 : PySem.W.nsIn K mainGlobals "odd_points" = some (some (.ref f7)))
    (l7 : K.lookup f7 = some ⟨oc7, od7, .func (PySem.W.fnOf "odd_points" "odd_points" (defArgs s_odd_points) (defBody s_odd_points) (defScope s_odd_points) .none kV7 dc7 pm7 an7 cd7 ct7), sl7⟩)
    (c7 : PySem.W.codeIn K cd7 "odd_points" = true) (k7 : PySem.W.keepIn K (.ref f7) = true)
    (a8 : PySem.W.nsIn K mainGlobals "drawn_together" = some (some (.ref f8)))
    (l8 : K.lookup f8 = some ⟨oc8, od8, .func (PySem.W.fnOf "drawn_together" "drawn_together" (defArgs s_drawn_together) (defBody s_drawn_together) (defScope s_drawn_together) .none kV8 dc8 pm8 an8 cd8 ct8), sl8⟩)
    (c8 : PySem.W.codeIn K cd8 "drawn_together" = true) (k8 : PySem.W.keepIn K (.ref f8) = true)
    (a9 : PySem.W.nsIn K mainGlobals "pieces" = some (some (.ref f9)))
    (l9 : K.lookup f9 = some ⟨oc9, od9, .func (PySem.W.fnOf "pieces" "pieces" (defArgs s_pieces) (defBody s_pieces) (defScope s_pieces) .none kV9 dc9 pm9 an9 cd9 ct9), sl9⟩)
    (c9 : PySem.W.codeIn K cd9 "pieces" = true) (k9 : PySem.W.keepIn K (.ref f9) = true)
    (a10 : PySem.W.nsIn K mainGlobals "rank" = some (some (.ref f10)))
    (l10 : K.lookup f10 = some ⟨oc10, od10, .func (PySem.W.fnOf "rank" "rank" (defArgs s_rank) (defBody s_rank) (defScope s_rank) .none kV10 dc10 pm10 an10 cd10 ct10), sl10⟩)
    (c10 : PySem.W.codeIn K cd10 "rank" = true) (k10 : PySem.W.keepIn K (.ref f10) = true)
    (a11 : PySem.W.nsIn K mainGlobals "is_even" = some (some (.ref f11)))
    (l11 : K.lookup f11 = some ⟨oc11, od11, .func (PySem.W.fnOf "is_even" "is_even" (defArgs s_is_even) (defBody s_is_even) (defScope s_is_even) .none kV11 dc11 pm11 an11 cd11 ct11), sl11⟩)
    (c11 : PySem.W.codeIn K cd11 "is_even" = true) (k11 : PySem.W.keepIn K (.ref f11) = true)
    (a12 : PySem.W.nsIn K mainGlobals "is_ring" = some (some (.ref f12)))
    (l12 : K.lookup f12 = some ⟨oc12, od12, .func (PySem.W.fnOf "is_ring" "is_ring" (defArgs s_is_ring) (defBody s_is_ring) (defScope s_is_ring) .none kV12 dc12 pm12 an12 cd12 ct12), sl12⟩)
    (c12 : PySem.W.codeIn K cd12 "is_ring" = true) (k12 : PySem.W.keepIn K (.ref f12) = true)
    (a13 : PySem.W.nsIn K mainGlobals "is_ring_number" = some (some (.ref f13)))
    (l13 : K.lookup f13 = some ⟨oc13, od13, .func (PySem.W.fnOf "is_ring_number" "is_ring_number" (defArgs s_is_ring_number) (defBody s_is_ring_number) (defScope s_is_ring_number) .none kV13 dc13 pm13 an13 cd13 ct13), sl13⟩)
    (c13 : PySem.W.codeIn K cd13 "is_ring_number" = true) (k13 : PySem.W.keepIn K (.ref f13) = true)
    (a14 : PySem.W.nsIn K mainGlobals "reduced" = some (some (.ref f14)))
    (l14 : K.lookup f14 = some ⟨oc14, od14, .func (PySem.W.fnOf "reduced" "reduced" (defArgs s_reduced) (defBody s_reduced) (defScope s_reduced) .none kV14 dc14 pm14 an14 cd14 ct14), sl14⟩)
    (c14 : PySem.W.codeIn K cd14 "reduced" = true) (k14 : PySem.W.keepIn K (.ref f14) = true)
    (a15 : PySem.W.nsIn K mainGlobals "with_row" = some (some (.ref f15)))
    (l15 : K.lookup f15 = some ⟨oc15, od15, .func (PySem.W.fnOf "with_row" "with_row" (defArgs s_with_row) (defBody s_with_row) (defScope s_with_row) .none kV15 dc15 pm15 an15 cd15 ct15), sl15⟩)
    (c15 : PySem.W.codeIn K cd15 "with_row" = true) (k15 : PySem.W.keepIn K (.ref f15) = true)
    (a16 : PySem.W.nsIn K mainGlobals "rows_of" = some (some (.ref f16)))
    (l16 : K.lookup f16 = some ⟨oc16, od16, .func (PySem.W.fnOf "rows_of" "rows_of" (defArgs s_rows_of) (defBody s_rows_of) (defScope s_rows_of) .none kV16 dc16 pm16 an16 cd16 ct16), sl16⟩)
    (c16 : PySem.W.codeIn K cd16 "rows_of" = true) (k16 : PySem.W.keepIn K (.ref f16) = true)
    (a17 : PySem.W.nsIn K mainGlobals "is_base" = some (some (.ref f17)))
    (l17 : K.lookup f17 = some ⟨oc17, od17, .func (PySem.W.fnOf "is_base" "is_base" (defArgs s_is_base) (defBody s_is_base) (defScope s_is_base) .none kV17 dc17 pm17 an17 cd17 ct17), sl17⟩)
    (c17 : PySem.W.codeIn K cd17 "is_base" = true) (k17 : PySem.W.keepIn K (.ref f17) = true)
    (a18 : PySem.W.nsIn K mainGlobals "marks_for" = some (some (.ref f18)))
    (l18 : K.lookup f18 = some ⟨oc18, od18, .func (PySem.W.fnOf "marks_for" "marks_for" (defArgs s_marks_for) (defBody s_marks_for) (defScope s_marks_for) .none kV18 dc18 pm18 an18 cd18 ct18), sl18⟩)
    (c18 : PySem.W.codeIn K cd18 "marks_for" = true) (k18 : PySem.W.keepIn K (.ref f18) = true)
    (a19 : PySem.W.nsIn K mainGlobals "_law_cell_at" = some (some (.ref f19)))
    (l19 : K.lookup f19 = some ⟨oc19, od19, .func (PySem.W.fnOf "_law_cell_at" "_law_cell_at" (defArgs s_law_cell_at) (defBody s_law_cell_at) (defScope s_law_cell_at) .none kV19 dc19 pm19 an19 cd19 ct19), sl19⟩)
    (c19 : PySem.W.codeIn K cd19 "_law_cell_at" = true) (k19 : PySem.W.keepIn K (.ref f19) = true)
    (a20 : PySem.W.nsIn K mainGlobals "_law_mixed" = some (some (.ref f20)))
    (l20 : K.lookup f20 = some ⟨oc20, od20, .func (PySem.W.fnOf "_law_mixed" "_law_mixed" (defArgs s_law_mixed) (defBody s_law_mixed) (defScope s_law_mixed) .none kV20 dc20 pm20 an20 cd20 ct20), sl20⟩)
    (c20 : PySem.W.codeIn K cd20 "_law_mixed" = true) (k20 : PySem.W.keepIn K (.ref f20) = true)
    (a21 : PySem.W.nsIn K mainGlobals "_law_length" = some (some (.ref f21)))
    (l21 : K.lookup f21 = some ⟨oc21, od21, .func (PySem.W.fnOf "_law_length" "_law_length" (defArgs s_law_length) (defBody s_law_length) (defScope s_law_length) .none kV21 dc21 pm21 an21 cd21 ct21), sl21⟩)
    (c21 : PySem.W.codeIn K cd21 "_law_length" = true) (k21 : PySem.W.keepIn K (.ref f21) = true)
    (a22 : PySem.W.nsIn K mainGlobals "_law_tie" = some (some (.ref f22)))
    (l22 : K.lookup f22 = some ⟨oc22, od22, .func (PySem.W.fnOf "_law_tie" "_law_tie" (defArgs s_law_tie) (defBody s_law_tie) (defScope s_law_tie) .none kV22 dc22 pm22 an22 cd22 ct22), sl22⟩)
    (c22 : PySem.W.codeIn K cd22 "_law_tie" = true) (k22 : PySem.W.keepIn K (.ref f22) = true)
    (a23 : PySem.W.nsIn K mainGlobals "_law_web" = some (some (.ref f23)))
    (l23 : K.lookup f23 = some ⟨oc23, od23, .func (PySem.W.fnOf "_law_web" "_law_web" (defArgs s_law_web) (defBody s_law_web) (defScope s_law_web) .none kV23 dc23 pm23 an23 cd23 ct23), sl23⟩)
    (c23 : PySem.W.codeIn K cd23 "_law_web" = true) (k23 : PySem.W.keepIn K (.ref f23) = true)
    (a24 : PySem.W.nsIn K mainGlobals "_law_whole" = some (some (.ref f24)))
    (l24 : K.lookup f24 = some ⟨oc24, od24, .func (PySem.W.fnOf "_law_whole" "_law_whole" (defArgs s_law_whole) (defBody s_law_whole) (defScope s_law_whole) .none kV24 dc24 pm24 an24 cd24 ct24), sl24⟩)
    (c24 : PySem.W.codeIn K cd24 "_law_whole" = true) (k24 : PySem.W.keepIn K (.ref f24) = true)
    (a25 : PySem.W.nsIn K mainGlobals "_law_counts" = some (some (.ref f25)))
    (l25 : K.lookup f25 = some ⟨oc25, od25, .func (PySem.W.fnOf "_law_counts" "_law_counts" (defArgs s_law_counts) (defBody s_law_counts) (defScope s_law_counts) .none kV25 dc25 pm25 an25 cd25 ct25), sl25⟩)
    (c25 : PySem.W.codeIn K cd25 "_law_counts" = true) (k25 : PySem.W.keepIn K (.ref f25) = true)
    (a26 : PySem.W.nsIn K mainGlobals "_law_pieces" = some (some (.ref f26)))
    (l26 : K.lookup f26 = some ⟨oc26, od26, .func (PySem.W.fnOf "_law_pieces" "_law_pieces" (defArgs s_law_pieces) (defBody s_law_pieces) (defScope s_law_pieces) .none kV26 dc26 pm26 an26 cd26 ct26), sl26⟩)
    (c26 : PySem.W.codeIn K cd26 "_law_pieces" = true) (k26 : PySem.W.keepIn K (.ref f26) = true)
    (a27 : PySem.W.nsIn K mainGlobals "_law_ring" = some (some (.ref f27)))
    (l27 : K.lookup f27 = some ⟨oc27, od27, .func (PySem.W.fnOf "_law_ring" "_law_ring" (defArgs s_law_ring) (defBody s_law_ring) (defScope s_law_ring) .none kV27 dc27 pm27 an27 cd27 ct27), sl27⟩)
    (c27 : PySem.W.codeIn K cd27 "_law_ring" = true) (k27 : PySem.W.keepIn K (.ref f27) = true)
    (a28 : PySem.W.nsIn K mainGlobals "_law_odd" = some (some (.ref f28)))
    (l28 : K.lookup f28 = some ⟨oc28, od28, .func (PySem.W.fnOf "_law_odd" "_law_odd" (defArgs s_law_odd) (defBody s_law_odd) (defScope s_law_odd) .none kV28 dc28 pm28 an28 cd28 ct28), sl28⟩)
    (c28 : PySem.W.codeIn K cd28 "_law_odd" = true) (k28 : PySem.W.keepIn K (.ref f28) = true)
    (a29 : PySem.W.nsIn K mainGlobals "_law_way" = some (some (.ref f29)))
    (l29 : K.lookup f29 = some ⟨oc29, od29, .func (PySem.W.fnOf "_law_way" "_law_way" (defArgs s_law_way) (defBody s_law_way) (defScope s_law_way) .none kV29 dc29 pm29 an29 cd29 ct29), sl29⟩)
    (c29 : PySem.W.codeIn K cd29 "_law_way" = true) (k29 : PySem.W.keepIn K (.ref f29) = true)
    (a30 : PySem.W.nsIn K mainGlobals "_law_chord_rings" = some (some (.ref f30)))
    (l30 : K.lookup f30 = some ⟨oc30, od30, .func (PySem.W.fnOf "_law_chord_rings" "_law_chord_rings" (defArgs s_law_chord_rings) (defBody s_law_chord_rings) (defScope s_law_chord_rings) .none kV30 dc30 pm30 an30 cd30 ct30), sl30⟩)
    (c30 : PySem.W.codeIn K cd30 "_law_chord_rings" = true) (k30 : PySem.W.keepIn K (.ref f30) = true)
    (a31 : PySem.W.nsIn K mainGlobals "_law_order" = some (some (.ref f31)))
    (l31 : K.lookup f31 = some ⟨oc31, od31, .func (PySem.W.fnOf "_law_order" "_law_order" (defArgs s_law_order) (defBody s_law_order) (defScope s_law_order) .none kV31 dc31 pm31 an31 cd31 ct31), sl31⟩)
    (c31 : PySem.W.codeIn K cd31 "_law_order" = true) (k31 : PySem.W.keepIn K (.ref f31) = true)
    (a32 : PySem.W.nsIn K mainGlobals "_law_exchanged" = some (some (.ref f32)))
    (l32 : K.lookup f32 = some ⟨oc32, od32, .func (PySem.W.fnOf "_law_exchanged" "_law_exchanged" (defArgs s_law_exchanged) (defBody s_law_exchanged) (defScope s_law_exchanged) .none kV32 dc32 pm32 an32 cd32 ct32), sl32⟩)
    (c32 : PySem.W.codeIn K cd32 "_law_exchanged" = true) (k32 : PySem.W.keepIn K (.ref f32) = true)
    (a33 : PySem.W.nsIn K mainGlobals "_law_right" = some (some (.ref f33)))
    (l33 : K.lookup f33 = some ⟨oc33, od33, .func (PySem.W.fnOf "_law_right" "_law_right" (defArgs s_law_right) (defBody s_law_right) (defScope s_law_right) .none kV33 dc33 pm33 an33 cd33 ct33), sl33⟩)
    (c33 : PySem.W.codeIn K cd33 "_law_right" = true) (k33 : PySem.W.keepIn K (.ref f33) = true)
    (a34 : PySem.W.nsIn K mainGlobals "_law_refused" = some (some (.ref f34)))
    (l34 : K.lookup f34 = some ⟨oc34, od34, .func (PySem.W.fnOf "_law_refused" "_law_refused" (defArgs s_law_refused) (defBody s_law_refused) (defScope s_law_refused) .none kV34 dc34 pm34 an34 cd34 ct34), sl34⟩)
    (c34 : PySem.W.codeIn K cd34 "_law_refused" = true) (k34 : PySem.W.keepIn K (.ref f34) = true)
    (a35 : PySem.W.nsIn K mainGlobals "law" = some (some (.ref f35)))
    (l35 : K.lookup f35 = some ⟨oc35, od35, .func (PySem.W.fnOf "law" "law" (defArgs s_law) (defBody s_law) (defScope s_law) .none kV35 dc35 pm35 an35 cd35 ct35), sl35⟩)
    (c35 : PySem.W.codeIn K cd35 "law" = true) (k35 : PySem.W.keepIn K (.ref f35) = true)
    (z_ValueError : PySem.W.nsIn K mainGlobals "ValueError" = some none)
    (z_all : PySem.W.nsIn K mainGlobals "all" = some none)
    (z_bool : PySem.W.nsIn K mainGlobals "bool" = some none)
    (z_enumerate : PySem.W.nsIn K mainGlobals "enumerate" = some none)
    (z_int : PySem.W.nsIn K mainGlobals "int" = some none)
    (z_isinstance : PySem.W.nsIn K mainGlobals "isinstance" = some none)
    (z_len : PySem.W.nsIn K mainGlobals "len" = some none)
    (z_list : PySem.W.nsIn K mainGlobals "list" = some none)
    (z_max : PySem.W.nsIn K mainGlobals "max" = some none)
    (z_min : PySem.W.nsIn K mainGlobals "min" = some none)
    (z_range : PySem.W.nsIn K mainGlobals "range" = some none)
    (z_set : PySem.W.nsIn K mainGlobals "set" = some none)
    (z_sum : PySem.W.nsIn K mainGlobals "sum" = some none)
    (z_tuple : PySem.W.nsIn K mainGlobals "tuple" = some none)
    (d_RingError : PySem.W.nsIn K mainGlobals "RingError" = some (some (.ref u_RingError)))
    (d_BadWeb : PySem.W.nsIn K mainGlobals "BadWeb" = some (some (.ref u_BadWeb)))
    (d_BadSet : PySem.W.nsIn K mainGlobals "BadSet" = some (some (.ref u_BadSet)))
    (d_NotRing : PySem.W.nsIn K mainGlobals "NotRing" = some (some (.ref u_NotRing)))
    (d_NoBase : PySem.W.nsIn K mainGlobals "NoBase" = some (some (.ref u_NoBase)))
    (d_NoSuch : PySem.W.nsIn K mainGlobals "NoSuch" = some (some (.ref u_NoSuch)))
    (d_TooMany : PySem.W.nsIn K mainGlobals "TooMany" = some (some (.ref u_TooMany)))
    (xc_BadSet : PySem.W.excIn K u_BadSet [.type "ValueError", .type "Exception", .type "BaseException", .type "object"] "ValueError.__new__" = true)
    (xc_NoBase : PySem.W.excIn K u_NoBase [.type "ValueError", .type "Exception", .type "BaseException", .type "object"] "ValueError.__new__" = true)
    (ea_NoBase : PySem.W.findIn K (.ref u_NoBase) "__getattribute__" = some (some (.builtin "BaseException.__getattribute__"))) (eb_NoBase : PySem.W.findIn K (.ref u_NoBase) "__getattr__" = some none)
    (ec_NoBase : PySem.W.findIn K (.ref u_NoBase) "__class__" = some (some (.builtin "object.__class__"))) (ed_NoBase : PySem.W.specialIn K (.builtin "object.__class__") "__get__" = some (some (.builtin "getset_descriptor.__get__")))
    (ee_NoBase : PySem.W.takesIn K (.builtin "object.__class__") = some true) (ef_NoBase : PySem.W.mroIn K u_NoBase (.type "object") = some true) (eg_NoBase : PySem.W.hasDictIn K u_NoBase = true) (eh_NoBase : PySem.W.mroIn K u_NoBase (.type "BaseException") = some true)
    (hx_NoBase : PySem.W.exmOne K (.ref u_NoBase) (.ref u_RingError) = some true)
    (qv_NoBase : PySem.W.kitOne K (.ref u_NoBase) (.type "ValueError") = some true)
    (q_NoBase_BadWeb : PySem.W.kitOne K (.ref u_NoBase) (.ref u_BadWeb) = some false)
    (q_NoBase_BadSet : PySem.W.kitOne K (.ref u_NoBase) (.ref u_BadSet) = some false)
    (q_NoBase_NotRing : PySem.W.kitOne K (.ref u_NoBase) (.ref u_NotRing) = some false)
    (q_NoBase_NoBase : PySem.W.kitOne K (.ref u_NoBase) (.ref u_NoBase) = some true)
    (q_NoBase_NoSuch : PySem.W.kitOne K (.ref u_NoBase) (.ref u_NoSuch) = some false)
    (q_NoBase_TooMany : PySem.W.kitOne K (.ref u_NoBase) (.ref u_TooMany) = some false)
    : ∃ fd : FuncData, (∀ (s : Shared) (v : Value), BindsTo s fd ⟨[v], []⟩ [("script", v)]) ∧ ∀ base : Heap, K.In base → base.Ns mainGlobals mg → FnOk l.prog w K mg base CX0 12 fa fd ["script"] (sp_law K) := by
  have e := hfa.symm.trans (PySem.W.mg_of X G a35)
  cases e
  have F0 := fun_mk (st := s_has_tie) l0 c0 k0
  have b0 := F0.binds (ps := ["tie_set", "tie"]) fun _ _ _ _ _ _ us hl => by obtain ⟨_, _, rfl⟩ := len2 us hl; rfl
  have F1 := fun_mk (st := s_ties_in) l1 c1 k1
  have b1 := F1.binds (ps := ["tie_set"]) fun _ _ _ _ _ _ us hl => by obtain ⟨_, rfl⟩ := len1 us hl; rfl
  have F2 := fun_mk (st := s_set_of) l2 c2 k2
  have b2 := F2.binds (ps := ["web", "ties"]) fun _ _ _ _ _ _ us hl => by obtain ⟨_, _, rfl⟩ := len2 us hl; rfl
  have F3 := fun_mk (st := s_all_ties) l3 c3 k3
  have b3 := F3.binds (ps := ["web"]) fun _ _ _ _ _ _ us hl => by obtain ⟨_, rfl⟩ := len1 us hl; rfl
  have F4 := fun_mk (st := s_is_set) l4 c4 k4
  have b4 := F4.binds (ps := ["web", "number"]) fun _ _ _ _ _ _ us hl => by obtain ⟨_, _, rfl⟩ := len2 us hl; rfl
  have F5 := fun_mk (st := s_check_set) l5 c5 k5
  have b5 := F5.binds (ps := ["web", "tie_set"]) fun _ _ _ _ _ _ us hl => by obtain ⟨_, _, rfl⟩ := len2 us hl; rfl
  have F6 := fun_mk (st := s_triples_in) l6 c6 k6
  have b6 := F6.binds (ps := ["web", "tie_set"]) fun _ _ _ _ _ _ us hl => by obtain ⟨_, _, rfl⟩ := len2 us hl; rfl
  have F7 := fun_mk (st := s_odd_points) l7 c7 k7
  have b7 := F7.binds (ps := ["web", "tie_set"]) fun _ _ _ _ _ _ us hl => by obtain ⟨_, _, rfl⟩ := len2 us hl; rfl
  have F8 := fun_mk (st := s_drawn_together) l8 c8 k8
  have b8 := F8.binds (ps := ["leasts", "one", "other"]) fun _ _ _ _ _ _ us hl => by obtain ⟨_, _, _, rfl⟩ := len3 us hl; rfl
  have F9 := fun_mk (st := s_pieces) l9 c9 k9
  have b9 := F9.binds (ps := ["web", "tie_set"]) fun _ _ _ _ _ _ us hl => by obtain ⟨_, _, rfl⟩ := len2 us hl; rfl
  have F10 := fun_mk (st := s_rank) l10 c10 k10
  have b10 := F10.binds (ps := ["web"]) fun _ _ _ _ _ _ us hl => by obtain ⟨_, rfl⟩ := len1 us hl; rfl
  have F11 := fun_mk (st := s_is_even) l11 c11 k11
  have b11 := F11.binds (ps := ["web", "tie_set"]) fun _ _ _ _ _ _ us hl => by obtain ⟨_, _, rfl⟩ := len2 us hl; rfl
  have F12 := fun_mk (st := s_is_ring) l12 c12 k12
  have b12 := F12.binds (ps := ["web", "tie_set"]) fun _ _ _ _ _ _ us hl => by obtain ⟨_, _, rfl⟩ := len2 us hl; rfl
  have F13 := fun_mk (st := s_is_ring_number) l13 c13 k13
  have b13 := F13.binds (ps := ["web", "number"]) fun _ _ _ _ _ _ us hl => by obtain ⟨_, _, rfl⟩ := len2 us hl; rfl
  have F14 := fun_mk (st := s_reduced) l14 c14 k14
  have b14 := F14.binds (ps := ["rows", "tie_set"]) fun _ _ _ _ _ _ us hl => by obtain ⟨_, _, rfl⟩ := len2 us hl; rfl
  have F15 := fun_mk (st := s_with_row) l15 c15 k15
  have b15 := F15.binds (ps := ["rows", "added"]) fun _ _ _ _ _ _ us hl => by obtain ⟨_, _, rfl⟩ := len2 us hl; rfl
  have F16 := fun_mk (st := s_rows_of) l16 c16 k16
  have b16 := F16.binds (ps := ["sets"]) fun _ _ _ _ _ _ us hl => by obtain ⟨_, rfl⟩ := len1 us hl; rfl
  have F17 := fun_mk (st := s_is_base) l17 c17 k17
  have b17 := F17.binds (ps := ["web", "rings"]) fun _ _ _ _ _ _ us hl => by obtain ⟨_, _, rfl⟩ := len2 us hl; rfl
  have F18 := fun_mk (st := s_marks_for) l18 c18 k18
  have b18 := F18.binds (ps := ["web", "rings"]) fun _ _ _ _ _ _ us hl => by obtain ⟨_, _, rfl⟩ := len2 us hl; rfl
  have F19 := fun_mk (st := s_law_cell_at) l19 c19 k19
  have b19 := F19.binds (ps := ["script", "k"]) fun _ _ _ _ _ _ us hl => by obtain ⟨_, _, rfl⟩ := len2 us hl; rfl
  have F20 := fun_mk (st := s_law_mixed) l20 c20 k20
  have b20 := F20.binds (ps := ["cell", "k"]) fun _ _ _ _ _ _ us hl => by obtain ⟨_, _, rfl⟩ := len2 us hl; rfl
  have F21 := fun_mk (st := s_law_length) l21 c21 k21
  have b21 := F21.binds (ps := ["cell", "way"]) fun _ _ _ _ _ _ us hl => by obtain ⟨_, _, rfl⟩ := len2 us hl; rfl
  have F22 := fun_mk (st := s_law_tie) l22 c22 k22
  have b22 := F22.binds (ps := ["cell", "points", "way"]) fun _ _ _ _ _ _ us hl => by obtain ⟨_, _, _, rfl⟩ := len3 us hl; rfl
  have F23 := fun_mk (st := s_law_web) l23 c23 k23
  have b23 := F23.binds (ps := ["script", "most", "ranked"]) fun _ _ _ _ _ _ us hl => by obtain ⟨_, _, _, rfl⟩ := len3 us hl; rfl
  have F24 := fun_mk (st := s_law_whole) l24 c24 k24
  have b24 := F24.binds (ps := ["found"]) fun _ _ _ _ _ _ us hl => by obtain ⟨_, rfl⟩ := len1 us hl; rfl
  have F25 := fun_mk (st := s_law_counts) l25 c25 k25
  have b25 := F25.binds (ps := ["web", "some"]) fun _ _ _ _ _ _ us hl => by obtain ⟨_, _, rfl⟩ := len2 us hl; rfl
  have F26 := fun_mk (st := s_law_pieces) l26 c26 k26
  have b26 := F26.binds (ps := ["web", "some"]) fun _ _ _ _ _ _ us hl => by obtain ⟨_, _, rfl⟩ := len2 us hl; rfl
  have F27 := fun_mk (st := s_law_ring) l27 c27 k27
  have b27 := F27.binds (ps := ["web", "some"]) fun _ _ _ _ _ _ us hl => by obtain ⟨_, _, rfl⟩ := len2 us hl; rfl
  have F28 := fun_mk (st := s_law_odd) l28 c28 k28
  have b28 := F28.binds (ps := ["one", "other"]) fun _ _ _ _ _ _ us hl => by obtain ⟨_, _, rfl⟩ := len2 us hl; rfl
  have F29 := fun_mk (st := s_law_way) l29 c29 k29
  have b29 := F29.binds (ps := ["web", "some", "one", "other"]) fun _ _ _ _ _ _ us hl => by obtain ⟨_, _, _, _, rfl⟩ := len4 us hl; rfl
  have F30 := fun_mk (st := s_law_chord_rings) l30 c30 k30
  have b30 := F30.binds (ps := ["web", "order"]) fun _ _ _ _ _ _ us hl => by obtain ⟨_, _, rfl⟩ := len2 us hl; rfl
  have F31 := fun_mk (st := s_law_order) l31 c31 k31
  have b31 := F31.binds (ps := ["cell", "many"]) fun _ _ _ _ _ _ us hl => by obtain ⟨_, _, rfl⟩ := len2 us hl; rfl
  have F32 := fun_mk (st := s_law_exchanged) l32 c32 k32
  have b32 := F32.binds (ps := ["web", "rings", "cell"]) fun _ _ _ _ _ _ us hl => by obtain ⟨_, _, _, rfl⟩ := len3 us hl; rfl
  have F33 := fun_mk (st := s_law_right) l33 c33 k33
  have b33 := F33.binds (ps := ["web", "rings", "found"]) fun _ _ _ _ _ _ us hl => by obtain ⟨_, _, _, rfl⟩ := len3 us hl; rfl
  have F34 := fun_mk (st := s_law_refused) l34 c34 k34
  have b34 := F34.binds (ps := ["web", "rings"]) fun _ _ _ _ _ _ us hl => by obtain ⟨_, _, rfl⟩ := len2 us hl; rfl
  have F35 := fun_mk (st := s_law) l35 c35 k35
  have b35 := F35.binds (ps := ["script"]) fun _ _ _ _ _ _ us hl => by obtain ⟨_, rfl⟩ := len1 us hl; rfl
  have T : Txt K mg ⟨f0, _, f1, _, f2, _, f3, _, f4, _, f5, _, f6, _, f7, _, f8, _, f9, _, f10, _, f11, _, f12, _, f13, _, f14, _, f15, _, f16, _, f17, _, f18, _, f19, _, f20, _, f21, _, f22, _, f23, _, f24, _, f25, _, f26, _, f27, _, f28, _, f29, _, f30, _, f31, _, f32, _, f33, _, f34, _, fa, _, u_RingError, u_BadWeb, u_BadSet, u_NotRing, u_NoBase, u_NoSuch, u_TooMany⟩ := ⟨F0, PySem.W.mg_of X G a0, b0, F1, PySem.W.mg_of X G a1, b1, F2, PySem.W.mg_of X G a2, b2, F3, PySem.W.mg_of X G a3, b3, F4, PySem.W.mg_of X G a4, b4, F5, PySem.W.mg_of X G a5, b5, F6, PySem.W.mg_of X G a6, b6, F7, PySem.W.mg_of X G a7, b7, F8, PySem.W.mg_of X G a8, b8, F9, PySem.W.mg_of X G a9, b9, F10, PySem.W.mg_of X G a10, b10, F11, PySem.W.mg_of X G a11, b11, F12, PySem.W.mg_of X G a12, b12, F13, PySem.W.mg_of X G a13, b13, F14, PySem.W.mg_of X G a14, b14, F15, PySem.W.mg_of X G a15, b15, F16, PySem.W.mg_of X G a16, b16, F17, PySem.W.mg_of X G a17, b17, F18, PySem.W.mg_of X G a18, b18, F19, PySem.W.mg_of X G a19, b19, F20, PySem.W.mg_of X G a20, b20, F21, PySem.W.mg_of X G a21, b21, F22, PySem.W.mg_of X G a22, b22, F23, PySem.W.mg_of X G a23, b23, F24, PySem.W.mg_of X G a24, b24, F25, PySem.W.mg_of X G a25, b25, F26, PySem.W.mg_of X G a26, b26, F27, PySem.W.mg_of X G a27, b27, F28, PySem.W.mg_of X G a28, b28, F29, PySem.W.mg_of X G a29, b29, F30, PySem.W.mg_of X G a30, b30, F31, PySem.W.mg_of X G a31, b31, F32, PySem.W.mg_of X G a32, b32, F33, PySem.W.mg_of X G a33, b33, F34, PySem.W.mg_of X G a34, b34, F35, PySem.W.mg_of X G a35, b35, PySem.W.mg_none_of X G z_ValueError, PySem.W.mg_none_of X G z_all, PySem.W.mg_none_of X G z_bool, PySem.W.mg_none_of X G z_enumerate, PySem.W.mg_none_of X G z_int, PySem.W.mg_none_of X G z_isinstance, PySem.W.mg_none_of X G z_len, PySem.W.mg_none_of X G z_list, PySem.W.mg_none_of X G z_max, PySem.W.mg_none_of X G z_min, PySem.W.mg_none_of X G z_range, PySem.W.mg_none_of X G z_set, PySem.W.mg_none_of X G z_sum, PySem.W.mg_none_of X G z_tuple, PySem.W.mg_of X G d_RingError, PySem.W.mg_of X G d_BadWeb, PySem.W.mg_of X G d_BadSet, PySem.W.mg_of X G d_NotRing, PySem.W.mg_of X G d_NoBase, PySem.W.mg_of X G d_NoSuch, PySem.W.mg_of X G d_TooMany, fun h1 X1 G1 => own_of X1 G1 d_BadSet xc_BadSet, fun h1 X1 G1 => own_of X1 G1 d_NoBase xc_NoBase, ⟨ea_NoBase, eb_NoBase, ec_NoBase, ed_NoBase, ee_NoBase, ef_NoBase, eh_NoBase, exc_is eg_NoBase⟩, hx_NoBase, qv_NoBase, q_NoBase_BadWeb, q_NoBase_BadSet, q_NoBase_NotRing, q_NoBase_NoBase, q_NoBase_NoSuch, q_NoBase_TooMany⟩
  exact ⟨PySem.W.fnOf "law" "law" (defArgs s_law) (defBody s_law) (defScope s_law) .none kV35 dc35 pm35 an35 cd35 ct35, fun s v => .of_eq rfl, fun base _ _ => G_law T⟩
theorem walk {l : PySem.W.OpenLaw} {q : Program} {loose : List Str} {XP : (Str → Option Value) → Heap → Prop} {YP : World → Heap → Prop} {d : DefRec} {K : Params → PySem.W.Frag} (hn : l.most = some 63) (hdf : d.params.defaults = [])
    (hY : ∀ (w : World) (h : Heap), YP w h → (K w.params).In h)
    (F : ∀ (w : World) (mg : Str → Option Value) (fa : Addr) (h : Heap), (K w.params).In h → h.Ns mainGlobals mg → mg d.name = some (.ref fa) →
      ∃ fd : FuncData, (∀ (s : Shared) (u : Value), BindsTo s fd ⟨[u], []⟩ [("script", u)]) ∧ ∀ base : Heap, (K w.params).In base → base.Ns mainGlobals mg → FnOk l.prog w (K w.params) mg base CX0 12 fa fd ["script"] (sp_law (K w.params))) :
    PySem.W.WalkO q loose XP YP l.row.toRowW d [] (fun f vs => PySem.call f vs) :=
  L2.walk_of (n := 63) (k := 12) (x := "script") (CX := fun _ => CX0) (sp := fun w => sp_law (K w.params)) hn (by decide) hdf ⟨rfl, by decide, by decide⟩ hY F (fun _ _ a ns hl _ hS => ⟨a, ns, rfl, hS, hl, fun _ => rfl⟩) fun _ _ _ _ _ z => z
end K27
def PySem.W.Fast.tw15802056953239431461 : Unit := ()
def PySem.W.Fast.tw5746725756491482329 : Unit := ()
def PySem.W.Fast.tw14094207681852217744 : Unit := ()
def PySem.W.Fast.tw10895916378526071949 : Unit := ()
def PySem.W.Fast.tw16086592421151106605 : Unit := ()
def PySem.W.Fast.tw15285385160956695795 : Unit := ()
def PySem.W.Fast.tw1879982977230454606 : Unit := ()
def PySem.W.Fast.tw17702423248334789155 : Unit := ()
def PySem.W.Fast.tw7498434937910114175 : Unit := ()
open PySem PySem.W PyProof.Rows
set_option maxRecDepth 100000 in
set_option maxHeartbeats 0 in
theorem PySem.Challenge.cw_ringbase_k27_marks_for_bases_holds : PySem.Challenge.rw_ringbase_k27_marks_for_bases.Holds := by
  w_on; o_law; k_head; (case hw => w_witness2)
  k_fill
  refine K27.walk (l := PySem.Challenge.rw_ringbase_k27_marks_for_bases) rfl rfl (fun w h Y => PySem.W.kIn_of Y) ?F
  case F =>
    intro w mg fa h KX G hmg
    refine' K27.all_mk KX G hmg ?a0 ?l0 ?c0 ?k0 ?a1 ?l1 ?c1 ?k1 ?a2 ?l2 ?c2 ?k2 ?a3 ?l3 ?c3 ?k3 ?a4 ?l4 ?c4 ?k4 ?a5 ?l5 ?c5 ?k5 ?a6 ?l6 ?c6 ?k6 ?a7 ?l7 ?c7 ?k7 ?a8 ?l8 ?c8 ?k8 ?a9 ?l9 ?c9 ?k9 ?a10 ?l10 ?c10 ?k10 ?a11 ?l11 ?c11 ?k11 ?a12 ?l12 ?c12 ?k12 ?a13 ?l13 ?c13 ?k13 ?a14 ?l14 ?c14 ?k14 ?a15 ?l15 ?c15 ?k15 ?a16 ?l16 ?c16 ?k16 ?a17 ?l17 ?c17 ?k17 ?a18 ?l18 ?c18 ?k18 ?a19 ?l19 ?c19 ?k19 ?a20 ?l20 ?c20 ?k20 ?a21 ?l21 ?c21 ?k21 ?a22 ?l22 ?c22 ?k22 ?a23 ?l23 ?c23 ?k23 ?a24 ?l24 ?c24 ?k24 ?a25 ?l25 ?c25 ?k25 ?a26 ?l26 ?c26 ?k26 ?a27 ?l27 ?c27 ?k27 ?a28 ?l28 ?c28 ?k28 ?a29 ?l29 ?c29 ?k29 ?a30 ?l30 ?c30 ?k30 ?a31 ?l31 ?c31 ?k31 ?a32 ?l32 ?c32 ?k32 ?a33 ?l33 ?c33 ?k33 ?a34 ?l34 ?c34 ?k34 ?a35 ?l35 ?c35 ?k35 ?z_ValueError ?z_all ?z_bool ?z_enumerate ?z_int ?z_isinstance ?z_len ?z_list ?z_max ?z_min ?z_range ?z_set ?z_sum ?z_tuple ?d_RingError ?d_BadWeb ?d_BadSet ?d_NotRing ?d_NoBase ?d_NoSuch ?d_TooMany ?xc_BadSet ?xc_NoBase ?ea_NoBase ?eb_NoBase ?ec_NoBase ?ed_NoBase ?ee_NoBase ?ef_NoBase ?eg_NoBase ?eh_NoBase ?hx_NoBase ?qv_NoBase ?q_NoBase_BadWeb ?q_NoBase_BadSet ?q_NoBase_NotRing ?q_NoBase_NoBase ?q_NoBase_NoSuch ?q_NoBase_TooMany
    (case d_RingError => k_is)
    (case d_BadWeb => k_is)
    (case d_BadSet => k_is)
    (case d_NotRing => k_is)
    (case d_NoBase => k_is)
    (case d_NoSuch => k_is)
    (case d_TooMany => k_is)
    (case a0 => k_is)
    (case l0 => k_is)
    (case c0 => k_is)
    (case k0 => k_is)
    (case a1 => k_is)
    (case l1 => k_is)
    (case c1 => k_is)
    (case k1 => k_is)
    (case a2 => k_is)
    (case l2 => k_is)
    (case c2 => k_is)
    (case k2 => k_is)
    (case a3 => k_is)
    (case l3 => k_is)
    (case c3 => k_is)
    (case k3 => k_is)
    (case a4 => k_is)
    (case l4 => k_is)
    (case c4 => k_is)
    (case k4 => k_is)
    (case a5 => k_is)
    (case l5 => k_is)
    (case c5 => k_is)
    (case k5 => k_is)
    (case a6 => k_is)
    (case l6 => k_is)
    (case c6 => k_is)
    (case k6 => k_is)
    (case a7 => k_is)
    (case l7 => k_is)
    (case c7 => k_is)
    (case k7 => k_is)
    (case a8 => k_is)
    (case l8 => k_is)
    (case c8 => k_is)
    (case k8 => k_is)
    (case a9 => k_is)
    (case l9 => k_is)
    (case c9 => k_is)
    (case k9 => k_is)
    (case a10 => k_is)
    (case l10 => k_is)
    (case c10 => k_is)
    (case k10 => k_is)
    (case a11 => k_is)
    (case l11 => k_is)
    (case c11 => k_is)
    (case k11 => k_is)
    (case a12 => k_is)
    (case l12 => k_is)
    (case c12 => k_is)
    (case k12 => k_is)
    (case a13 => k_is)
    (case l13 => k_is)
    (case c13 => k_is)
    (case k13 => k_is)
    (case a14 => k_is)
    (case l14 => k_is)
    (case c14 => k_is)
    (case k14 => k_is)
    (case a15 => k_is)
    (case l15 => k_is)
    (case c15 => k_is)
    (case k15 => k_is)
    (case a16 => k_is)
    (case l16 => k_is)
    (case c16 => k_is)
    (case k16 => k_is)
    (case a17 => k_is)
    (case l17 => k_is)
    (case c17 => k_is)
    (case k17 => k_is)
    (case a18 => k_is)
    (case l18 => k_is)
    (case c18 => k_is)
    (case k18 => k_is)
    (case a19 => k_is)
    (case l19 => k_is)
    (case c19 => k_is)
    (case k19 => k_is)
    (case a20 => k_is)
    (case l20 => k_is)
    (case c20 => k_is)
    (case k20 => k_is)
    (case a21 => k_is)
    (case l21 => k_is)
    (case c21 => k_is)
    (case k21 => k_is)
    (case a22 => k_is)
    (case l22 => k_is)
    (case c22 => k_is)
    (case k22 => k_is)
    (case a23 => k_is)
    (case l23 => k_is)
    (case c23 => k_is)
    (case k23 => k_is)
    (case a24 => k_is)
    (case l24 => k_is)
    (case c24 => k_is)
    (case k24 => k_is)
    (case a25 => k_is)
    (case l25 => k_is)
    (case c25 => k_is)
    (case k25 => k_is)
    (case a26 => k_is)
    (case l26 => k_is)
    (case c26 => k_is)
    (case k26 => k_is)
    (case a27 => k_is)
    (case l27 => k_is)
    (case c27 => k_is)
    (case k27 => k_is)
    (case a28 => k_is)
    (case l28 => k_is)
    (case c28 => k_is)
    (case k28 => k_is)
    (case a29 => k_is)
    (case l29 => k_is)
    (case c29 => k_is)
    (case k29 => k_is)
    (case a30 => k_is)
    (case l30 => k_is)
    (case c30 => k_is)
    (case k30 => k_is)
    (case a31 => k_is)
    (case l31 => k_is)
    (case c31 => k_is)
    (case k31 => k_is)
    (case a32 => k_is)
    (case l32 => k_is)
    (case c32 => k_is)
    (case k32 => k_is)
    (case a33 => k_is)
    (case l33 => k_is)
    (case c33 => k_is)
    (case k33 => k_is)
    (case a34 => k_is)
    (case l34 => k_is)
    (case c34 => k_is)
    (case k34 => k_is)
    (case a35 => k_is)
    (case l35 => k_is)
    (case c35 => k_is)
    (case k35 => k_is)
    (case z_ValueError => k_is)
    (case z_all => k_is)
    (case z_bool => k_is)
    (case z_enumerate => k_is)
    (case z_int => k_is)
    (case z_isinstance => k_is)
    (case z_len => k_is)
    (case z_list => k_is)
    (case z_max => k_is)
    (case z_min => k_is)
    (case z_range => k_is)
    (case z_set => k_is)
    (case z_sum => k_is)
    (case z_tuple => k_is)
    (case xc_BadSet => k_exc)
    (case xc_NoBase => k_exc)
    (case ea_NoBase => k_is)
    (case eb_NoBase => k_is)
    (case ec_NoBase => k_is)
    (case ed_NoBase => k_is)
    (case ee_NoBase => k_is)
    (case ef_NoBase => k_is)
    (case eg_NoBase => k_is)
    (case eh_NoBase => k_is)
    (case hx_NoBase => kts_exm)
    (case qv_NoBase => kit_is)
    (case q_NoBase_BadWeb => kit_is)
    (case q_NoBase_BadSet => kit_is)
    (case q_NoBase_NotRing => kit_is)
    (case q_NoBase_NoBase => kit_is)
    (case q_NoBase_NoSuch => kit_is)
    (case q_NoBase_TooMany => kit_is)

