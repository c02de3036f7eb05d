import PyProof.Rows.All
import Wide.All
import OpenK.AllK
import Wide.FinOn
import Lean
import PyProof.EqAt
import PyProof.EqKinds
import PyProof.TupleCall
import PySem.Challenge.RW_ringbase_k51_whole_worths_of_bases
set_option Elab.async false
set_option linter.all false
set_option maxRecDepth 100000
namespace L2
open PySem PySem.Spec PyProof.Rows
abbrev Key := Sum Int Str
def keyIs : Key → Value → Bool
  | .inl k, v => Value.isInt k v
  | .inr x, v => Value.isStrOf x v
def keyH (w : World) : Key → Int
  | .inl k => hashInt k
  | .inr x => hashStr w x
theorem keyIs_shape : ∀ {k : Key} {v : Value}, keyIs k v = true → (∃ i t, k = Sum.inl i ∧ v = Value.int i t) ∨ (∃ x t, k = Sum.inr x ∧ v = Value.str x t)
  | .inl i, v, h => by
    obtain ⟨t, e⟩ := Value.isInt_shape (k := i) (v := v) h
    exact .inl ⟨i, t, rfl, e⟩
  | .inr x, v, h => by
    obtain ⟨t, e⟩ := Value.isStrOf_shape (x := x) (v := v) h
    exact .inr ⟨x, t, rfl, e⟩
theorem key_ll (a b : Int) : decide ((Sum.inl a : Key) = Sum.inl b) = (a == b) := by
  by_cases e : a = b
  · subst e; simp
  · have h : ¬ (Sum.inl a : Key) = Sum.inl b := fun q => e (Sum.inl.inj q)
    rw [decide_eq_false h]
    exact (beq_eq_false_iff_ne.mpr e).symm
theorem key_rr (a b : Str) : decide ((Sum.inr a : Key) = Sum.inr b) = decide (a = b) := by
  by_cases e : a = b
  · subst e; simp
  · have h : ¬ (Sum.inr a : Key) = Sum.inr b := fun q => e (Sum.inr.inj q)
    rw [decide_eq_false h, decide_eq_false e]
theorem key_lr (a : Int) (b : Str) : decide ((Sum.inl a : Key) = Sum.inr b) = false := decide_eq_false (fun q => nomatch q)
theorem key_rl (a : Str) (b : Int) : decide ((Sum.inr a : Key) = Sum.inl b) = false := decide_eq_false (fun q => nomatch q)
def mixKind (prog : Program) (w : World) : PySem.KeyKind prog w Key where
  is := keyIs
  hash := keyH w
  inj := fun v a b ha hb => by
    rcases keyIs_shape ha with ⟨i, t, rfl, rfl⟩ | ⟨x, t, rfl, rfl⟩
    · rcases keyIs_shape hb with ⟨j, u, rfl, e⟩ | ⟨y, u, rfl, e⟩
      · injection e with e1 _; rw [e1]
      · exact nomatch e
    · rcases keyIs_shape hb with ⟨j, u, rfl, e⟩ | ⟨y, u, rfl, e⟩
      · exact nomatch e
      · injection e with e1 _; rw [e1]
  byValue := fun k v h => by
    rcases keyIs_shape h with ⟨i, t, rfl, rfl⟩ | ⟨x, t, rfl, rfl⟩ <;> rfl
  pyHash := fun hv h => by
    rcases keyIs_shape hv with ⟨i, t, rfl, rfl⟩ | ⟨x, t, rfl, rfl⟩
    · exact wpAny_pyHash_int h
    · exact wpAny_pyHash_str h
  eqBool := fun hu hv h => by
    rcases keyIs_shape hu with ⟨i, t, rfl, rfl⟩ | ⟨x, t, rfl, rfl⟩
    · rcases keyIs_shape hv with ⟨j, u, rfl, rfl⟩ | ⟨y, u, rfl, rfl⟩
      · rw [key_ll] at h; exact wpAny_eqBool_int h
      · rw [key_lr] at h; exact SeqAt.EqAt.int_str i t y u _ _ _ _ h
    · rcases keyIs_shape hv with ⟨j, u, rfl, rfl⟩ | ⟨y, u, rfl, rfl⟩
      · rw [key_rl] at h; exact SeqAt.EqAt.str_int x t j u _ _ _ _ h
      · rw [key_rr] at h; exact wpAny_eqBool_str h
  «strs» := fun k x t v h => by
    rcases keyIs_shape h with ⟨i, u, rfl, e⟩ | ⟨y, u, rfl, e⟩
    · exact nomatch e
    · injection e with e1 _
      subst e1
      cases v <;> rfl
inductive V where
  | non | bl (b : Bool) | int (i : Int) | str (x : Str) | byt (b : Array UInt8) | flt (b : UInt64) | ref (a : Addr) | ty (n : String)
  deriving DecidableEq
def RelV : V → Value → Prop
  | .non, u => u = Value.none
  | .bl b, u => u = Value.bool b
  | .int i, u => ∃ t, u = Value.int i t
  | .str x, u => ∃ t, u = Value.str x t
  | .byt b, u => ∃ t, u = Value.bytes b t
  | .flt b, u => ∃ t, u = Value.float b t
  | .ref a, u => u = Value.ref a
  | .ty n, u => u = Value.type n
abbrev Vals : List V → List Value → Prop := Paired RelV
theorem Vals.length {xs : List V} {us : List Value} (r : Vals xs us) : xs.length = us.length := Paired.length r
theorem Vals.get : ∀ {xs : List V} {us : List Value} {i : Nat} {x : V}, Vals xs us → xs[i]? = some x → ∃ u, us[i]? = some u ∧ RelV x u
  | _, _, _, _, .nil, e => by simp at e
  | _, _, 0, _, .cons r _, e => by simp at e; subst e; exact ⟨_, rfl, r⟩
  | _, _, i + 1, x, .cons _ t, e => by
    obtain ⟨u, h1, h2⟩ := Vals.get (i := i) (x := x) t (by simpa using e)
    exact ⟨u, by simpa using h1, h2⟩
theorem Vals.set {x : V} {u : Value} (r : RelV x u) : ∀ {xs : List V} {us : List Value} (i : Nat), Vals xs us → Vals (xs.set i x) (us.set i u)
  | _, _, _, .nil => .nil
  | _, _, 0, .cons _ t => .cons r t
  | _, _, i + 1, .cons q t => .cons q (Vals.set r i t)
theorem Vals.append : ∀ {xs ys : List V} {us ws : List Value}, Vals xs us → Vals ys ws → Vals (xs ++ ys) (us ++ ws)
  | _, _, _, _, .nil, s => s
  | _, _, _, _, .cons r t, s => .cons r (Vals.append t s)
theorem Vals.take : ∀ {xs : List V} {us : List Value} (n : Nat), Vals xs us → Vals (xs.take n) (us.take n)
  | _, _, 0, _ => .nil
  | _, _, _ + 1, .nil => .nil
  | _, _, n + 1, .cons r t => .cons r (Vals.take n t)
theorem Vals.drop : ∀ {xs : List V} {us : List Value} (n : Nat), Vals xs us → Vals (xs.drop n) (us.drop n)
  | _, _, 0, r => r
  | _, _, _ + 1, .nil => .nil
  | _, _, n + 1, .cons _ t => Vals.drop n t
def RelO : Option V → Option Value → Prop
  | some v, some u => RelV v u
  | none, none => True
  | _, _ => False
def KV {κ : Type} : List (κ × V) → List (κ × Value) → Prop := Paired fun (p : κ × V) (q : κ × Value) => p.1 = q.1 ∧ RelV p.2 q.2
def kV : Key → V
  | .inl i => .int i
  | .inr x => .str x
inductive HO where
  /-- a list -/
  | lst (xs : List V)
  /-- a tuple (never changes) -/
  | tup (xs : List V)
  /-- a dict whose keys are ints and texts; one whose keys are tuples of ints and texts (the empty one is both) -/
  | dK (kvs : List (Key × V)) | dT (kvs : List (List Key × V))
  /-- a set of ints: its members, its size -/
  | set (S : Int → Bool) (n : Nat)
  /-- an instance of the class at C, its dict at dx, its attributes -/
  | ins (C dx : Addr) (fs : List (Str × V))
  /-- the dict of the instance at x -/
  | own (x : Addr)
  /-- the dict of an exception -/
  | xd (fs : List (Str × V))
  /-- a bound method, f of x -/
  | met (f x : Addr)
  /-- a range object lo, lo + 1, .. below hi -/
  | rng (lo hi : Int)
  /-- a thing that is known to the object (the script; a dict while a loop walks it): read, never written while it is so -/
  | frz (o : Obj) (u : HO)
  /-- a code object's table -/
  | tbl (ps : Array Value)
  /-- any other thing, by what is true of its one object (a def of one's own: SetO a S n := HO.ext fun h => ..) -/
  | ext (φ : Heap → Prop)
abbrev Hp := Addr → Option HO
def upd (H : Hp) (a : Addr) (o : HO) : Hp := fun b => if b = a then some o else H b
theorem upd_same {H : Hp} {a : Addr} {o : HO} : upd H a o a = some o := by unfold upd; rw [if_pos rfl]
theorem upd_ne {H : Hp} {a b : Addr} {o : HO} (h : b ≠ a) : upd H a o b = H b := by unfold upd; rw [if_neg h]
theorem ne_of {H : Hp} {a b : Addr} {o u : HO} (h : H a = some o) (h' : H b = some u) (d : o ≠ u) : a ≠ b := by
  intro e; subst e; rw [h] at h'; exact d (Option.some.inj h')
theorem ne_of_none {H : Hp} {a b : Addr} {o : HO} (h : H a = some o) (h' : H b = none) : a ≠ b := by
  intro e; subst e; rw [h] at h'; cases h'
def tblQual (qs : Array Value) : Str := match (qs[0]? : Option Value) with | some (Value.str q _) => q | _ => ""
section
variable (P : Program) (w : World)
def ObjOk (H : Hp) (h : Heap) (a : Addr) : HO → Prop
  | .lst xs => xs.length ≤ sizeLine ∧ ∃ (its : List Value) (n : Nat), Vals xs its ∧ h.get? a = some { cls := .type "list", data := .seq its.toArray n }
  | .tup xs => xs.length ≤ sizeLine ∧ ∃ its : List Value, Vals xs its ∧ IsTup h a its.toArray
  | .dK kvs => kvs.length ≤ sizeLine ∧ (a == sysModules) = false ∧ ∃ vs, KV kvs vs ∧ h.DictOf (mixKind P w) a vs
  | .dT kvs => kvs.length ≤ sizeLine ∧ (a == sysModules) = false ∧ ∃ xs : List (List Key × Addr × Value),
      Paired (fun (p : List Key × V) (q : List Key × Addr × Value) => p.1 = q.1 ∧ H q.2.1 = some (.tup (p.1.map kV)) ∧ RelV p.2 q.2.2) kvs xs ∧
      ∃ o es ep, h.get? a = some o ∧ o.ExactDict ∧ o.data = .dict es ep ∧ es.toList = xs.map (entryOfKey (tupleKind (mixKind P w))) ∧ (xs.map (·.1)).Nodup
  | .set S n => h.SetOf (intKind P w) a S n
  | .ins C dx fs => H dx = some (.own a) ∧ fs.length ≤ 1000 ∧ dx ≠ a ∧ h.get? a = some (PySem.W.instObj C dx) ∧
      ∃ mA, h.Ns1 dx mA ∧ (∀ f, RelO (fs.lookup f) (mA f)) ∧ PySem.Within mA (fs.map (·.1))
  | .own _ => ∃ o, h.get? a = some o
  | .xd fs => ∃ mA, h.Ns1 a mA ∧ ∀ f, RelO (fs.lookup f) (mA f)
  | .rng lo hi => ∃ t u v, h.get? a = some { cls := .type "range", data := .fields #[.int lo t, .int hi u, .int 1 v] }
  | .frz o u => h.get? a = some o ∧ ObjOk H h a u
  | .tbl qs => ∃ ps : Array Value, h.get? a = some { cls := .none, data := .fields ps } ∧ ((qs.size = 3 ∧ (ps = #[] ∨ ∃ c, ps = #[qs.getD 1 .none, qs.getD 2 .none, .ref c] ∧ H c = some (.own a) ∧ h.CodeRec (.ref c) (tblQual qs))) ∨ ∃ q l k, qs = #[q, l, k] ++ ps ∧ ps.size = 3)
  | .met f x => h.get? a = some (PySem.W.methodObj (.ref f) (.ref x))
  | .ext φ => φ h ∧ (∃ o, h.get? a = some o) ∧ ∀ h1 h2 : Heap, φ h1 → (∀ o, h1.get? a = some o → h2.get? a = some o) → φ h2
def HOk (H : Hp) (h : Heap) : Prop := ∀ a o, H a = some o → ObjOk P w H h a o
end
section
variable {P : Program} {w : World} {H H' : Hp} {h h' : Heap} {a : Addr} {o : HO}
theorem ObjOk.lt (x : ObjOk P w H h a o) : a < h.objs.size := by
  cases o with
  | lst xs => obtain ⟨_, _, _, _, e⟩ := x; exact Heap.lt_size e
  | tup xs => obtain ⟨_, _, _, p⟩ := x; exact p.lt
  | dK kvs => obtain ⟨_, _, _, _, o, _, _, e, _⟩ := x; exact Heap.lt_size e
  | dT kvs => obtain ⟨_, _, _, _, o, _, _, e, _⟩ := x; exact Heap.lt_size e
  | set S n => obtain ⟨o, _, _, _, e, _⟩ := x; exact Heap.lt_size e
  | ins C dx fs => obtain ⟨_, _, _, e, _⟩ := x; exact Heap.lt_size e
  | own y => obtain ⟨_, e⟩ := x; exact Heap.lt_size e
  | xd fs => obtain ⟨_, ⟨_, _, _, e, _⟩, _⟩ := x; exact Heap.lt_size e
  | rng lo hi => obtain ⟨_, _, _, e⟩ := x; exact Heap.lt_size e
  | frz ob u => obtain ⟨e, _⟩ := x; exact Heap.lt_size e
  | tbl ps => obtain ⟨_, e, _⟩ := x; exact Heap.lt_size e
  | met f y => exact Heap.lt_size (show h.get? a = some _ from x)
  | ext φ => obtain ⟨_, ⟨_, e⟩, _⟩ := x; exact Heap.lt_size e
theorem Paired.mapP {α β : Type} {F G : α → β → Prop} : ∀ {l₁ : List α} {l₂ : List β}, Paired F l₁ l₂ → (∀ a b, F a b → G a b) → Paired G l₁ l₂
  | _, _, .nil, _ => .nil
  | _, _, .cons r t, f => .cons (f _ _ r) (Paired.mapP t f)
theorem Paired.imp' {α β : Type} {F G : α → β → Prop} (f : ∀ a b, F a b → G a b) {l₁ : List α} {l₂ : List β} (r : Paired F l₁ l₂) : Paired G l₁ l₂ := Paired.mapP r f
theorem ObjOk.stay (x : ObjOk P w H h a o) (k : ∀ b u, (b = a ∨ H b = some (.own a)) → h.get? b = some u → h'.get? b = some u)
    (ho : ∀ b, H b = some (.own a) → H' b = some (.own a)) (ht : ∀ b xs, H b = some (.tup xs) → H' b = some (.tup xs)) : ObjOk P w H' h' a o := by
  induction o with
  | lst xs => obtain ⟨z, its, n, r, e⟩ := x; exact ⟨z, its, n, r, k _ _ (.inl rfl) e⟩
  | tup xs => obtain ⟨z, its, r, ob, e, c⟩ := x; exact ⟨z, its, r, ob, k _ _ (.inl rfl) e, c⟩
  | dK kvs => obtain ⟨z, y, vs, r, ob, es, ep, e, c⟩ := x; exact ⟨z, y, vs, r, ob, es, ep, k _ _ (.inl rfl) e, c⟩
  | dT kvs =>
    obtain ⟨z, y, xs, r, ob, es, ep, e, c⟩ := x
    exact ⟨z, y, xs, Paired.mapP r fun p q z => ⟨z.1, ht _ _ z.2.1, z.2.2⟩, ob, es, ep, k _ _ (.inl rfl) e, c⟩
  | set S n => obtain ⟨ob, es, ep, t, e, c⟩ := x; exact ⟨ob, es, ep, t, k _ _ (.inl rfl) e, c⟩
  | ins C dx fs =>
    obtain ⟨d, z, ne, e, mA, ⟨od, es, ep, e2, c⟩, r⟩ := x
    exact ⟨ho _ d, z, ne, k _ _ (.inl rfl) e, mA, ⟨od, es, ep, k _ _ (.inr d) e2, c⟩, r⟩
  | own y => obtain ⟨ob, e⟩ := x; exact ⟨ob, k _ _ (.inl rfl) e⟩
  | xd fs => obtain ⟨mA, ⟨od, es, ep, e, c⟩, r⟩ := x; exact ⟨mA, ⟨od, es, ep, k _ _ (.inl rfl) e, c⟩, r⟩
  | rng lo hi => obtain ⟨t, u, v, e⟩ := x; exact ⟨t, u, v, k _ _ (.inl rfl) e⟩
  | frz ob u ih => obtain ⟨e, q⟩ := x; exact ⟨k _ _ (.inl rfl) e, ih q⟩
  | tbl qs =>
    obtain ⟨ps, e, f⟩ := x
    refine ⟨ps, k _ _ (.inl rfl) e, ?_⟩
    rcases f with ⟨hz, f | ⟨c, e1, e2, c', oc, vs, tq, hc, ho', hd, hv⟩⟩ | f
    · exact .inl ⟨hz, .inl f⟩
    · cases hc
      exact .inl ⟨hz, .inr ⟨c, e1, ho _ e2, c, oc, vs, tq, rfl, k _ _ (.inr e2) ho', hd, hv⟩⟩
    · exact .inr f
  | met f y =>
    have e : h.get? a = some (PySem.W.methodObj (.ref f) (.ref y)) := x
    show h'.get? a = some (PySem.W.methodObj (.ref f) (.ref y))
    exact k a _ (.inl rfl) e
  | ext φ => obtain ⟨p, ⟨o, e⟩, st⟩ := x; exact ⟨st _ _ p fun o q => k _ _ (.inl rfl) q, ⟨o, k _ _ (.inl rfl) e⟩, st⟩
theorem HOk.lt (x : HOk P w H h) (e : H a = some o) : a < h.objs.size := (x a o e).lt
theorem HOk.fresh (x : HOk P w H h) (e : h.objs.size ≤ a) : H a = none := by
  cases q : H a with
  | none => rfl
  | some u => exact absurd (Nat.lt_of_lt_of_le (x.lt q) e) (Nat.lt_irrefl _)
theorem HOk.kept (x : HOk P w H h) (k : ∀ b u, h.get? b = some u → h'.get? b = some u) : HOk P w H h' := fun a o e =>
  (x a o e).stay (fun b u _ q => k b u q) (fun _ q => q) fun _ _ q => q
theorem HOk.laid (x : HOk P w H h) (k : ∀ b u, h.get? b = some u → h'.get? b = some u) (hp : h.objs.size ≤ a) (new : ObjOk P w (upd H a o) h' a o) : HOk P w (upd H a o) h' := fun b u e => by
  have hn := x.fresh hp
  by_cases hb : b = a
  · subst hb; rw [upd_same] at e; cases e; exact new
  · rw [upd_ne hb] at e
    exact (x b u e).stay (fun c v _ q => k c v q) (fun c q => by rw [upd_ne (ne_of_none q hn)]; exact q) fun c xs q => by rw [upd_ne (ne_of_none q hn)]; exact q
end
def Rd (H : Hp) (a : Addr) (u : HO) : Prop := H a = some u ∨ ∃ o, H a = some (.frz o u)
theorem Rd.ok {P : Program} {w : World} {H : Hp} {h : Heap} {a : Addr} {u : HO} (r : Rd H a u) (x : HOk P w H h) : ObjOk P w H h a u := by
  rcases r with r | ⟨o, r⟩
  · exact x a u r
  · obtain ⟨_, q⟩ := x a _ r
    exact q
def Mut : Option HO → Prop
  | some (.lst _) => True
  | some (.dK _) => True
  | some (.dT _) => True
  | some (.set _ _) => True
  | some (.ins _ _ _) => True
  | some (.ext _) => True
  | _ => False
section
variable {P : Program} {w : World} {H : Hp} {h h' : Heap} {x e : Addr} {o' : HO}
theorem HOk.write (ok : HOk P w H h) (mu : Mut (H x)) (he : e = x ∨ H e = some (.own x)) (k : ∀ b u, b ≠ e → h.get? b = some u → h'.get? b = some u) (heo : ∃ u, h'.get? e = some u)
    (new : ObjOk P w (upd H x o') h' x o') : HOk P w (upd H x o') h' := fun b u q => by
  have nown : ∀ c y, H c = some (.own y) → c ≠ x := fun c y r z => by subst z; rw [r] at mu; exact mu
  have ntup : ∀ c xs, H c = some (.tup xs) → c ≠ x := fun c xs r z => by subst z; rw [r] at mu; exact mu
  by_cases hb : b = x
  · subst hb; rw [upd_same] at q; cases q; exact new
  · rw [upd_ne hb] at q
    by_cases hbe : b = e
    · have q' : H b = some (.own x) := by
        rcases he with z | z
        · exact absurd (hbe.trans z) hb
        · rw [hbe]; exact z
      rw [q] at q'; cases q'
      obtain ⟨v, hv⟩ := heo
      exact ⟨v, by rw [hbe]; exact hv⟩
    · refine (ok b u q).stay (fun c v hc r => k c v ?_ r) (fun c r => by rw [upd_ne (nown c b r)]; exact r) fun c xs r => by rw [upd_ne (ntup c xs r)]; exact r
      rcases hc with rfl | hc
      · exact hbe
      · rintro rfl
        rcases he with z | z
        · exact nown c b hc z
        · rw [hc] at z; cases z; exact hb rfl
end
structure Un (fs ex : List Addr) (H H' : Hp) (h h' : Heap) : Prop where
  keep : ∀ b o, h.get? b = some o → H b = none → b ∉ fs → b ∉ ex → h'.get? b = some o
  slot : ∀ b o, h.get? b = some o → H b = none → b ∈ fs → b ∉ ex → ∃ sl, h'.get? b = some { o with slots := sl }
  free : ∀ b o, h.get? b = some o → H b = none → b ∉ ex → H' b = none
  there : ∀ b o, h.get? b = some o → b ∉ ex → ∃ o', h'.get? b = some o'
  tups : ∀ b xs, H b = some (.tup xs) → H' b = some (.tup xs)
  frzs : ∀ b o u, H b = some (.frz o u) → H' b = some (.frz o u)
  tbls : ∀ b ps, H b = some (.tbl ps) → ∃ more, H' b = some (.tbl (ps ++ more))
section
variable {fs fs' ex ex' : List Addr} {H H1 H2 : Hp} {h h1 h2 h' : Heap} {a x e : Addr} {o : HO}
theorem Un.any (u : Un fs ex H H1 h h1) {b : Addr} {ob : Obj} (q : h.get? b = some ob) (n : H b = none) (hx : b ∉ ex) : ∃ sl, h1.get? b = some { ob with slots := sl } := by
  by_cases hb : b ∈ fs
  · exact u.slot b ob q n hb hx
  · exact ⟨ob.slots, u.keep b ob q n hb hx⟩
theorem Un.kept (k : ∀ b u, h.get? b = some u → h'.get? b = some u) : Un fs ex H H h h' :=
  ⟨fun b ob q _ _ _ => k b ob q, fun b ob q _ _ _ => ⟨ob.slots, k b ob q⟩, fun _ _ _ n _ => n, fun b ob q _ => ⟨ob, k b ob q⟩, fun _ _ q => q, fun _ _ _ q => q, fun _ ps q => ⟨#[], by rw [q]; simp⟩⟩
theorem Un.refl : Un fs ex H H h h := Un.kept fun _ _ q => q
theorem Un.laid (k : ∀ b u, h.get? b = some u → h'.get? b = some u) (hp : h.objs.size ≤ a) (hn : H a = none) : Un fs ex H (upd H a o) h h' where
  keep := fun b u q _ _ _ => k b u q
  slot := fun b u q _ _ _ => ⟨u.slots, k b u q⟩
  free := fun b u q n _ => by rw [upd_ne (Nat.ne_of_lt (Nat.lt_of_lt_of_le (Heap.lt_size q) hp))]; exact n
  there := fun b u q _ => ⟨u, k b u q⟩
  tups := fun b xs q => by rw [upd_ne (ne_of_none q hn)]; exact q
  frzs := fun b u xs q => by rw [upd_ne (ne_of_none q hn)]; exact q
  tbls := fun b ps q => ⟨#[], by rw [upd_ne (ne_of_none q hn), q]; simp⟩
theorem Un.write (mu : Mut (H x)) (he : e = x ∨ H e = some (.own x)) (k : ∀ b u, b ≠ e → h.get? b = some u → h'.get? b = some u) (heo : ∃ u, h'.get? e = some u) : Un fs ex H (upd H x o) h h' := by
  have hx : ∀ b, H b = none → b ≠ x := fun b n z => by subst z; rw [n] at mu; exact mu
  have hb : ∀ b, H b = none → b ≠ e := fun b n z => by
    subst z
    rcases he with r | r
    · exact hx b n r
    · rw [n] at r; cases r
  have hm : ∀ b u, H b = some u → ¬ Mut (some u) → b ≠ x := fun b u q nm z => by subst z; rw [q] at mu; exact nm mu
  refine ⟨fun b u q n _ _ => k b u (hb b n) q, fun b u q n _ _ => ⟨u.slots, k b u (hb b n) q⟩, fun b u q n _ => by rw [upd_ne (hx b n)]; exact n, fun b u q _ => ?_,
    fun b xs q => by rw [upd_ne (hm b _ q fun z => z)]; exact q, fun b u xs q => by rw [upd_ne (hm b _ q fun z => z)]; exact q, fun b ps q => ⟨#[], by rw [upd_ne (hm b _ q fun z => z), q]; simp⟩⟩
  by_cases hbe : b = e
  · subst hbe; exact heo
  · exact ⟨u, k b u hbe q⟩
end
def trk (h : Heap) (H : Hp) : List Addr := (List.range h.objs.size).filter fun a => (H a).isSome
def hidT (h : Heap) (H : Hp) : Heap := PySem.W.hideAll h (trk h H)
theorem hidT_size (h : Heap) (H : Hp) : (hidT h H).objs.size = h.objs.size := PySem.W.hideAll_size _ _
theorem hidT_get {h : Heap} {H : Hp} {b : Addr} {o : Obj} (e : h.get? b = some o) (n : H b = none) : (hidT h H).get? b = some o :=
  PySem.W.hideAll_get _ e fun hm => by
    have q : (H b).isSome = true := (List.mem_filter.mp hm).2
    rw [n] at q; simp at q
theorem of_hidT {h : Heap} {H : Hp} {b : Addr} {o : Obj} (e : (hidT h H).get? b = some o) : h.get? b = some o ∧ H b = none := by
  have e' : h.get? b = some o := PySem.W.of_hideAll (trk h H) e
  refine ⟨e', ?_⟩
  cases q : H b with
  | none => rfl
  | some x =>
    have hm : b ∈ trk h H := List.mem_filter.mpr ⟨List.mem_range.mpr (Heap.lt_size e'), by simp [q]⟩
    have z : (hidT h H).get? b = none := PySem.W.hideAll_none (trk h H) hm
    rw [z] at e; cases e
structure Mod (K : PySem.W.Frag) (mg : Str → Option Value) (base : Heap) : Prop where
  kin : K.In base
  glob : base.Ns mainGlobals mg
  blt : ∃ mb, base.Ns builtinsNs mb ∧ ∀ x : Str, x ≠ "__name__" → mb x = bootBuiltins x
  nolimit : base.NoLimit
  bmain : ∃ bm ob, mg "__builtins__" = some (.ref bm) ∧ bm ≠ builtinsNs ∧ base.get? bm = some ob ∧ ob.cls = .type "module" ∧ ob.dict = some builtinsNs ∧ ob.data = .plain
structure Cx where
  prog : Program
  w : World
  K : PySem.W.Frag
  mg : Str → Option Value
  base : Heap
  A : Around
  N : List Str
  s₀ : Shared
  H₀ : Hp
  env : Env
  outer : List Env
  stack : List Env
  ex : List Addr
  fn : Str → Bool
  calm : Bool
  pn : List (Addr × Obj)
  xe : Value → Shared → Prop
def frs (l : List Env) : List Addr := l.filterMap (·.frame)
abbrev Cx.fs (X : Cx) : List Addr := frs X.outer
def Vis (sc : Scope) (x : Str) : Prop := sc.names.lookup x = some .local ∨ sc.names.lookup x = some .cell ∨ sc.names.lookup x = some .free
def Loc (sc : Scope) (x : Str) : Prop := sc.names.lookup x = some .local ∨ sc.names.lookup x = some .cell
def Look (env : Env) (h : Heap) (m : Str → Option Value) (x : Str) (u : Value) : Prop :=
  (env.kindOf x = some .local ∧ m x = some u) ∨ ((env.kindOf x = some .cell ∨ env.kindOf x = some .free) ∧ ∃ c, env.cells.lookup x = some c ∧ h.IsCell c (some u))
structure Cx.Ok (X : Cx) : Prop where
  mod : Mod X.K X.mg X.base
  kind : X.env.scope.kind = .function
  glob : X.env.globals = mainGlobals
  blt : X.env.builtins = builtinsNs
  above : X.s₀.heap.objs.size ≤ X.env.locals
  inj : ∀ x y c, X.env.cells.lookup x = some c → X.env.cells.lookup y = some c → x = y
  has : ∀ x, (X.env.kindOf x = some .cell ∨ X.env.kindOf x = some .free) → ∃ c, X.env.cells.lookup x = some c
  cab : ∀ x c, X.fn x = true → X.env.cells.lookup x = some c → X.s₀.heap.objs.size ≤ c
  hd : X.calm = true → X.A.handled = none
  frames : X.A.frames = some X.stack
  stk : X.stack = X.outer ∨ (X.stack = X.env :: X.outer ∧ X.env.frame = some X.env.locals)
  exf : ∀ b ∈ X.ex, b ≠ X.env.locals ∧ ∀ x c, X.env.cells.lookup x = some c → c ≠ b
  bs : ∀ b o, X.base.get? b = some o → X.s₀.heap.get? b = some o ∧ X.H₀ b = none
  bsz : X.base.objs.size ≤ X.s₀.heap.objs.size
  noex : ∀ b o, X.base.get? b = some o → b ∉ X.ex
  exfs : ∀ b ∈ X.ex, b ∉ X.fs
  funs : X.s₀.heap.FunFrames X.base X.outer
  frf : ∀ b ∈ X.fs, X.H₀ b = none
structure Inv (X : Cx) (pins : List (Addr × Obj)) (σ : List (Option V)) (H : Hp) (s : Shared) : Prop where
  ok : X.Ok
  os : s.os = X.s₀.os
  bare : AllBare s.gens
  base : Un X.fs X.ex X.H₀ H X.s₀.heap s.heap
  loc : ∃ m, s.heap.Ns X.env.locals m ∧ ∀ (i : Nat) (x : Str) (v : V), X.N[i]? = some x → σ[i]? = some (some v) → Vis X.env.scope x → ∃ u, RelV v u ∧ Look X.env s.heap m x u
  cell : ∀ x c, X.env.cells.lookup x = some c → ∃ v, s.heap.IsCell c v
  free : H X.env.locals = none
  freeC : ∀ x c, X.env.cells.lookup x = some c → H c = none
  pin : ∀ p ∈ X.pn ++ pins, s.heap.get? p.1 = some p.2 ∧ H p.1 = none ∧ p.1 ≠ X.env.locals ∧ p.1 ∉ X.fs ∧ ∀ v, p.2.data ≠ .cell v
  hok : HOk X.prog X.w H s.heap
  len : σ.length = X.N.length
section
variable {X : Cx} {pins : List (Addr × Obj)} {σ : List (Option V)} {H H' : Hp} {s : Shared} {h' : Heap}
theorem Cx.Ok.nofr (ok : X.Ok) {b : Addr} {o : Obj} (e : X.base.get? b = some o) : b ∉ X.fs := fun hb => by
  have := (ok.funs.mem hb).1
  rw [e] at this; cases this
theorem Inv.bs (I : Inv X pins σ H s) : ∀ b o, X.base.get? b = some o → s.heap.get? b = some o ∧ H b = none := fun b o e =>
  ⟨I.base.keep b o (I.ok.bs b o e).1 (I.ok.bs b o e).2 (I.ok.nofr e) (I.ok.noex b o e), I.base.free b o (I.ok.bs b o e).1 (I.ok.bs b o e).2 (I.ok.noex b o e)⟩
theorem Inv.bk (I : Inv X pins σ H s) : ∀ b o, X.base.get? b = some o → s.heap.get? b = some o := fun b o e => (I.bs b o e).1
theorem Inv.mod (I : Inv X pins σ H s) : Mod X.K X.mg X.base := I.ok.mod
theorem Inv.kIn (I : Inv X pins σ H s) : X.K.In s.heap := I.ok.mod.kin.keeps I.bk
theorem Inv.lt (I : Inv X pins σ H s) : X.env.locals < s.heap.objs.size := let ⟨_, hn, _⟩ := I.loc; hn.lt
theorem Inv.sz (I : Inv X pins σ H s) : X.s₀.heap.objs.size ≤ s.heap.objs.size := Nat.le_trans I.ok.above (Nat.le_of_lt I.lt)
theorem Inv.nofs (I : Inv X pins σ H s) {a : Addr} (h : s.heap.objs.size ≤ a) : a ∉ X.fs := fun hb => by
  obtain ⟨_, o, ho, _⟩ := I.ok.funs.mem hb
  exact absurd (Nat.lt_of_lt_of_le (Heap.lt_size ho) (Nat.le_trans I.sz h)) (Nat.lt_irrefl _)
theorem Inv.cne (I : Inv X pins σ H s) : ∀ x c, X.env.cells.lookup x = some c → c ≠ X.env.locals := fun x c e z => by
  obtain ⟨v, o, ho, hd⟩ := I.cell x c e
  obtain ⟨m, ⟨o', es, ep, ho', hd', _⟩, _⟩ := I.loc
  rw [z, ho'] at ho; cases ho; rw [hd'] at hd; cases hd
theorem Inv.funs (I : Inv X pins σ H s) : s.heap.FunFrames X.base X.outer := by
  have all : ∀ (l : List Env), (∀ b ∈ frs l, b ∈ X.fs) → X.s₀.heap.FunFrames X.base l → s.heap.FunFrames X.base l := by
    intro l
    induction l with
    | nil => intro _ _; trivial
    | cons env r ih =>
      intro hs hl
      obtain ⟨hk, ⟨L, o, hf, hn, ho, hd⟩, hr⟩ := hl
      have hL : L ∈ X.fs := hs L (by unfold frs; rw [List.filterMap_cons, hf]; exact List.mem_cons_self)
      obtain ⟨sl, e⟩ := I.base.slot L o ho (I.ok.frf L hL) hL fun z => I.ok.exfs L z hL
      exact ⟨hk, ⟨L, _, hf, hn, e, hd⟩, ih (fun b hb => hs b (by unfold frs; rw [List.filterMap_cons, hf]; exact List.mem_cons_of_mem _ hb)) hr⟩
  exact all X.outer (fun _ hb => hb) I.ok.funs
theorem Inv.stack (I : Inv X pins σ H s) : s.heap.FunFrames X.base X.stack := by
  rcases I.ok.stk with e | ⟨e, hf⟩
  · rw [e]; exact I.funs
  · rw [e]
    obtain ⟨m, hn, _⟩ := I.loc
    refine .cons (by rw [I.ok.kind]; decide) hf hn ?_ I.funs
    exact Heap.get?_none_of_le (Nat.le_trans I.ok.bsz I.ok.above)
theorem Inv.stkSub (I : Inv X pins σ H s) : ∀ b ∈ frs X.stack, b ∈ X.env.locals :: X.fs := fun b hb => by
  rcases I.ok.stk with e | ⟨e, hf⟩
  · rw [e] at hb; exact List.mem_cons_of_mem _ hb
  · rw [e] at hb
    unfold frs at hb
    rw [List.filterMap_cons, hf] at hb
    exact hb
theorem Inv.stkFree (I : Inv X pins σ H s) : ∀ b ∈ frs X.stack, H b = none := fun b hb => by
  rcases List.mem_cons.mp (I.stkSub b hb) with e | hb
  · rw [e]; exact I.free
  · obtain ⟨_, o, ho, _⟩ := I.ok.funs.mem hb
    exact I.base.free b o ho (I.ok.frf b hb) fun z => I.ok.exfs b z hb
theorem Inv.step {g' : Array GenState} {t' : Nat} {d' : Drawn} {ch : List Addr} (I : Inv X pins σ H s)
    (hch : ∀ b ∈ ch, (b ∈ X.ex ∨ X.s₀.heap.objs.size ≤ b) ∧ b ≠ X.env.locals ∧ (∀ x c, X.env.cells.lookup x = some c → c ≠ b) ∧ ∀ p ∈ X.pn ++ pins, p.1 ≠ b)
    (keep : ∀ b o, b ≠ X.env.locals → b ∉ X.fs → b ∉ ch → s.heap.get? b = some o → H b = none → h'.get? b = some o)
    (slot : ∀ b o, b ≠ X.env.locals → b ∈ X.fs → b ∉ ch → s.heap.get? b = some o → H b = none → ∃ sl, h'.get? b = some { o with slots := sl }) (free : ∀ b o, b ∉ ch → s.heap.get? b = some o → H b = none → H' b = none)
    (there : ∀ b o, b ∉ ch → s.heap.get? b = some o → ∃ o', h'.get? b = some o')
    (tups : ∀ b xs, H b = some (.tup xs) → H' b = some (.tup xs)) (frzs : ∀ b o u, H b = some (.frz o u) → H' b = some (.frz o u)) (tbls : ∀ b ps, H b = some (.tbl ps) → ∃ more, H' b = some (.tbl (ps ++ more)))
    (ns : ∀ m, s.heap.Ns X.env.locals m → h'.Ns X.env.locals m) (hok : HOk X.prog X.w H' h') (hg : AllBare g') :
    Inv X pins σ H' { s with heap := h', gens := g', drawn := d', toks := t' } := by
  have neL : ∀ b o, X.s₀.heap.get? b = some o → b ≠ X.env.locals := fun b o e => Nat.ne_of_lt (Nat.lt_of_lt_of_le (Heap.lt_size e) I.ok.above)
  have neC : ∀ b o, X.s₀.heap.get? b = some o → b ∉ X.ex → b ∉ ch := fun b o e hx hb => by
    rcases (hch b hb).1 with z | z
    · exact hx z
    · exact absurd (Nat.lt_of_lt_of_le (Heap.lt_size e) z) (Nat.lt_irrefl _)
  have cellK : ∀ x c, X.env.cells.lookup x = some c → ∀ v, s.heap.IsCell c v → h'.IsCell c v := fun x c e v ⟨o, ho, hd⟩ => by
    have nch : c ∉ ch := fun z => (hch c z).2.2.1 x c e rfl
    by_cases hc : c ∈ X.fs
    · obtain ⟨sl, q⟩ := slot c o (I.cne x c e) hc nch ho (I.freeC x c e)
      exact ⟨_, q, hd⟩
    · exact ⟨o, keep c o (I.cne x c e) hc nch ho (I.freeC x c e), hd⟩
  refine ⟨I.ok, I.os, hg, ⟨fun b o e n hb hx => ?_, fun b o e n hb hx => ?_, fun b o e n hx => ?_, fun b o e hx => ?_, fun b xs e => tups b xs (I.base.tups b xs e), fun b o xs e => frzs b o xs (I.base.frzs b o xs e), fun b ps e => ?_⟩, ?_, fun x c e => ?_, ?_, fun x c e => ?_, fun p hp => ?_, hok, I.len⟩
  · exact keep b o (neL b o e) hb (neC b o e hx) (I.base.keep b o e n hb hx) (I.base.free b o e n hx)
  · obtain ⟨sl, e1⟩ := I.base.slot b o e n hb hx
    obtain ⟨sl', e2⟩ := slot b _ (neL b o e) hb (neC b o e hx) e1 (I.base.free b o e n hx)
    exact ⟨sl', e2⟩
  · obtain ⟨o', e1⟩ := I.base.there b o e hx
    exact free b o' (neC b o e hx) e1 (I.base.free b o e n hx)
  · obtain ⟨o', e1⟩ := I.base.there b o e hx
    exact there b o' (neC b o e hx) e1
  · obtain ⟨m1, e1⟩ := I.base.tbls b ps e
    obtain ⟨m2, e2⟩ := tbls b _ e1
    exact ⟨m1 ++ m2, by rw [e2, Array.append_assoc]⟩
  · obtain ⟨m, hn, hl⟩ := I.loc
    refine ⟨m, ns m hn, fun i x v e1 e2 e3 => ?_⟩
    obtain ⟨u, r, l⟩ := hl i x v e1 e2 e3
    refine ⟨u, r, ?_⟩
    rcases l with l | ⟨k, c, e, z⟩
    · exact .inl l
    · exact .inr ⟨k, c, e, cellK x c e _ z⟩
  · obtain ⟨v, z⟩ := I.cell x c e
    exact ⟨v, cellK x c e v z⟩
  · obtain ⟨m, ⟨o, _, _, ho, _⟩, _⟩ := I.loc
    exact free _ o (fun z => (hch _ z).2.1 rfl) ho I.free
  · obtain ⟨v, o, ho, hd⟩ := I.cell x c e
    exact free c o (fun z => (hch c z).2.2.1 x c e rfl) ho (I.freeC x c e)
  · obtain ⟨e, n, ne, nf, d⟩ := I.pin p hp
    have nch : p.1 ∉ ch := fun z => (hch p.1 z).2.2.2 p hp rfl
    exact ⟨keep p.1 p.2 ne nf nch e n, free p.1 p.2 nch e n, ne, nf, d⟩
theorem Inv.un {t' : Nat} (I : Inv X pins σ H s) (u : Un X.fs [] H H' s.heap h') (hok : HOk X.prog X.w H' h') : Inv X pins σ H' { s with heap := h', toks := t' } := by
  obtain ⟨m, ⟨o, es, ep, ho, r⟩, _⟩ := id I.loc
  obtain ⟨sl, hL⟩ := u.any ho I.free (by simp)
  exact I.step (g' := s.gens) (d' := s.drawn) (ch := []) (fun _ z => nomatch z) (fun b o _ hb _ e n => u.keep b o e n hb (by simp)) (fun b o _ hb _ e n => u.slot b o e n hb (by simp)) (fun b o _ e n => u.free b o e n (by simp)) (fun b o _ e => u.there b o e (by simp)) u.tups u.frzs u.tbls (fun m' hm => by
    obtain ⟨o', es', ep', ho', r'⟩ := hm
    rw [ho] at ho'; cases ho'
    exact ⟨_, es', ep', hL, r'⟩) hok I.bare
theorem Inv.call {g' : Array GenState} {t' : Nat} {d' : Drawn} {ch : List Addr} (I : Inv X pins σ H s) (u : Un (frs X.stack) ch H H' s.heap h') (hok : HOk X.prog X.w H' h') (hg : AllBare g')
    (hch : ∀ b ∈ ch, (b ∈ X.ex ∨ X.s₀.heap.objs.size ≤ b) ∧ b ≠ X.env.locals ∧ (∀ x c, X.env.cells.lookup x = some c → c ≠ b) ∧ ∀ p ∈ X.pn ++ pins, p.1 ≠ b) :
    Inv X pins σ H' { s with heap := h', gens := g', drawn := d', toks := t' } := by
  obtain ⟨m, ⟨o, es, ep, ho, r⟩, _⟩ := id I.loc
  obtain ⟨sl, hL⟩ := u.any ho I.free fun z => (hch _ z).2.1 rfl
  exact I.step (ch := ch) hch (fun b o hL hb hc e n => u.keep b o e n (fun z => (List.mem_cons.mp (I.stkSub b z)).elim hL hb) hc) (fun b o _ _ hc e n => u.any e n hc) (fun b o hc e n => u.free b o e n hc) (fun b o hc e => u.there b o e hc) u.tups u.frzs u.tbls (fun m' hm => by
    obtain ⟨o', es', ep', ho', r'⟩ := hm
    rw [ho] at ho'; cases ho'
    exact ⟨_, es', ep', hL, r'⟩) hok hg
theorem Inv.turned {t' : Nat} {it : Addr} (I : Inv X pins σ H s) (k : ∀ b o, b ≠ it → s.heap.get? b = some o → h'.get? b = some o) (hn : H it = none) (hL : it ≠ X.env.locals)
    (h1 : it ∈ X.ex ∨ X.s₀.heap.objs.size ≤ it) (h2 : ∀ x c, X.env.cells.lookup x = some c → c ≠ it) (h3 : ∀ p ∈ X.pn ++ pins, p.1 ≠ it) : Inv X pins σ H { s with heap := h', toks := t' } := by
  have nit : ∀ b u, H b = some u → b ≠ it := fun b u e z => by rw [z, hn] at e; cases e
  refine I.step (g' := s.gens) (d' := s.drawn) (ch := [it]) (fun b hb => ?_) (fun b o _ _ hc e _ => k b o (fun z => hc (by simp [z])) e) (fun b o _ _ hc e _ => ⟨o.slots, k b o (fun z => hc (by simp [z])) e⟩) (fun _ _ _ _ n => n)
    (fun b o hc e => ⟨o, k b o (fun z => hc (by simp [z])) e⟩) (fun _ _ e => e) (fun _ _ _ e => e) (fun b ps e => ⟨#[], by rw [e]; simp⟩) (fun m hm => ?_) (fun b u e => ?_) I.bare
  · have e : b = it := by simpa using hb
    subst e
    exact ⟨h1, hL, h2, h3⟩
  · obtain ⟨o, es, ep, ho, r⟩ := hm
    exact ⟨o, es, ep, k _ o (Ne.symm hL) ho, r⟩
  · refine (I.hok b u e).stay (fun c v hc q => k c v ?_ q) (fun _ q => q) fun _ _ q => q
    rcases hc with z | z
    · rw [z]; exact nit b u e
    · exact nit c _ z
theorem Inv.tok (I : Inv X pins σ H s) (t : Nat) : Inv X pins σ H { s with toks := t } := I.un (h' := s.heap) (t' := t) Un.refl I.hok
theorem Inv.kept {t' : Nat} (I : Inv X pins σ H s) (k : ∀ b u, s.heap.get? b = some u → h'.get? b = some u) : Inv X pins σ H { s with heap := h', toks := t' } := I.un (Un.kept k) (I.hok.kept k)
theorem Inv.laid {a : Addr} {o : HO} {t' : Nat} (I : Inv X pins σ H s) (k : ∀ b u, s.heap.get? b = some u → h'.get? b = some u) (hp : s.heap.objs.size ≤ a) (new : ObjOk X.prog X.w (upd H a o) h' a o) :
    Inv X pins σ (upd H a o) { s with heap := h', toks := t' } := I.un (Un.laid k hp (I.hok.fresh hp)) (I.hok.laid k hp new)
theorem Inv.write {x e : Addr} {o : HO} {t' : Nat} (I : Inv X pins σ H s) (mu : Mut (H x)) (he : e = x ∨ H e = some (.own x)) (k : ∀ b u, b ≠ e → s.heap.get? b = some u → h'.get? b = some u) (heo : ∃ u, h'.get? e = some u)
    (new : ObjOk X.prog X.w (upd H x o) h' x o) : Inv X pins σ (upd H x o) { s with heap := h', toks := t' } := I.un (Un.write mu he k heo) (I.hok.write mu he k heo new)
theorem Inv.weak {σ' : List (Option V)} (I : Inv X pins σ H s) (hl : σ'.length = σ.length) (w : ∀ (i : Nat) v, σ'[i]? = some (some v) → σ[i]? = some (some v)) : Inv X pins σ' H s :=
  ⟨I.ok, I.os, I.bare, I.base, let ⟨m, hn, hl'⟩ := I.loc; ⟨m, hn, fun i x v e1 e2 e3 => hl' i x v e1 (w i v e2) e3⟩, I.cell, I.free, I.freeC, I.pin, I.hok, hl.trans I.len⟩
theorem Inv.pins_of {pins' : List (Addr × Obj)} (I : Inv X pins σ H s) (h : ∀ p ∈ pins', s.heap.get? p.1 = some p.2 ∧ H p.1 = none ∧ p.1 ≠ X.env.locals ∧ p.1 ∉ X.fs ∧ ∀ v, p.2.data ≠ .cell v) : Inv X pins' σ H s :=
  ⟨I.ok, I.os, I.bare, I.base, I.loc, I.cell, I.free, I.freeC, fun p hp => (List.mem_append.mp hp).elim (fun z => I.pin p (List.mem_append_left _ z)) (h p), I.hok, I.len⟩
theorem nodup_ix {N : List Str} (hN : N.Nodup) {i j : Nat} {x : Str} (a : N[i]? = some x) (b : N[j]? = some x) : i = j := by
  obtain ⟨h1, e1⟩ := List.getElem?_eq_some_iff.mp a
  obtain ⟨h2, e2⟩ := List.getElem?_eq_some_iff.mp b
  exact (List.getElem_inj hN).mp (e1.trans e2.symm)
theorem store_ok2 {M : Model} {A : Around} {E : Value → Shared → Prop} {i : Nat} {x : Str} {v : V} {u : Value} {Q : Unit → Shared → Prop} (I : Inv X pins σ H s) (hN : X.N.Nodup) (hi : X.N[i]? = some x) (hx : Loc X.env.scope x) (r : RelV v u)
    (h : ∀ s', Inv X pins (σ.set i (some v)) H s' → (∃ a, Heap.SameBut a s.heap s'.heap ∧ (a = X.env.locals ∨ X.env.cells.lookup x = some a)) → Q () s') (hf : X.fn x = true ∨ X.env.scope.names.lookup x = some .local := by first | exact .inl rfl | exact .inr rfl | assumption) : wpAny M A (storeName X.env x u) Q E s := by
  obtain ⟨m, hn, hl⟩ := id I.loc
  have hcls : (X.env.scope.kind == .class || (X.env.scope.kind == .module && X.env.locals != X.env.globals)) = false := by rw [I.ok.kind]; rfl
  have hiσ : i < σ.length := by rw [I.len]; exact (List.getElem?_eq_some_iff.mp hi).1
  have cne := I.cne
  have tracked : ∀ {a : Addr} {h' : Heap}, (∃ o, s.heap.get? a = some o ∧ H a = none) → Heap.SameBut a s.heap h' → HOk X.prog X.w H h' := fun {a h'} ha hs b ob e => by
    obtain ⟨_, _, hfree⟩ := ha
    refine (I.hok b ob e).stay (fun c w' hc q => (hs.2 c ?_).trans q) (fun _ q => q) fun _ _ q => q
    rintro rfl
    rcases hc with rfl | hc
    · rw [hfree] at e; cases e
    · rw [hfree] at hc; cases hc
  rcases hx with hk | hk
  · refine wpAny_storeName_local hk hn (fun h' hn' hs => ?_) hcls
    obtain ⟨oL, _, _, hoL, _⟩ := id hn
    refine h _ ⟨I.ok, I.os, I.bare, ⟨fun b o e n hb hx => ?_, fun b o e n hb hx => ?_, I.base.free, fun b o e hx => ?_, I.base.tups, I.base.frzs, I.base.tbls⟩, ⟨_, hn', fun j y v' e1 e2 e3 => ?_⟩, fun y c e => ?_, I.free, I.freeC, fun p hp => ?_, tracked ⟨oL, hoL, I.free⟩ hs, by simpa using I.len⟩ ⟨_, hs, .inl rfl⟩
    · exact (hs.2 b (Nat.ne_of_lt (Nat.lt_of_lt_of_le (Heap.lt_size e) I.ok.above))).trans (I.base.keep b o e n hb hx)
    · obtain ⟨sl, e1⟩ := I.base.slot b o e n hb hx
      exact ⟨sl, (hs.2 b (Nat.ne_of_lt (Nat.lt_of_lt_of_le (Heap.lt_size e) I.ok.above))).trans e1⟩
    · obtain ⟨o', e1⟩ := I.base.there b o e hx
      exact ⟨o', (hs.2 b (Nat.ne_of_lt (Nat.lt_of_lt_of_le (Heap.lt_size e) I.ok.above))).trans e1⟩
    · by_cases hj : j = i
      · subst hj
        rw [hi] at e1; cases e1
        rw [List.getElem?_set_self hiσ] at e2
        cases e2
        exact ⟨u, r, .inl ⟨hk, by simp⟩⟩
      · rw [List.getElem?_set_ne (Ne.symm hj)] at e2
        obtain ⟨u', r', q⟩ := hl j y v' e1 e2 e3
        refine ⟨u', r', ?_⟩
        rcases q with ⟨k, e⟩ | ⟨k, c, e, z⟩
        · refine .inl ⟨k, ?_⟩
          have : y ≠ x := fun e => hj (nodup_ix hN e1 (e ▸ hi))
          simp [this, e]
        · exact .inr ⟨k, c, e, z.sameBut hs (cne y c e)⟩
    · obtain ⟨w', z⟩ := I.cell y c e
      exact ⟨w', z.sameBut hs (cne y c e)⟩
    · obtain ⟨e, n, ne, nf, d⟩ := I.pin p hp
      exact ⟨(hs.2 p.1 ne).trans e, n, ne, nf, d⟩
  · have hfn : X.fn x = true := by
      rcases hf with z | z
      · exact z
      · rw [z] at hk; cases hk
    obtain ⟨c, hc⟩ := I.ok.has x (.inl hk)
    obtain ⟨w', z⟩ := I.cell x c hc
    refine wpAny_storeName_cell I.ok.kind hk hc z (fun h' hc' hs => ?_)
    obtain ⟨oc, hoc, hocd⟩ := id z
    refine h { s with heap := h' } ⟨I.ok, I.os, I.bare, ⟨fun b o e n hb hx => ?_, fun b o e n hb hx => ?_, I.base.free, fun b o e hx => ?_, I.base.tups, I.base.frzs, I.base.tbls⟩, ⟨m, hn.sameBut hs (Ne.symm (cne x c hc)), fun j y v' e1 e2 e3 => ?_⟩, fun y c' e => ?_, I.free, I.freeC, fun p hp => ?_, tracked ⟨oc, hoc, I.freeC x c hc⟩ hs, by simpa using I.len⟩ ⟨c, hs, .inr hc⟩
    · exact (hs.2 b (Nat.ne_of_lt (Nat.lt_of_lt_of_le (Heap.lt_size e) (I.ok.cab x c hfn hc)))).trans (I.base.keep b o e n hb hx)
    · obtain ⟨sl, e1⟩ := I.base.slot b o e n hb hx
      exact ⟨sl, (hs.2 b (Nat.ne_of_lt (Nat.lt_of_lt_of_le (Heap.lt_size e) (I.ok.cab x c hfn hc)))).trans e1⟩
    · obtain ⟨o', e1⟩ := I.base.there b o e hx
      exact ⟨o', (hs.2 b (Nat.ne_of_lt (Nat.lt_of_lt_of_le (Heap.lt_size e) (I.ok.cab x c hfn hc)))).trans e1⟩
    · by_cases hj : j = i
      · subst hj
        rw [hi] at e1; cases e1
        rw [List.getElem?_set_self hiσ] at e2
        cases e2
        exact ⟨u, r, .inr ⟨.inl hk, c, hc, hc'⟩⟩
      · rw [List.getElem?_set_ne (Ne.symm hj)] at e2
        obtain ⟨u', r', q⟩ := hl j y v' e1 e2 e3
        refine ⟨u', r', ?_⟩
        rcases q with q | ⟨k, c', e, z'⟩
        · exact .inl q
        · refine .inr ⟨k, c', e, z'.sameBut hs ?_⟩
          rintro rfl
          exact hj (nodup_ix hN e1 (I.ok.inj _ _ _ e hc ▸ hi))
    · by_cases hcc : c' = c
      · subst hcc; exact ⟨_, hc'⟩
      · obtain ⟨w2, z2⟩ := I.cell y c' e
        exact ⟨w2, z2.sameBut hs hcc⟩
    · obtain ⟨e, n, ne, nf, d⟩ := I.pin p hp
      refine ⟨(hs.2 p.1 ?_).trans e, n, ne, nf, d⟩
      intro q
      rw [q, hoc] at e
      have q' : oc = p.2 := Option.some.inj e
      exact d w' (by rw [← q']; exact hocd)
theorem store_ok {M : Model} {A : Around} {E : Value → Shared → Prop} {i : Nat} {x : Str} {v : V} {u : Value} {Q : Unit → Shared → Prop} (I : Inv X pins σ H s) (hN : X.N.Nodup) (hi : X.N[i]? = some x) (hx : Loc X.env.scope x) (r : RelV v u)
    (h : ∀ s', Inv X pins (σ.set i (some v)) H s' → Q () s') (hf : X.fn x = true ∨ X.env.scope.names.lookup x = some .local := by first | exact .inl rfl | exact .inr rfl | assumption) : wpAny M A (storeName X.env x u) Q E s :=
  store_ok2 I hN hi hx r (fun s' I' _ => h s' I') hf
theorem Inv.call' {s' : Shared} {ch : List Addr} (I : Inv X pins σ H s) (ho : s'.os = s.os) (u : Un (frs X.stack) ch H H' s.heap s'.heap) (hok : HOk X.prog X.w H' s'.heap) (hg : AllBare s'.gens)
    (hch : ∀ b ∈ ch, (b ∈ X.ex ∨ X.s₀.heap.objs.size ≤ b) ∧ b ≠ X.env.locals ∧ (∀ x c, X.env.cells.lookup x = some c → c ≠ b) ∧ ∀ p ∈ X.pn ++ pins, p.1 ≠ b) : Inv X pins σ H' s' := by
  obtain ⟨h', g', d', t', o'⟩ := s'
  have e : o' = s.os := ho
  subst e
  exact I.call (g' := g') (t' := t') (d' := d') u hok hg hch
end
abbrev XK := Value → Option Addr → Hp → Prop
abbrev St := List (Option V)
abbrev VK := V → Hp → Prop
abbrev TE := St → Hp → VK → Prop
abbrev TT := St → Hp → (Bool → Hp → Prop) → Prop
abbrev TA := St → Hp → (List V → Hp → Prop) → Prop
structure Ends where
  nx : St → Hp → Prop
  rt : VK
  bk : St → Hp → Prop := fun _ _ => False
  ct : St → Hp → Prop := fun _ _ => False
abbrev TS := Ends → St → Hp → Prop
def EP (X : Cx) (pins : List (Addr × Obj)) (σ : St) (Q : VK) (u : Value) (s' : Shared) : Prop := ∃ v H', Inv X pins σ H' s' ∧ RelV v u ∧ Q v H'
def TP (X : Cx) (pins : List (Addr × Obj)) (σ : St) (Q : Bool → Hp → Prop) (b : Bool) (s' : Shared) : Prop := ∃ H', Inv X pins σ H' s' ∧ Q b H'
def AP (X : Cx) (pins : List (Addr × Obj)) (σ : St) (Q : List V → Hp → Prop) (us : List Value) (s' : Shared) : Prop := ∃ vs H', Inv X pins σ H' s' ∧ Vals vs us ∧ Q vs H'
def SP (X : Cx) (pins : List (Addr × Obj)) (D : Ends) (f : Flow) (s' : Shared) : Prop :=
  match f with
  | .next => ∃ σ' H', Inv X pins σ' H' s' ∧ D.nx σ' H'
  | .brk => ∃ σ' H', Inv X pins σ' H' s' ∧ D.bk σ' H'
  | .cont => ∃ σ' H', Inv X pins σ' H' s' ∧ D.ct σ' H'
  | .ret u => ∃ v σ' H', Inv X pins σ' H' s' ∧ RelV v u ∧ D.rt v H'
def PE (X : Cx) (e : Expr) (t : TE) : Prop :=
  ∀ (pins : List (Addr × Obj)) (s : Shared) (σ : St) (H : Hp) (Q : VK), Inv X pins σ H s → t σ H Q → wpAny (model X.prog X.w) X.A (eval e X.env) (EP X pins σ Q) X.xe s
def PT (X : Cx) (e : Expr) (t : TT) : Prop :=
  ∀ (pins : List (Addr × Obj)) (s : Shared) (σ : St) (H : Hp) (Q : Bool → Hp → Prop), Inv X pins σ H s → t σ H Q → wpAny (model X.prog X.w) X.A (isTrue e X.env (eval e X.env)) (TP X pins σ Q) X.xe s
def PW (X : Cx) (e : Expr) (t : TT) : Prop :=
  ∀ (whole : Sem Value) (pins : List (Addr × Obj)) (s : Shared) (σ : St) (H : Hp) (Q : Bool → Hp → Prop), Inv X pins σ H s → t σ H Q → wpAny (model X.prog X.w) X.A (isTrue e X.env whole) (TP X pins σ Q) X.xe s
theorem PW.pt {X : Cx} {e : Expr} {t : TT} (h : PW X e t) : PT X e t := h _
def PA (X : Cx) (es : List Expr) (t : TA) : Prop :=
  ∀ (pos : Pos) (pins : List (Addr × Obj)) (s : Shared) (σ : St) (H : Hp) (Q : List V → Hp → Prop), Inv X pins σ H s → t σ H Q → wpAny (model X.prog X.w) X.A (spliced (backTo pos (starEach es X.env))) (AP X pins σ Q) X.xe s
def PS (X : Cx) (st : Stmt) (t : TS) : Prop :=
  ∀ (pins : List (Addr × Obj)) (s : Shared) (σ : St) (H : Hp) (D : Ends), Inv X pins σ H s → t D σ H → wpAny (model X.prog X.w) X.A (exec st X.env) (SP X pins D) X.xe s
def PSs (X : Cx) (st : List Stmt) (t : TS) : Prop :=
  ∀ (pins : List (Addr × Obj)) (s : Shared) (σ : St) (H : Hp) (D : Ends), Inv X pins σ H s → t D σ H → wpAny (model X.prog X.w) X.A (execs st X.env) (SP X pins D) X.xe s
theorem thn {α : Type} {t : Sem α} {Q Q' : α → Shared → Prop} {M : Model} {A : Around} {E : Value → Shared → Prop} {s : Shared} (h : wpAny M A t Q E s) (hQ : ∀ a s, Q a s → Q' a s) : wpAny M A t Q' E s := wpAny_mono h hQ fun _ _ x => x
section
variable {X : Cx}
def tVar (i : Nat) : TE := fun σ H Q => ∃ v, σ[i]? = some (some v) ∧ Q v H
def tC (v : V) : TE := fun _ H Q => Q v H
theorem pe_var {i : Nat} {x : Str} {pos : Pos} (hN : X.N[i]? = some x) (hv : Vis X.env.scope x) (hd : (x == ("__debug__" : Str)) = false := by decide) (hcd : (x == ("__classdict__" : Str)) = false := by decide) : PE X (.Name x pos) (tVar i) := by
  intro pins s σ H Q I h
  obtain ⟨v, e, h⟩ := h
  obtain ⟨m, hn, hl⟩ := I.loc
  obtain ⟨u, r, l⟩ := hl i x v hN e hv
  have fin : EP X pins σ Q u s := ⟨v, H, I, r, h⟩
  rcases l with ⟨hk, hm⟩ | ⟨hk, c, hc, hcell⟩
  · exact wpAny_Name (wpAny_loadName_local I.ok.kind hk hn hm fin) hd
  · rcases hk with hk | hk
    · exact wpAny_Name (wpAny_loadName_cell I.ok.kind hk hc hcell fin) hd
    · exact wpAny_Name (wpAny_loadName_free I.ok.kind hk hc hcell fin hcd) hd
theorem pe_int {i j pos} : PE X (.Constant (.int i) j pos) (tC (.int i)) := fun _ _ _ H _ I h => wpAny_Constant_int ⟨.int i, H, I.tok _, ⟨_, rfl⟩, h⟩
theorem pe_bl {b j pos} : PE X (.Constant (.bool b) j pos) (tC (.bl b)) := fun _ _ _ H _ I h => Constant_bool ⟨.bl b, H, I, rfl, h⟩
theorem pe_non {j pos} : PE X (.Constant .none j pos) (tC .non) := fun _ _ _ H _ I h => Constant_none ⟨.non, H, I, rfl, h⟩
theorem pe_str {x j pos} : PE X (.Constant (.str x) j pos) (tC (.str x)) := fun _ _ _ H _ I h => Calls.Constant_str ⟨.str x, H, I.tok _, ⟨_, rfl⟩, h⟩
def Gl (X : Cx) (x : Str) : Prop := X.env.kindOf x = some .globalImplicit
theorem ld_glob {E : Value → Shared → Prop} {pins : List (Addr × Obj)} {s : Shared} {σ : St} {H : Hp} {x : Str} {u : Value} {pos : Pos} {Q : Value → Shared → Prop} (I : Inv X pins σ H s) (hg : Gl X x) (hm : X.mg x = some u) (h : Q u s)
    (hd : (x == ("__debug__" : Str)) = false := by decide) : wpAny (model X.prog X.w) X.A (eval (.Name x pos) X.env) Q E s :=
  Calls.Name_function_global I.ok.kind hg (Calls.loadGlobal_global (by rw [I.ok.glob]; exact I.mod.glob.keeps I.bk) hm h) hd
theorem ld_blt {E : Value → Shared → Prop} {pins : List (Addr × Obj)} {s : Shared} {σ : St} {H : Hp} {x : Str} {u : Value} {pos : Pos} {Q : Value → Shared → Prop} (I : Inv X pins σ H s) (hg : Gl X x) (hm : X.mg x = none) (hv : bootBuiltins x = some u) (h : Q u s)
    (hn : x ≠ "__name__" := by decide) (hd : (x == ("__debug__" : Str)) = false := by decide) : wpAny (model X.prog X.w) X.A (eval (.Name x pos) X.env) Q E s := by
  obtain ⟨mb, h1, h2⟩ := I.mod.blt
  exact Calls.Name_function_global I.ok.kind hg (Calls.loadGlobal_builtin (by rw [I.ok.glob]; exact I.mod.glob.keeps I.bk) hm (by rw [I.ok.blt]; exact h1.keeps I.bk) ((h2 x hn).trans hv) h) hd
variable {a b : Expr} {ta tb : TE} {pos : Pos}
def tB (t : TE) : TT := fun σ H Q => t σ H fun x H1 => ∃ c, x = .bl c ∧ Q c H1
theorem pt_val {e : Expr} {t : TE} (h : PE X e t) (he : ∀ whole, isTrue e X.env whole = (do let v ← whole; standAt e.pos; holding [v] (truthy v)) := by intro _; rfl) : PT X e (tB t) := by
  intro pins s σ H Q I hw
  refine isTrue_plain (thn (h pins s σ H _ I hw) fun v s1 ⟨x, H1, I1, r1, q1⟩ => ?_) (he _)
  obtain ⟨d, rfl, q⟩ := q1
  cases r1
  exact wpAny_truthy_bool ⟨H1, I1, q⟩
variable {tA tB' : TT} {rest : List Expr}
def tAnd (t u : TT) : TT := fun σ H Q => t σ H fun c H1 => if c = true then u σ H1 Q else Q false H1
def tOr (t u : TT) : TT := fun σ H Q => t σ H fun c H1 => if c = true then Q true H1 else u σ H1 Q
def tNot (t : TT) : TT := fun σ H Q => t σ H fun c H1 => Q (!c) H1
theorem pw_and1 (ha : PT X a tA) : PW X (.BoolOp .And [a] pos) tA := by
  intro wh pins s σ H Q I h
  refine isTrue_and (thn (ha pins s σ H Q I h) fun c s1 e => ?_)
  cases c with
  | true => exact isTrue_and_nil e
  | false => exact e
theorem pw_or1 (ha : PT X a tA) : PW X (.BoolOp .Or [a] pos) tA := by
  intro wh pins s σ H Q I h
  refine isTrue_or (thn (ha pins s σ H Q I h) fun c s1 e => ?_)
  cases c with
  | false => exact isTrue_or_nil e
  | true => exact e
theorem pw_and (ha : PT X a tA) (hb : PW X (.BoolOp .And (b :: rest) pos) tB') : PW X (.BoolOp .And (a :: b :: rest) pos) (tAnd tA tB') := by
  intro wh pins s σ H Q I h
  refine isTrue_and (thn (ha pins s σ H _ I h) fun c s1 ⟨H1, I1, q1⟩ => ?_)
  cases c with
  | true => exact hb wh pins s1 σ H1 Q I1 q1
  | false => exact ⟨H1, I1, q1⟩
theorem pw_or (ha : PT X a tA) (hb : PW X (.BoolOp .Or (b :: rest) pos) tB') : PW X (.BoolOp .Or (a :: b :: rest) pos) (tOr tA tB') := by
  intro wh pins s σ H Q I h
  refine isTrue_or (thn (ha pins s σ H _ I h) fun c s1 ⟨H1, I1, q1⟩ => ?_)
  cases c with
  | true => exact ⟨H1, I1, q1⟩
  | false => exact hb wh pins s1 σ H1 Q I1 q1
theorem pt_not (ha : PT X a tA) : PT X (.UnaryOp .Not a pos) (tNot tA) := by
  intro pins s σ H Q I h
  exact isTrue_not (ha pins s σ H (fun c H1 => Q (!c) H1) I h)
def tAndV (ta tb : TE) : TE := fun σ H Q => ta σ H fun x H1 => ∃ c, x = .bl c ∧ if c = true then tb σ H1 Q else Q (.bl false) H1
theorem pe_one {op} {t : TE} (h : PE X a t) : PE X (.BoolOp op [a] pos) t := fun pins s σ H Q I hw => BoolOp_one (h pins s σ H Q I hw)
theorem pe_and (ha : PE X a ta) (hb : PE X (.BoolOp .And (b :: rest) pos) tb) : PE X (.BoolOp .And (a :: b :: rest) pos) (tAndV ta tb) := by
  intro pins s σ H Q I h
  refine BoolOp_and (thn (ha pins s σ H _ I h) fun v s1 ⟨x, H1, I1, r1, q1⟩ => ?_)
  obtain ⟨c, rfl, q1⟩ := q1
  cases r1
  refine wpAny_truthy_bool ?_
  cases c with
  | true => exact hb pins s1 σ H1 Q I1 q1
  | false => exact ⟨.bl false, H1, I1, rfl, q1⟩
def tIf (t : TT) (ta tb : TE) : TE := fun σ H Q => t σ H fun c H1 => if c = true then ta σ H1 Q else tb σ H1 Q
theorem pe_ifExp {c : Expr} (hc : PT X c tA) (ha : PE X a ta) (hb : PE X b tb) : PE X (.IfExp c a b pos) (tIf tA ta tb) := by
  intro pins s σ H Q I h
  refine wpAny_IfExp (thn (hc pins s σ H _ I h) fun d s1 ⟨H1, I1, q1⟩ => ?_)
  cases d with
  | true => exact ha pins s1 σ H1 Q I1 q1
  | false => exact hb pins s1 σ H1 Q I1 q1
end
def SqL (K : PySem.W.Frag) (H : Hp) (a : Addr) (xs : List V) : Prop :=
  Rd H a (.lst xs) ∨
    ∃ (o : Obj) (its : Array Value) (n : Nat), K.lookup a = some o ∧ o.cls = .type "list" ∧ o.dict = none ∧ o.data = .seq its n ∧ its.size ≤ sizeLine ∧ Vals xs its.toList
def SqT (K : PySem.W.Frag) (H : Hp) (a : Addr) (xs : List V) : Prop :=
  Rd H a (.tup xs) ∨
    ∃ (o : Obj) (its : Array Value) (n : Nat), K.lookup a = some o ∧ o.cls = .type "tuple" ∧ o.data = .seq its n ∧ its.size ≤ sizeLine ∧ Vals xs its.toList
def absV : Value → Option V
  | .none => some .non
  | .bool b => some (.bl b)
  | .int i _ => some (.int i)
  | .str x _ => some (.str x)
  | .bytes b _ => some (.byt b)
  | .float b _ => some (.flt b)
  | .ref a => some (.ref a)
  | .type n => some (.ty n)
  | _ => none
theorem RelV.abs {x : V} {u : Value} (r : RelV x u) : absV u = some x := by
  cases x with
  | non => cases r; rfl
  | bl _ => cases r; rfl
  | int _ => obtain ⟨t, rfl⟩ := r; rfl
  | str _ => obtain ⟨t, rfl⟩ := r; rfl
  | byt _ => obtain ⟨t, rfl⟩ := r; rfl
  | flt _ => obtain ⟨t, rfl⟩ := r; rfl
  | ref _ => cases r; rfl
  | ty _ => cases r; rfl
theorem RelV.inj {x y : V} {u : Value} (r : RelV x u) (q : RelV y u) : x = y := Option.some.inj (r.abs.symm.trans q.abs)
theorem Vals.inj : ∀ {xs ys : List V} {us : List Value}, Vals xs us → Vals ys us → xs = ys
  | _, _, _, .nil, .nil => rfl
  | _, _, _, .cons r t, .cons r' t' => by rw [r.inj r', Vals.inj t t']
section
variable {X : Cx} {pins : List (Addr × Obj)} {σ : St} {H : Hp} {s : Shared} {a : Addr} {xs ys : List V}
theorem SqL.of {K : PySem.W.Frag} (h : H a = some (.lst xs)) : SqL K H a xs := .inl (.inl h)
theorem SqT.of {K : PySem.W.Frag} (h : H a = some (.tup xs)) : SqT K H a xs := .inl (.inl h)
theorem Inv.list (I : Inv X pins σ H s) (h : SqL X.K H a xs) : ∃ its : List Value, Vals xs its ∧ PlainL s.heap a its.toArray ∧ xs.length ≤ sizeLine := by
  rcases h with h | ⟨o, its, n, hk, hc, hd, hs, hz, r⟩
  · obtain ⟨z, its, n, r, e⟩ := h.ok I.hok
    exact ⟨its, r, ⟨_, n, e, rfl, rfl, rfl⟩, z⟩
  · refine ⟨its.toList, r, ⟨o, n, I.kIn a o hk, hc, hd, by simpa using hs⟩, ?_⟩
    have e := r.length
    simp only [Array.length_toList] at e
    (first | lia | omega)
theorem Inv.tuple (I : Inv X pins σ H s) (h : SqT X.K H a xs) : ∃ its : List Value, Vals xs its ∧ IsTup s.heap a its.toArray ∧ xs.length ≤ sizeLine := by
  rcases h with h | ⟨o, its, n, hk, hc, hs, hz, r⟩
  · obtain ⟨z, its, r, p⟩ := h.ok I.hok
    exact ⟨its, r, p, z⟩
  · refine ⟨its.toList, r, ⟨o, I.kIn a o hk, hc, n, by simpa using hs⟩, ?_⟩
    have e := r.length
    simp only [Array.length_toList] at e
    (first | lia | omega)
theorem Inv.list_inj (I : Inv X pins σ H s) (h : SqL X.K H a xs) (h' : SqL X.K H a ys) : xs = ys := by
  obtain ⟨its, r, ⟨o, n, e, _, _, d⟩, _⟩ := I.list h
  obtain ⟨its', r', ⟨o', n', e', _, _, d'⟩, _⟩ := I.list h'
  rw [e] at e'; cases e'
  rw [d] at d'
  injection d' with d1 _
  have : its = its' := by simpa using congrArg Array.toList d1
  subst this
  exact r.inj r'
theorem Inv.tuple_inj (I : Inv X pins σ H s) (h : SqT X.K H a xs) (h' : SqT X.K H a ys) : xs = ys := by
  obtain ⟨its, r, ⟨o, e, _, n, d⟩, _⟩ := I.tuple h
  obtain ⟨its', r', ⟨o', e', _, n', d'⟩, _⟩ := I.tuple h'
  rw [e] at e'; cases e'
  rw [d] at d'
  injection d' with d1 _
  have : its = its' := by simpa using congrArg Array.toList d1
  subst this
  exact r.inj r'
end
abbrev Cx.wish (X : Cx) (E : Value → Shared → Prop) : Cx := { X with xe := E }
abbrev Cx.nox (X : Cx) : Cx := X.wish fun _ _ => False
theorem Cx.Ok.wish {X : Cx} (ok : X.Ok) (E : Value → Shared → Prop) : (X.wish E).Ok :=
  ⟨ok.mod, ok.kind, ok.glob, ok.blt, ok.above, ok.inj, ok.has, ok.cab, ok.hd, ok.frames, ok.stk, ok.exf, ok.bs, ok.bsz, ok.noex, ok.exfs, ok.funs, ok.frf⟩
theorem Cx.Ok.unwish {X : Cx} {E : Value → Shared → Prop} (ok : (X.wish E).Ok) : X.Ok :=
  ⟨ok.mod, ok.kind, ok.glob, ok.blt, ok.above, ok.inj, ok.has, ok.cab, ok.hd, ok.frames, ok.stk, ok.exf, ok.bs, ok.bsz, ok.noex, ok.exfs, ok.funs, ok.frf⟩
section
variable {X : Cx} {pins : List (Addr × Obj)} {σ : St} {H : Hp} {s : Shared} {E : Value → Shared → Prop}
theorem Inv.wish (I : Inv X pins σ H s) (E : Value → Shared → Prop) : Inv (X.wish E) pins σ H s := ⟨I.ok.wish E, I.os, I.bare, I.base, I.loc, I.cell, I.free, I.freeC, I.pin, I.hok, I.len⟩
theorem Inv.unwish (I : Inv (X.wish E) pins σ H s) : Inv X pins σ H s := ⟨I.ok.unwish, I.os, I.bare, I.base, I.loc, I.cell, I.free, I.freeC, I.pin, I.hok, I.len⟩
theorem SP.unwish {D : Ends} {f : Flow} {s' : Shared} (h : SP (X.wish E) pins D f s') : SP X pins D f s' := by
  cases f with
  | next => obtain ⟨σ', H', I, q⟩ := h; exact ⟨σ', H', I.unwish, q⟩
  | brk => obtain ⟨σ', H', I, q⟩ := h; exact ⟨σ', H', I.unwish, q⟩
  | cont => obtain ⟨σ', H', I, q⟩ := h; exact ⟨σ', H', I.unwish, q⟩
  | ret u => obtain ⟨v, σ', H', I, r, q⟩ := h; exact ⟨v, σ', H', I.unwish, r, q⟩
theorem PSs.nox {st : List Stmt} {t : TS} (h : PSs X.nox st t) : PSs X st t := fun pins s σ H D I hw =>
  wpAny_mono (h pins s σ H D (I.wish _) hw) (fun _ _ q => q.unwish) fun _ _ z => False.elim z
end
section
variable {X : Cx} {st : Stmt} {rest : List Stmt} {t u : TS} {e : Expr} {te : TE} {pos : Pos}
def tNext : TS := fun D σ H => D.nx σ H
def Ends.on (D : Ends) (u : TS) : Ends := { D with nx := u D }
def tSeq (t u : TS) : TS := fun D σ H => t (D.on u) σ H
theorem pss_nil : PSs X [] tNext := fun _ _ σ H _ I h => wpAny_execs_nil ⟨σ, H, I, h⟩
theorem pss_cons (h1 : PS X st t) (h2 : PSs X rest u) : PSs X (st :: rest) (tSeq t u) := by
  intro pins s σ H D I h
  refine wpAny_execs_cons (thn (h1 pins s σ H { D with nx := u D } I h) fun f s1 q => ?_)
  cases f with
  | next =>
    obtain ⟨σ', H', I', q⟩ := q
    exact h2 pins s1 σ' H' D I' q
  | ret v => exact q
  | brk => exact q
  | cont => exact q
theorem pss_one (h1 : PS X st t) : PSs X [st] t := by
  intro pins s σ H D I h
  refine wpAny_execs_cons (thn (h1 pins s σ H D I h) fun f s1 q => ?_)
  cases f with
  | next => exact wpAny_execs_nil q
  | ret v => exact q
  | brk => exact q
  | cont => exact q
theorem Inv.quiet {pins : List (Addr × Obj)} {σ : St} {H : Hp} {s : Shared} (I : Inv X pins σ H s) : interactive X.env = false := by simp [interactive, I.ok.kind]
def tDrop (te : TE) : TS := fun D σ H => te σ H fun _ H1 => D.nx σ H1
theorem ps_expr (he : PE X e te) (hs : swapsWith e none pos.line X.env = pure false := by rfl) : PS X (.Expr e pos) (tDrop te) := by
  intro pins s σ H D I h
  exact wpAny_Expr_any (thn (he pins s σ H _ I h) fun v s1 ⟨x, H1, I1, r1, q1⟩ => ⟨σ, H1, I1, q1⟩) I.quiet hs
def tRet (te : TE) : TS := fun D σ H => te σ H D.rt
theorem ps_ret (he : PE X e te) : PS X (.Return (some e) pos) (tRet te) := by
  intro pins s σ H D I h
  exact wpAny_Return_some (thn (he pins s σ H _ I h) fun v s1 ⟨x, H1, I1, r1, q1⟩ => ⟨x, σ, H1, I1, r1, q1⟩)
def tIfS (c : TT) (t u : TS) : TS := fun D σ H => c σ H fun b H1 => if b = true then t D σ H1 else u D σ H1
theorem ps_if {c : Expr} {a b : List Stmt} {tc : TT} (hc : PT X c tc) (ha : PSs X a t) (hb : PSs X b u) : PS X (.If c a b pos) (tIfS tc t u) := by
  intro pins s σ H D I h
  refine wpAny_If (thn (hc pins s σ H _ I h) fun d s1 ⟨H1, I1, q1⟩ => ?_)
  cases d with
  | true => exact ha pins s1 σ H1 D I1 q1
  | false => exact hb pins s1 σ H1 D I1 q1
end
abbrev TG := V → St → Hp → (St → Hp → Prop) → Prop
abbrev TGs := List V → St → Hp → (St → Hp → Prop) → Prop
def PG (X : Cx) (target : Expr) (t : TG) : Prop :=
  ∀ (pins : List (Addr × Obj)) (s : Shared) (σ : St) (H : Hp) (v : V) (u : Value) (Q : St → Hp → Prop), Inv X pins σ H s → RelV v u → t v σ H Q →
    wpAny (model X.prog X.w) X.A (assign target X.env u) (fun _ s' => ∃ σ' H', Inv X pins σ' H' s' ∧ Q σ' H') X.xe s
def PGs (X : Cx) (ts : List Expr) (t : TGs) : Prop :=
  ∀ (pins : List (Addr × Obj)) (s : Shared) (σ : St) (H : Hp) (vs : List V) (us : List Value) (Q : St → Hp → Prop), Inv X pins σ H s → Vals vs us → t vs σ H Q →
    wpAny (model X.prog X.w) X.A (assignInOrder ((assignEach ts X.env).map (·.2)) us) (fun _ s' => ∃ σ' H', Inv X pins σ' H' s' ∧ Q σ' H') X.xe s
abbrev TSet := V → V → V → Hp → (Hp → Prop) → Prop
def PSet (X : Cx) (t : TSet) : Prop :=
  ∀ (pins : List (Addr × Obj)) (s : Shared) (σ : St) (H : Hp) (o i v : V) (ov iv u : Value) (Q : Hp → Prop), Inv X pins σ H s → RelV o ov → RelV i iv → RelV v u → t o i v H Q →
    wpAny (model X.prog X.w) X.A (setItem ov iv u) (fun _ s' => ∃ H', Inv X pins σ H' s' ∧ Q H') X.xe s
abbrev TIp := V → V → Hp → VK → Prop
def PIp (X : Cx) (op : Operator) (t : TIp) : Prop :=
  ∀ (pins : List (Addr × Obj)) (s : Shared) (σ : St) (H : Hp) (x y : V) (v u : Value) (Q : VK), Inv X pins σ H s → RelV x v → RelV y u → t x y H Q →
    wpAny (model X.prog X.w) X.A (inplaceOp op v u) (EP X pins σ Q) X.xe s
section
variable {X : Cx} {pos : Pos}
def gName (i : Nat) : TG := fun v σ H Q => Q (σ.set i (some v)) H
theorem pg_name {i : Nat} {x : Str} (hN : X.N.Nodup) (hi : X.N[i]? = some x) (hx : Loc X.env.scope x) (hf : X.fn x = true ∨ X.env.scope.names.lookup x = some .local := by first | exact .inl rfl | exact .inr rfl | assumption) : PG X (.Name x pos) (gName i) := by
  intro pins s σ H v u Q I r h
  exact wpAny_assign_Name (store_ok I hN hi hx r (fun s' I' => ⟨_, H, I', h⟩) hf)
def gNil : TGs := fun vs σ H Q => vs = [] ∧ Q σ H
def gCons (t : TG) (u : TGs) : TGs := fun vs σ H Q => ∃ v r, vs = v :: r ∧ t v σ H fun σ' H' => u r σ' H' Q
theorem pgs_nil : PGs X [] gNil := by
  intro pins s σ H vs us Q I r h
  obtain ⟨e, h⟩ := h
  subst e
  cases r
  exact assignInOrder_nil ⟨σ, H, I, h⟩
theorem pgs_cons {e : Expr} {es : List Expr} {t : TG} {u : TGs} (h1 : PG X e t) (h2 : PGs X es u)
    (hs : (assignEach (e :: es) X.env).map (·.2) = assign e X.env :: (assignEach es X.env).map (·.2) := by rfl) : PGs X (e :: es) (gCons t u) := by
  intro pins s σ H vs us Q I r h
  obtain ⟨v, vr, e1, h⟩ := h
  subst e1
  cases r with
  | cons r rr =>
    rw [hs]
    refine assignInOrder_cons (thn (h1 pins s σ H _ _ _ I r h) fun _ s1 ⟨σ1, H1, I1, q1⟩ => ?_)
    exact h2 pins s1 σ1 H1 _ _ Q I1 rr q1
def gTup (K : PySem.W.Frag) (n : Nat) (t : TGs) : TG := fun v σ H Q => ∃ a xs, v = .ref a ∧ SqT K H a xs ∧ xs.length = n ∧ t xs σ H Q
theorem pg_tup {es : List Expr} {k : Nat} {t : TGs} {n : Nat} (hc : X.calm = true) (h : PGs X es t)
    (hn : (assignEach es X.env).length = n := by rfl) (hst : (assignEach es X.env).findIdx? (·.1) = none := by rfl) : PG X (.Tuple es k pos) (gTup X.K n t) := by
  intro pins s σ H v u Q I r hw
  obtain ⟨a, xs, e1, hq, hl, hw⟩ := hw
  subst e1
  cases r
  obtain ⟨its, rv, ht, hz⟩ := I.tuple hq
  refine assign_Tuple_tuple (I.ok.hd hc) ht (by simp [hn, ← hl, rv.length]) hst fun h' hx => ?_
  have I1 : Inv X pins σ H { s with heap := h' } := I.kept (t' := s.toks) fun b o e => hx b o (Nat.ne_of_lt (Heap.lt_size e)) e
  exact h pins _ σ H xs _ Q I1 (by simpa using rv) hw
def gSub (to ti : TE) (t : TSet) : TG := fun v σ H Q => to σ H fun o H1 => ti σ H1 fun i H2 => t o i v H2 fun H3 => Q σ H3
theorem pg_sub {o i : Expr} {to ti : TE} {t : TSet} (ho : PE X o to) (hi : PE X i ti) (hs : PSet X t)
    (ha : ∀ v, assign (.Subscript o i pos) X.env v = (do
      let ov ← holding [v] (eval o X.env)
      let iv ← holding [v, ov] (eval i X.env)
      standAt pos
      holding [v, ov, iv] (setItem ov iv v)
      release [v, ov, iv] []) := by intro _; rfl) : PG X (.Subscript o i pos) (gSub to ti t) := by
  intro pins s σ H v u Q I r h
  rw [ha]
  refine wpAny_bind (wpAny_holding (thn (ho pins s σ H _ I h) fun ov s1 ⟨x, H1, I1, r1, q1⟩ => ?_))
  refine wpAny_bind (wpAny_holding (thn (hi pins s1 σ H1 _ I1 q1) fun iv s2 ⟨y, H2, I2, r2, q2⟩ => ?_))
  refine wpAny_bind (wpAny_standAt (wpAny_bind (wpAny_holding (thn (hs pins s2 σ H2 x y v ov iv u _ I2 r1 r2 r q2) fun _ s3 ⟨H3, I3, q3⟩ => ?_))))
  exact wpAny_release ⟨σ, H3, I3, q3⟩
def tAsg (te : TE) (g : TG) : TS := fun D σ H => te σ H fun x H1 => g x σ H1 D.nx
theorem ps_asg {tg e : Expr} {te : TE} {g : TG} (he : PE X e te) (hg : PG X tg g) (hs : swapsWithSole [tg] e pos.line X.env = pure false := by rfl) (hw : swappedStores [tg] e X.env = pure none := by rfl)
    (h1 : (assignEach [tg] X.env).map (·.2) = [assign tg X.env] := by rfl) : PS X (.Assign [tg] e pos) (tAsg te g) := by
  intro pins s σ H D I h
  refine wpAny_Assign_stores (thn (he pins s σ H _ I h) fun v s1 ⟨x, H1, I1, r1, q1⟩ => ?_) hs hw
  rw [h1]
  exact thn (hg pins s1 σ H1 x v _ I1 r1 q1) fun _ s2 q => q
theorem ps_set {i : Nat} {x : Str} {e : Expr} {te : TE} {pos' : Pos} (hN : X.N.Nodup) (hi : X.N[i]? = some x) (hx : Loc X.env.scope x) (he : PE X e te) (hs : swapsWith e (some (.Name x pos')) pos.line X.env = pure false := by rfl) (hf : X.fn x = true ∨ X.env.scope.names.lookup x = some .local := by first | exact .inl rfl | exact .inr rfl | assumption) :
    PS X (.Assign [.Name x pos'] e pos) (tAsg te (gName i)) := by
  intro pins s σ H D I h
  refine wpAny_Assign_Name (thn (he pins s σ H _ I h) fun v s1 ⟨y, H1, I1, r1, q1⟩ => ?_) hs
  exact store_ok I1 hN hi hx r1 (fun s2 I2 => ⟨_, H1, I2, q1⟩) hf
def tAug (i : Nat) (te : TE) (ti : TIp) : TS := fun D σ H => ∃ x, σ[i]? = some (some x) ∧ te σ H fun y H1 => ti x y H1 fun z H2 => D.nx (σ.set i (some z)) H2
theorem ps_aug {i : Nat} {x : Str} {e : Expr} {te : TE} {op : Operator} {ti : TIp} {pos' : Pos} (hN : X.N.Nodup) (hi : X.N[i]? = some x) (hx : Loc X.env.scope x) (he : PE X e te) (ho : PIp X op ti) (hf : X.fn x = true ∨ X.env.scope.names.lookup x = some .local := by first | exact .inl rfl | exact .inr rfl | assumption) :
    PS X (.AugAssign (.Name x pos') op e pos) (tAug i te ti) := by
  intro pins s σ H D I h
  obtain ⟨v, e1, h⟩ := h
  obtain ⟨m, hn, hl⟩ := I.loc
  have vis : Vis X.env.scope x := by rcases hx with k | k; exact .inl k; exact .inr (.inl k)
  obtain ⟨u, r, l⟩ := hl i x v hi e1 vis
  refine wpAny_AugAssign_Name ?_
  have go : wpAny (model X.prog X.w) X.A (eval e X.env) (fun w s₂ => wpAny (model X.prog X.w) X.A (inplaceOp op u w) (fun r s₃ => wpAny (model X.prog X.w) X.A (storeName X.env x r) (fun _ => SP X pins D .next) X.xe s₃) X.xe s₂) X.xe s := by
    refine thn (he pins s σ H _ I h) fun w s1 ⟨y, H1, I1, r1, q1⟩ => ?_
    refine thn (ho pins s1 σ H1 v y u w _ I1 r r1 q1) fun z s2 ⟨zv, H2, I2, r2, q2⟩ => ?_
    exact store_ok I2 hN hi hx r2 (fun s3 I3 => ⟨_, H2, I3, q2⟩) hf
  rcases l with ⟨hk, hm⟩ | ⟨hk, c, hc, hcell⟩
  · exact wpAny_loadName_local I.ok.kind hk hn hm go
  · rcases hk with hk | hk
    · exact wpAny_loadName_cell I.ok.kind hk hc hcell go
    · rcases hx with k | k
      · have : X.env.scope.names.lookup x = some .free := hk
        rw [k] at this; cases this
      · have : X.env.scope.names.lookup x = some .free := hk
        rw [k] at this; cases this
def tAugS (to ti te : TE) (tget : V → V → Hp → VK → Prop) (tip : TIp) (tset : TSet) : TS := fun D σ H => to σ H fun o H1 => ti σ H1 fun i H2 => tget o i H2 fun x H3 => te σ H3 fun y H4 => tip x y H4 fun z H5 => tset o i z H5 fun H6 => D.nx σ H6
def PGet (X : Cx) (t : V → V → Hp → VK → Prop) : Prop :=
  ∀ (pins : List (Addr × Obj)) (s : Shared) (σ : St) (H : Hp) (o i : V) (ov iv : Value) (Q : VK), Inv X pins σ H s → RelV o ov → RelV i iv → t o i H Q →
    wpAny (model X.prog X.w) X.A (getItem ov iv) (EP X pins σ Q) X.xe s
theorem ps_augS {o i e : Expr} {to ti te : TE} {tget : V → V → Hp → VK → Prop} {tip : TIp} {tset : TSet} {op : Operator} {tpos : Pos} (ho : PE X o to) (hi : PE X i ti) (hg : PGet X tget) (he : PE X e te) (hp : PIp X op tip) (hs : PSet X tset)
    (ha : ∀ ov iv new, augStore i ov iv new = (do holding [new, ov, iv] (setItem ov iv new); release [new, ov, iv] []; pure .next) := by intros; rfl) : PS X (.AugAssign (.Subscript o i tpos) op e pos) (tAugS to ti te tget tip tset) := by
  intro pins s σ H D I h
  refine wpAny_AugAssign_SubscriptAny (thn (ho pins s σ H _ I h) fun ov s1 ⟨x1, H1, I1, r1, q1⟩ => ?_) ha
  refine thn (hi pins s1 σ H1 _ I1 q1) fun iv s2 ⟨x2, H2, I2, r2, q2⟩ => ?_
  refine thn (hg pins s2 σ H2 x1 x2 ov iv _ I2 r1 r2 q2) fun old s3 ⟨x3, H3, I3, r3, q3⟩ => ?_
  refine thn (he pins s3 σ H3 _ I3 q3) fun v s4 ⟨x4, H4, I4, r4, q4⟩ => ?_
  refine thn (hp pins s4 σ H4 x3 x4 old v _ I4 r3 r4 q4) fun new s5 ⟨x5, H5, I5, r5, q5⟩ => ?_
  exact thn (hs pins s5 σ H5 x1 x2 x5 ov iv new _ I5 r1 r2 r5 q5) fun _ s6 ⟨H6, I6, q6⟩ => ⟨σ, H6, I6, q6⟩
def tWhile (c : TT) (tb : TS) : TS := fun D σ H => ∃ W : Nat → St → Hp → Prop, (∃ m, W m σ H) ∧ ∀ m σ H, W m σ H →
  c σ H fun b H1 => if b = true then ∃ N : St → Hp → Prop, (∀ σ' H', N σ' H' → ∃ m', m' < m ∧ W m' σ' H') ∧ tb { D with nx := N, ct := N, bk := D.nx } σ H1 else D.nx σ H1
theorem ps_while {c : Expr} {body : List Stmt} {tc : TT} {tb : TS} (hp : PassesOwn (model X.prog X.w) X.A X.env X.xe) (hc : PT X c tc) (hb : PSs X body tb) : PS X (.While c body [] pos) (tWhile tc tb) := by
  intro pins s σ H D I h
  obtain ⟨W, ⟨m0, w0⟩, turn⟩ := h
  refine wpAny_While (codeAny_whileLoop (fun n s' => ∃ σ' H', Inv X pins σ' H' s' ∧ W n σ' H') ?_ m0 ⟨σ, H, I, w0⟩)
  rintro n s1 ⟨σ1, H1, I1, w1⟩
  refine wpAny_passesOwn hp (thn (hc pins s1 σ1 H1 _ I1 (turn n σ1 H1 w1)) fun b s2 ⟨H2, I2, q2⟩ => ?_)
  cases b with
  | true =>
    obtain ⟨N, hN, q2⟩ := q2
    rw [if_pos rfl]
    refine wpAny_passesOwn hp (thn (hb pins s2 σ1 H2 _ I2 q2) fun f s3 q3 => ?_)
    cases f with
    | next =>
      obtain ⟨σ3, H3, I3, n3⟩ := q3
      obtain ⟨m', hm, w3⟩ := hN σ3 H3 n3
      exact ⟨m', hm, σ3, H3, I3, w3⟩
    | cont =>
      obtain ⟨σ3, H3, I3, n3⟩ := q3
      obtain ⟨m', hm, w3⟩ := hN σ3 H3 n3
      exact ⟨m', hm, σ3, H3, I3, w3⟩
    | brk => exact q3
    | ret v => exact q3
  | false =>
    rw [if_neg Bool.false_ne_true]
    exact wpAny_execs_nil ⟨σ1, H2, I2, q2⟩
end
structure It where
  go : Nat → Hp → Prop
  yld : Nat → Hp → V → Hp → Prop
  stop : Nat → Hp → Prop
def FpOk (X : Cx) (pins : List (Addr × Obj)) (H : Hp) (b : Addr) : Prop :=
  H b = none ∧ b ≠ X.env.locals ∧ b ∉ X.fs ∧ (b ∈ X.ex ∨ X.s₀.heap.objs.size ≤ b) ∧ (∀ x c, X.env.cells.lookup x = some c → c ≠ b) ∧ ∀ p ∈ X.pn ++ pins, p.1 ≠ b
theorem Inv.fpOk {X : Cx} {pins : List (Addr × Obj)} {σ : St} {H H' : Hp} {s : Shared} {b : Addr} (I : Inv X pins σ H s) (hb : s.heap.objs.size ≤ b) (hn : H' b = none) : FpOk X pins H' b := by
  refine ⟨hn, Nat.ne_of_gt (Nat.lt_of_lt_of_le I.lt hb), I.nofs hb, .inr (Nat.le_trans I.sz hb), fun x c e z => ?_, fun p hp z => ?_⟩
  · obtain ⟨v, q⟩ := I.cell x c e
    exact absurd (Nat.lt_of_lt_of_le q.lt (by rw [z]; exact hb)) (Nat.lt_irrefl _)
  · exact absurd (Nat.lt_of_lt_of_le (Heap.lt_size (I.pin p hp).1) (by rw [z]; exact hb)) (Nat.lt_irrefl _)
structure Turn (P : Program) (w : World) (K : PySem.W.Frag) (tg : Expr) (J : It) (fp : List Addr) (it : Addr) (tn : Nat → Heap → Prop) : Prop where
  mem : it ∈ fp
  obj : ∀ i h, tn i h → ∀ b ∈ fp, ∃ o, h.get? b = some o ∧ ∀ v, o.data ≠ .cell v
  keep : ∀ i h h', tn i h → (∀ b ∈ fp, ∀ o, h.get? b = some o → h'.get? b = some o) → tn i h'
  item : ∀ (X : Cx), X.prog = P → X.w = w → X.K = K → X.calm = true → ∀ (i : Nat) (pins : List (Addr × Obj)) (s : Shared) (σ : St) (H : Hp) (E : Value → Shared → Prop), Inv X pins σ H s → (∀ b ∈ fp, FpOk X pins H b) → tn i s.heap → J.go i H →
    wpAny (model P w) X.A (pyNext (.ref it)) (fun r s1 => ∃ u, r = some u ∧
      wpAny (model P w) X.A (letOwnedTupleGo tg (.ref it) u) (fun _ s2 => ∃ x H', Inv X pins σ H' s2 ∧ RelV x u ∧ J.yld i H x H' ∧ tn (i + 1) s2.heap ∧ ∀ b ∈ fp, H' b = none) E s1) E s
  done : ∀ (X : Cx), X.prog = P → X.w = w → X.K = K → X.calm = true → ∀ (i : Nat) (pins : List (Addr × Obj)) (s : Shared) (σ : St) (H : Hp) (E : Value → Shared → Prop), Inv X pins σ H s → (∀ b ∈ fp, FpOk X pins H b) → tn i s.heap → J.stop i H →
    wpAny (model P w) X.A (pyNext (.ref it)) (fun r s1 => r = none ∧ Inv X pins σ H s1) E s
  self : ∀ (A : Around) (i : Nat) (s : Shared) (Q : Value → Shared → Prop) (E : Value → Shared → Prop), tn i s.heap → Q (.ref it) s → wpAny (model P w) A (pyIter (.ref it)) Q E s
abbrev TI := St → Hp → (It → Hp → Prop) → Prop
def PIE (X : Cx) (pins : List (Addr × Obj)) (σ : St) (tg : Expr) (R : It → Hp → Prop) (itv : Value) (s2 : Shared) : Prop :=
  ∃ (it : Addr) (fp : List Addr) (tn : Nat → Heap → Prop) (J : It) (H' : Hp), itv = .ref it ∧ Inv X pins σ H' s2 ∧ Turn X.prog X.w X.K tg J fp it tn ∧ tn 0 s2.heap ∧ (∀ b ∈ fp, FpOk X pins H' b) ∧ R J H'
def PI (X : Cx) (tg iter : Expr) (wi : TI) : Prop :=
  ∀ (pins : List (Addr × Obj)) (s : Shared) (σ : St) (H : Hp) (R : It → Hp → Prop), Inv X pins σ H s → wi σ H R →
    wpAny (model X.prog X.w) X.A (eval iter X.env) (fun v s1 => wpAny (model X.prog X.w) X.A (pyIter v) (PIE X pins σ tg R) X.xe s1) X.xe s
theorem go_of {M : Model} {A : Around} {E : Value → Shared → Prop} {s : Shared} {tg : Expr} {it : Addr} {u : Value} {o : Obj} {n : String} {vs : Array Value} {Q : Unit → Shared → Prop} (ho : s.heap.get? it = some o) (hc : o.cls = .type n) (hd : o.data = .fields vs)
    (hn : ["enumerate", "zip", "dict_itemiterator", "dict_reverseitemiterator", "odict_iterator", "itertools.zip_longest", "itertools.pairwise"].contains n = false) (hQ : Q () s) : wpAny M A (letOwnedTupleGo tg (.ref it) u) Q E s := by
  unfold letOwnedTupleGo
  cases tg <;> first
    | exact wpAny_pure hQ
    | (cases u <;> first
        | exact wpAny_pure hQ
        | (refine wpAny_bind (wpAny_load ho ?_)
           rw [hc, hd]
           show wpAny M A (if (["enumerate", "zip", "dict_itemiterator", "dict_reverseitemiterator", "odict_iterator", "itertools.zip_longest", "itertools.pairwise"].contains n && vs[0]? == some (rawInt _)) = true then _ else _) Q E s
           rw [if_neg (by intro h; rw [hn, Bool.false_and] at h; cases h)]
           exact wpAny_pure hQ))
def Itl (K : PySem.W.Frag) (a : Addr) : It :=
  ⟨fun i H => ∃ xs x, SqL K H a xs ∧ xs[i]? = some x, fun i H x H' => H' = H ∧ ∀ xs, SqL K H a xs → xs[i]? = some x, fun i H => ∃ xs, SqL K H a xs ∧ xs.length ≤ i⟩
def Itt (K : PySem.W.Frag) (a : Addr) : It :=
  ⟨fun i H => ∃ xs x, SqT K H a xs ∧ xs[i]? = some x, fun i H x H' => H' = H ∧ ∀ xs, SqT K H a xs → xs[i]? = some x, fun i H => ∃ xs, SqT K H a xs ∧ xs.length ≤ i⟩
def Itr (lo : Int) (n : Nat) : It := ⟨fun i _ => i < n, fun i H x H' => H' = H ∧ x = .int (lo + i), fun i _ => n ≤ i⟩
theorem turn_list {P : Program} {w : World} {K : PySem.W.Frag} {tg : Expr} (a it : Addr) : Turn P w K tg (Itl K a) [it] it (fun i h => h.IsListIter it a i) where
  mem := by simp
  obj := fun i h st b hb => by
    have e : b = it := by simpa using hb
    subst e
    obtain ⟨o, e, c, d⟩ := st
    exact ⟨o, e, fun v z => by rw [d] at z; cases z⟩
  keep := fun i h h' st k => st.at fun o e => k it (by simp) o e
  item := by
    intro X hP hw hK hc i pins s σ H E I hf st hg
    subst hP hw hK
    obtain ⟨xs, x, hq, hx⟩ := hg
    obtain ⟨its, rv, p, hz⟩ := I.list hq
    obtain ⟨u, hu, ru⟩ := rv.get hx
    obtain ⟨f0, f1, f2, f3, f4, f5⟩ := hf it (by simp)
    refine wpAny_pyNext_list_item st p.isList (x := u) (by simpa using hu) fun h' st' sb => ?_
    have I1 : Inv X pins σ H { s with heap := h' } := I.turned (t' := s.toks) (fun b o hb e => (sb.2 b hb).trans e) f0 f1 f3 f4 f5
    obtain ⟨o, e, c, d⟩ := id st'
    exact ⟨u, rfl, go_of (s := { s with heap := h' }) e c d (by decide) ⟨x, H, I1, ru, ⟨rfl, fun ys hy => by rw [I.list_inj hy hq]; exact hx⟩, st', fun b hb => (hf b hb).1⟩⟩
  done := by
    intro X hP hw hK hc i pins s σ H E I hf st hg
    subst hP hw hK
    obtain ⟨xs, hq, hx⟩ := hg
    obtain ⟨its, rv, p, hz⟩ := I.list hq
    obtain ⟨f0, f1, f2, f3, f4, f5⟩ := hf it (by simp)
    have hl := rv.length
    exact wpAny_pyNext_list_end (I.ok.hd hc) st p.isList (by simp; (first | lia | omega)) fun h' eb => ⟨rfl, I.turned (t' := s.toks) (fun b o hb e => eb b o hb e) f0 f1 f3 f4 f5⟩
  self := fun _ _ _ _ _ st h => wpAny_pyIter_listiter st h
theorem turn_tuple {P : Program} {w : World} {K : PySem.W.Frag} {tg : Expr} (a it : Addr) : Turn P w K tg (Itt K a) [it] it (fun i h => h.IsTupleIter it a i) where
  mem := by simp
  obj := fun i h st b hb => by
    have e : b = it := by simpa using hb
    subst e
    obtain ⟨o, e, c, d⟩ := st
    exact ⟨o, e, fun v z => by rw [d] at z; cases z⟩
  keep := fun i h h' st k => st.at fun o e => k it (by simp) o e
  item := by
    intro X hP hw hK hc i pins s σ H E I hf st hg
    subst hP hw hK
    obtain ⟨xs, x, hq, hx⟩ := hg
    obtain ⟨its, rv, p, hz⟩ := I.tuple hq
    obtain ⟨u, hu, ru⟩ := rv.get hx
    obtain ⟨f0, f1, f2, f3, f4, f5⟩ := hf it (by simp)
    refine wpAny_pyNext_tuple_item st (show s.heap.IsTuple a its.toArray from p) (x := u) (by simpa using hu) fun h' st' sb => ?_
    have I1 : Inv X pins σ H { s with heap := h' } := I.turned (t' := s.toks) (fun b o hb e => (sb.2 b hb).trans e) f0 f1 f3 f4 f5
    obtain ⟨o, e, c, d⟩ := id st'
    exact ⟨u, rfl, go_of (s := { s with heap := h' }) e c d (by decide) ⟨x, H, I1, ru, ⟨rfl, fun ys hy => by rw [I.tuple_inj hy hq]; exact hx⟩, st', fun b hb => (hf b hb).1⟩⟩
  done := by
    intro X hP hw hK hc i pins s σ H E I hf st hg
    subst hP hw hK
    obtain ⟨xs, hq, hx⟩ := hg
    obtain ⟨its, rv, p, hz⟩ := I.tuple hq
    obtain ⟨f0, f1, f2, f3, f4, f5⟩ := hf it (by simp)
    have hl := rv.length
    exact wpAny_pyNext_tuple_end (I.ok.hd hc) st (show s.heap.IsTuple a its.toArray from p) (by simp; (first | lia | omega)) fun h' eb => ⟨rfl, I.turned (t' := s.toks) (fun b o hb e => eb b o hb e) f0 f1 f3 f4 f5⟩
  self := fun _ _ _ _ _ st h => wpAny_pyIter_tupleiter st h
theorem turn_range {P : Program} {w : World} {K : PySem.W.Frag} {tg : Expr} (it : Addr) (lo : Int) (n : Nat) : Turn P w K tg (Itr lo n) [it] it (fun i h => IsRangeIter h it (lo + (i : Nat) * 1) ((n : Int) - (i : Nat)) 1) where
  mem := by simp
  obj := fun i h st b hb => by
    have e : b = it := by simpa using hb
    subst e
    exact ⟨_, st, fun v z => by
      have z' : Data.fields _ = Data.cell v := z
      cases z'⟩
  keep := fun i h h' st k => k it (by simp) _ st
  item := by
    intro X hP hw hK hc i pins s σ H E I hf st hg
    subst hP hw hK
    obtain ⟨f0, f1, f2, f3, f4, f5⟩ := hf it (by simp)
    have W := Walks.range (prog := X.prog) (w := X.w) (I.ok.hd hc) it lo 1 n
    refine W.item i s _ _ hg st fun v h' tk hv st' kk => ?_
    obtain ⟨t, rfl⟩ := hv
    have I1 : Inv X pins σ H { s with heap := h', toks := tk } := I.turned (fun b o hb e => kk b o (by simpa using hb) e) f0 f1 f3 f4 f5
    refine ⟨_, rfl, go_of (s := { s with heap := h', toks := tk }) (n := "range_iterator") st' rfl rfl (by decide) ⟨.int (lo + i), H, I1, ⟨t, ?_⟩, ⟨rfl, rfl⟩, st', fun b hb => (hf b hb).1⟩⟩
    rw [Int.mul_one]
  done := by
    intro X hP hw hK hc i pins s σ H E I hf st hg
    subst hP hw hK
    obtain ⟨f0, f1, f2, f3, f4, f5⟩ := hf it (by simp)
    exact wpAny_pyNext_range_end (I.ok.hd hc) st (by have : n ≤ i := hg; (first | lia | omega)) fun h' eb => ⟨rfl, I.turned (t' := s.toks) (fun b o hb e => eb b o hb e) f0 f1 f3 f4 f5⟩
  self := fun _ _ _ _ _ st h => wpAny_pyIter_rangeiter st h
section
variable {X : Cx} {tg : Expr}
def iList (K : PySem.W.Frag) (tl : TE) : TI := fun σ H R => tl σ H fun x H1 => ∃ a, x = .ref a ∧ (∃ xs, SqL K H1 a xs) ∧ R (Itl K a) H1
def iTup (K : PySem.W.Frag) (tl : TE) : TI := fun σ H R => tl σ H fun x H1 => ∃ a, x = .ref a ∧ (∃ xs, SqT K H1 a xs) ∧ R (Itt K a) H1
theorem pi_list {l : Expr} {tl : TE} (hl : PE X l tl) : PI X tg l (iList X.K tl) := by
  intro pins s σ H R I h
  refine thn (hl pins s σ H _ I h) fun v s1 ⟨x, H1, I1, r1, q1⟩ => ?_
  obtain ⟨a, e, ⟨xs, hq⟩, q⟩ := q1
  subst e
  cases r1
  obtain ⟨its, rv, p, hz⟩ := I1.list hq
  refine wpAny_pyIter_list p.isList ?_
  refine ⟨s1.heap.objs.size, [s1.heap.objs.size], _, _, H1, rfl, I1.kept (t' := s1.toks) fun b o e => Heap.get?_push_of_some _ e, turn_list a _, ⟨_, Heap.get?_push_size _ rfl, rfl, rfl⟩, fun b hb => ?_, q⟩
  have e : b = s1.heap.objs.size := by simpa using hb
  subst e
  exact I1.fpOk (Nat.le_refl _) (I1.hok.fresh (Nat.le_refl _))
theorem pi_tup {l : Expr} {tl : TE} (hl : PE X l tl) : PI X tg l (iTup X.K tl) := by
  intro pins s σ H R I h
  refine thn (hl pins s σ H _ I h) fun v s1 ⟨x, H1, I1, r1, q1⟩ => ?_
  obtain ⟨a, e, ⟨xs, hq⟩, q⟩ := q1
  subst e
  cases r1
  obtain ⟨its, rv, p, hz⟩ := I1.tuple hq
  refine wpAny_pyIter_tuple (show s1.heap.IsTuple a its.toArray from p) ?_
  refine ⟨s1.heap.objs.size, [s1.heap.objs.size], _, _, H1, rfl, I1.kept (t' := s1.toks) fun b o e => Heap.get?_push_of_some _ e, turn_tuple a _, ⟨_, Heap.get?_push_size _ rfl, rfl, rfl⟩, fun b hb => ?_, q⟩
  have e : b = s1.heap.objs.size := by simpa using hb
  subst e
  exact I1.fpOk (Nat.le_refl _) (I1.hok.fresh (Nat.le_refl _))
theorem range_it {pins : List (Addr × Obj)} {σ : St} {H : Hp} {s : Shared} {R : It → Hp → Prop} {E : Value → Shared → Prop} {lo hi : Int} {t u v : Tok} {tk : Nat} (I : Inv X pins σ H s) (h1 : -(2 ^ 62) ≤ lo) (h2 : lo < 2 ^ 62) (h3 : -(2 ^ 62) ≤ hi) (h4 : hi < 2 ^ 62)
    (q : R (Itr lo (hi - lo).toNat) H) : wpAny (model X.prog X.w) X.A (pyIter (.ref s.heap.objs.size)) (PIE X pins σ tg R) E { s with heap := s.heap.push { cls := .type "range", data := .fields #[.int lo t, .int hi u, .int 1 v] }, toks := tk } := by
  refine wpAny_pyIter_range (IsRange.new ..) (small_one h1 h2 h3 h4) ?_
  have I1 : Inv X pins σ H { s with heap := s.heap.push { cls := .type "range", data := .fields #[.int lo t, .int hi u, .int 1 v] }, toks := tk } := I.kept fun b o e => Heap.get?_push_of_some _ e
  refine ⟨(s.heap.push { cls := .type "range", data := .fields #[.int lo t, .int hi u, .int 1 v] }).objs.size, [(s.heap.push { cls := .type "range", data := .fields #[.int lo t, .int hi u, .int 1 v] }).objs.size], _, _, H, rfl,
    I1.kept (t' := tk) fun b o e => Heap.get?_push_of_some _ e, turn_range _ lo (hi - lo).toNat, ?_, fun b hb => ?_, q⟩
  · have e1 : lo + ((0 : Nat) : Int) * 1 = lo := by simp
    have e2 : (((hi - lo).toNat : Nat) : Int) - ((0 : Nat) : Int) = Builtin.Range.rangeSize lo hi 1 := by rw [rangeSize_one]; split <;> (first | lia | omega)
    show IsRangeIter _ _ (lo + ((0 : Nat) : Int) * 1) ((((hi - lo).toNat : Nat) : Int) - ((0 : Nat) : Int)) 1
    rw [e1, e2]
    exact Heap.get?_push_size _ rfl
  · have e : b = (s.heap.push { cls := .type "range", data := .fields #[.int lo t, .int hi u, .int 1 v] }).objs.size := by simpa using hb
    subst e
    exact I1.fpOk (Nat.le_refl _) (I1.hok.fresh (Nat.le_refl _))
def iRng1 (ta : TA) : TI := fun σ H R => ta σ H fun vs H1 => ∃ j : Int, vs = [.int j] ∧ -(2 ^ 62) ≤ j ∧ j < 2 ^ 62 ∧ R (Itr 0 j.toNat) H1
def iRng2 (ta : TA) : TI := fun σ H R => ta σ H fun vs H1 => ∃ i j : Int, vs = [.int i, .int j] ∧ (-(2 ^ 62) ≤ i ∧ i < 2 ^ 62 ∧ -(2 ^ 62) ≤ j ∧ j < 2 ^ 62) ∧ R (Itr i (j - i).toNat) H1
theorem pi_range1 {a : Expr} {ta : TA} {p pos : Pos} (hg : Gl X "range") (hm : X.mg "range" = none) (ha : PA X [a] ta) (hs : starEach [a] X.env = [(false, eval a X.env)] := by rfl) : PI X tg (.Call (.Name "range" p) [a] [] pos) (iRng1 ta) := by
  intro pins s σ H R I h
  refine Call_ (ld_blt I hg hm boot_range (PyProof.Rows.callWith_type1 (thn (ha pos pins s σ H _ I h) fun us s1 ⟨vs, H1, I1, r1, q1⟩ => ?_) hs rfl))
  obtain ⟨j, e, q1, q2, q⟩ := q1
  subst e
  cases r1 with
  | cons r rr =>
    cases rr
    obtain ⟨t, rfl⟩ := r
    exact call_range_1 (range_it I1 (by (first | lia | omega)) (by (first | lia | omega)) q1 q2 (by simpa using q))
theorem pi_range2 {a b : Expr} {ta : TA} {p pos : Pos} (hg : Gl X "range") (hm : X.mg "range" = none) (ha : PA X [a, b] ta) (hs : starEach [a, b] X.env = [(false, eval a X.env), (false, eval b X.env)] := by rfl) (hs2 : starEach [b] X.env = [(false, eval b X.env)] := by rfl) :
    PI X tg (.Call (.Name "range" p) [a, b] [] pos) (iRng2 ta) := by
  intro pins s σ H R I h
  refine Call_ (ld_blt I hg hm boot_range (PyProof.Rows.callWith_type1 (thn (ha pos pins s σ H _ I h) fun us s1 ⟨vs, H1, I1, r1, q1⟩ => ?_) (by rw [hs, hs2]) (by rw [hs2]; rfl)))
  obtain ⟨i, j, e, ⟨q1, q2, q3, q4⟩, q⟩ := q1
  subst e
  cases r1 with
  | cons r rr =>
    cases rr with
    | cons r' rr =>
      cases rr
      obtain ⟨t, rfl⟩ := r
      obtain ⟨t', rfl⟩ := r'
      exact call_range_2 (range_it I1 q1 q2 q3 q4 q)
def tFor (wi : TI) (g : TG) (tb : TS) : TS := fun D σ H => wi σ H fun J H1 => ∃ W : Nat → Nat → St → Hp → Prop, (∃ m, W 0 m σ H1) ∧ ∀ i m σ H, W i m σ H →
  (J.stop i H ∧ D.nx σ H) ∨ (J.go i H ∧ ∃ N : St → Hp → Prop, (∀ σ' H', N σ' H' → ∃ m', m' < m ∧ W (i + 1) m' σ' H') ∧ ∀ x H', J.yld i H x H' → g x σ H' fun σ2 H2 => tb { D with nx := N, ct := N, bk := D.nx } σ2 H2)
def pinsAt (fp : List Addr) (h : Heap) : List (Addr × Obj) := fp.filterMap fun b => (h.get? b).map fun o => (b, o)
theorem mem_pinsAt {fp : List Addr} {h : Heap} {b : Addr} {o : Obj} (hb : b ∈ fp) (e : h.get? b = some o) : (b, o) ∈ pinsAt fp h := List.mem_filterMap.mpr ⟨b, hb, by rw [e]; rfl⟩
theorem of_pinsAt {fp : List Addr} {h : Heap} {p : Addr × Obj} (hp : p ∈ pinsAt fp h) : p.1 ∈ fp ∧ h.get? p.1 = some p.2 := by
  obtain ⟨b, hb, e⟩ := List.mem_filterMap.mp hp
  cases q : h.get? b with
  | none => rw [q] at e; cases e
  | some o =>
    rw [q] at e
    have e' : (b, o) = p := Option.some.inj e
    subst e'
    exact ⟨hb, q⟩
theorem Inv.pinned {pins : List (Addr × Obj)} {σ : St} {H : Hp} {s : Shared} {fp : List Addr} (I : Inv X pins σ H s) (hf : ∀ b ∈ fp, FpOk X pins H b) (ho : ∀ b ∈ fp, ∃ o, s.heap.get? b = some o ∧ ∀ v, o.data ≠ .cell v) : Inv X (pins ++ pinsAt fp s.heap) σ H s :=
  I.pins_of fun p hp => (List.mem_append.mp hp).elim (fun z => I.pin p (List.mem_append_right _ z)) fun z => by
    obtain ⟨hb, e⟩ := of_pinsAt z
    obtain ⟨f0, f1, f2, _⟩ := hf p.1 hb
    obtain ⟨o, e', d⟩ := ho p.1 hb
    rw [e] at e'; cases e'
    exact ⟨e, f0, f1, f2, d⟩
theorem Inv.unpinned {pins pl : List (Addr × Obj)} {σ : St} {H : Hp} {s : Shared} (I : Inv X (pins ++ pl) σ H s) : Inv X pins σ H s := I.pins_of fun p hp => I.pin p (List.mem_append_right _ (List.mem_append_left _ hp))
theorem ps_for {iter : Expr} {body : List Stmt} {wi : TI} {g : TG} {tb : TS} {pos : Pos} (hp : PassesOwn (model X.prog X.w) X.A X.env X.xe) (hc : X.calm = true) (hi : PI X tg iter wi) (hg : PG X tg g) (hb : PSs X body tb)
    (hs : ∀ x, foldedSetIterable iter X.env x = pure x := by intro _; rfl) : PS X (.For tg iter body [] pos) (tFor wi g tb) := by
  intro pins s σ H D I h
  refine wpAny_For (thn (hi pins s σ H _ I h) fun v s1 h1 => thn h1 fun itv s2 h2 => ?_) hs
  obtain ⟨it, fp, tn, J, H2, e, I2, T, st2, f2, W, ⟨m0, w0⟩, turn⟩ := h2
  subst e
  -- what stays true of the iterator's objects through the loop
  have stat : ∀ {H' : Hp}, (∀ b ∈ fp, H' b = none) → ∀ b ∈ fp, FpOk X pins H' b := fun hn b hb => ⟨hn b hb, (f2 b hb).2⟩
  refine codeAny_forLoop_any (fun n s' => ∃ i σ' H', Inv X pins σ' H' s' ∧ tn i s'.heap ∧ (∀ b ∈ fp, H' b = none) ∧ W i n σ' H') ?_ m0 ⟨0, σ, H2, I2, st2, fun b hb => (f2 b hb).1, w0⟩
  rintro n s3 ⟨i, σ3, H3, I3, st3, fr3, w3⟩
  rcases turn i n σ3 H3 w3 with ⟨stop, qn⟩ | ⟨go, N, hN, step⟩
  · refine wpAny_passesOwn hp (thn (T.done X rfl rfl rfl hc i pins s3 σ3 H3 X.xe I3 (stat fr3) st3 stop) fun r s4 ⟨hr, I4⟩ => ?_)
    subst hr
    exact wpAny_execs_nil ⟨σ3, H3, I4, qn⟩
  · refine wpAny_passesOwn hp (thn (T.item X rfl rfl rfl hc i pins s3 σ3 H3 X.xe I3 (stat fr3) st3 go) fun r s4 ⟨u, hr, h4⟩ => ?_)
    subst hr
    refine wpAny_passesOwn hp (thn h4 fun _ s5 ⟨x, H5, I5, r5, y5, st5, fr5⟩ => ?_)
    have I5' := I5.pinned (stat fr5) (T.obj _ _ st5)
    refine wpAny_passesOwn hp (thn (hg _ s5 σ3 H5 x u _ I5' r5 (step x H5 y5)) fun _ s6 ⟨σ6, H6, I6, q6⟩ => ?_)
    refine wpAny_passesOwn hp (thn (hb _ s6 σ6 H6 _ I6 q6) fun f s7 q7 => ?_)
    have again : ∀ {σ7 : St} {H7 : Hp}, Inv X (pins ++ pinsAt fp s5.heap) σ7 H7 s7 → N σ7 H7 → ∃ m, m < n ∧ ∃ i σ' H', Inv X pins σ' H' s7 ∧ tn i s7.heap ∧ (∀ b ∈ fp, H' b = none) ∧ W i m σ' H' := fun {σ7 H7} I7 n7 => by
      obtain ⟨m', hm, w7⟩ := hN σ7 H7 n7
      refine ⟨m', hm, i + 1, σ7, H7, I7.unpinned, T.keep _ _ _ st5 fun b hb o e => (I7.pin (b, o) (List.mem_append_right _ (List.mem_append_right _ (mem_pinsAt hb e)))).1, fun b hb => ?_, w7⟩
      obtain ⟨o, e, d⟩ := T.obj _ _ st5 b hb
      exact (I7.pin (b, o) (List.mem_append_right _ (List.mem_append_right _ (mem_pinsAt hb e)))).2.1
    cases f with
    | next => obtain ⟨σ7, H7, I7, n7⟩ := q7; exact again I7 n7
    | cont => obtain ⟨σ7, H7, I7, n7⟩ := q7; exact again I7 n7
    | brk => obtain ⟨σ7, H7, I7, q7⟩ := q7; exact ⟨σ7, H7, I7.unpinned, q7⟩
    | ret v => obtain ⟨x7, σ7, H7, I7, r7, q7⟩ := q7; exact ⟨x7, σ7, H7, I7.unpinned, r7, q7⟩
end
theorem for_list {K : PySem.W.Frag} {a : Addr} {xs : List V} {g : TG} {tb : TS} {D : Ends} {σ : St} {H : Hp} (Pv : Nat → St → Hp → Prop) (h0 : Pv 0 σ H) (hl : ∀ i σ H, i ≤ xs.length → Pv i σ H → SqL K H a xs)
    (hs : ∀ i x σ H, xs[i]? = some x → Pv i σ H → g x σ H fun σ2 H2 => tb { D with nx := Pv (i + 1), ct := Pv (i + 1), bk := D.nx } σ2 H2) (hd : ∀ σ H, Pv xs.length σ H → D.nx σ H) :
    ∃ W : Nat → Nat → St → Hp → Prop, (∃ m, W 0 m σ H) ∧ ∀ i m σ H, W i m σ H →
      ((Itl K a).stop i H ∧ D.nx σ H) ∨ ((Itl K a).go i H ∧ ∃ N : St → Hp → Prop, (∀ σ' H', N σ' H' → ∃ m', m' < m ∧ W (i + 1) m' σ' H') ∧ ∀ x H', (Itl K a).yld i H x H' → g x σ H' fun σ2 H2 => tb { D with nx := N, ct := N, bk := D.nx } σ2 H2) := by
  refine ⟨fun i m σ H => m = xs.length - i ∧ i ≤ xs.length ∧ Pv i σ H, ⟨xs.length, by simp, Nat.zero_le _, h0⟩, ?_⟩
  rintro i m σ H ⟨rfl, hi, p⟩
  have q := hl i σ H hi p
  by_cases hlt : i < xs.length
  · refine .inr ⟨⟨xs, xs[i], q, by simp [hlt]⟩, Pv (i + 1), fun σ' H' p' => ⟨xs.length - (i + 1), by (first | lia | omega), rfl, hlt, p'⟩, fun x H' y => ?_⟩
    obtain ⟨e, y⟩ := y
    subst e
    exact hs i x σ _ (y xs q) p
  · have e : i = xs.length := by (first | lia | omega)
    subst e
    exact .inl ⟨⟨xs, q, Nat.le_refl _⟩, hd σ H p⟩
theorem for_tup {K : PySem.W.Frag} {a : Addr} {xs : List V} {g : TG} {tb : TS} {D : Ends} {σ : St} {H : Hp} (Pv : Nat → St → Hp → Prop) (h0 : Pv 0 σ H) (hl : ∀ i σ H, i ≤ xs.length → Pv i σ H → SqT K H a xs)
    (hs : ∀ i x σ H, xs[i]? = some x → Pv i σ H → g x σ H fun σ2 H2 => tb { D with nx := Pv (i + 1), ct := Pv (i + 1), bk := D.nx } σ2 H2) (hd : ∀ σ H, Pv xs.length σ H → D.nx σ H) :
    ∃ W : Nat → Nat → St → Hp → Prop, (∃ m, W 0 m σ H) ∧ ∀ i m σ H, W i m σ H →
      ((Itt K a).stop i H ∧ D.nx σ H) ∨ ((Itt K a).go i H ∧ ∃ N : St → Hp → Prop, (∀ σ' H', N σ' H' → ∃ m', m' < m ∧ W (i + 1) m' σ' H') ∧ ∀ x H', (Itt K a).yld i H x H' → g x σ H' fun σ2 H2 => tb { D with nx := N, ct := N, bk := D.nx } σ2 H2) := by
  refine ⟨fun i m σ H => m = xs.length - i ∧ i ≤ xs.length ∧ Pv i σ H, ⟨xs.length, by simp, Nat.zero_le _, h0⟩, ?_⟩
  rintro i m σ H ⟨rfl, hi, p⟩
  have q := hl i σ H hi p
  by_cases hlt : i < xs.length
  · refine .inr ⟨⟨xs, xs[i], q, by simp [hlt]⟩, Pv (i + 1), fun σ' H' p' => ⟨xs.length - (i + 1), by (first | lia | omega), rfl, hlt, p'⟩, fun x H' y => ?_⟩
    obtain ⟨e, y⟩ := y
    subst e
    exact hs i x σ _ (y xs q) p
  · have e : i = xs.length := by (first | lia | omega)
    subst e
    exact .inl ⟨⟨xs, q, Nat.le_refl _⟩, hd σ H p⟩
theorem for_range {lo : Int} {n : Nat} {g : TG} {tb : TS} {D : Ends} {σ : St} {H : Hp} (Pv : Nat → St → Hp → Prop) (h0 : Pv 0 σ H)
    (hs : ∀ i σ H, i < n → Pv i σ H → g (.int (lo + i)) σ H fun σ2 H2 => tb { D with nx := Pv (i + 1), ct := Pv (i + 1), bk := D.nx } σ2 H2) (hd : ∀ σ H, Pv n σ H → D.nx σ H) :
    ∃ W : Nat → Nat → St → Hp → Prop, (∃ m, W 0 m σ H) ∧ ∀ i m σ H, W i m σ H →
      ((Itr lo n).stop i H ∧ D.nx σ H) ∨ ((Itr lo n).go i H ∧ ∃ N : St → Hp → Prop, (∀ σ' H', N σ' H' → ∃ m', m' < m ∧ W (i + 1) m' σ' H') ∧ ∀ x H', (Itr lo n).yld i H x H' → g x σ H' fun σ2 H2 => tb { D with nx := N, ct := N, bk := D.nx } σ2 H2) := by
  refine ⟨fun i m σ H => m = n - i ∧ i ≤ n ∧ Pv i σ H, ⟨n, by simp, Nat.zero_le _, h0⟩, ?_⟩
  rintro i m σ H ⟨rfl, hi, p⟩
  by_cases hlt : i < n
  · refine .inr ⟨hlt, Pv (i + 1), fun σ' H' p' => ⟨n - (i + 1), by (first | lia | omega), rfl, hlt, p'⟩, fun x H' y => ?_⟩
    obtain ⟨e, y⟩ := y
    subst e y
    exact hs i σ _ hlt p
  · have e : i = n := by (first | lia | omega)
    subst e
    exact .inl ⟨Nat.le_refl _, hd σ H p⟩
abbrev R2 := V → V → Hp → VK → Prop
def OpR (X : Cx) (f : Value → Value → Sem Value) (r : R2) : Prop :=
  ∀ (pins : List (Addr × Obj)) (s : Shared) (σ : St) (H : Hp) (x y : V) (v u : Value) (Q : VK), Inv X pins σ H s → RelV x v → RelV y u → r x y H Q →
    wpAny (model X.prog X.w) X.A (f v u) (EP X pins σ Q) X.xe s
def UnR (X : Cx) (f : Value → Sem Value) (r : V → Hp → VK → Prop) : Prop :=
  ∀ (pins : List (Addr × Obj)) (s : Shared) (σ : St) (H : Hp) (x : V) (v : Value) (Q : VK), Inv X pins σ H s → RelV x v → r x H Q →
    wpAny (model X.prog X.w) X.A (f v) (EP X pins σ Q) X.xe s
def CallR (X : Cx) (f : Value) (r : List V → Hp → VK → Prop) : Prop :=
  ∀ (pins : List (Addr × Obj)) (s : Shared) (σ : St) (H : Hp) (xs : List V) (us : List Value) (Q : VK), Inv X pins σ H s → Vals xs us → r xs H Q →
    wpAny (model X.prog X.w) X.A (call f us) (EP X pins σ Q) X.xe s
def tOp (r : R2) (ta tb : TE) : TE := fun σ H Q => ta σ H fun x H1 => tb σ H1 fun y H2 => r x y H2 Q
def tUn (r : V → Hp → VK → Prop) (ta : TE) : TE := fun σ H Q => ta σ H fun x H1 => r x H1 Q
def rI (C : Int → Int → Prop) (g : Int → Int → V) : R2 := fun x y H Q => ∃ i j, x = .int i ∧ y = .int j ∧ C i j ∧ Q (g i j) H
def rI0 (g : Int → Int → V) : R2 := fun x y H Q => ∃ i j, x = .int i ∧ y = .int j ∧ Q (g i j) H
def rU (g : Int → V) : V → Hp → VK → Prop := fun x H Q => ∃ i, x = .int i ∧ Q (g i) H
section
variable {X : Cx} {a b c : Expr} {ta tb tc : TE} {pos : Pos}
theorem binT (ha : PE X a ta) (hb : PE X b tb) {pins : List (Addr × Obj)} {s : Shared} {σ : St} {H : Hp} {R : V → V → Hp → Prop} (I : Inv X pins σ H s)
    (h : ta σ H fun x H1 => tb σ H1 fun y H2 => R x y H2) {Q : Value → Shared → Prop} {f : Value → Value → Sem Value}
    (hf : ∀ v u s2 x y H2, Inv X pins σ H2 s2 → RelV x v → RelV y u → R x y H2 → wpAny (model X.prog X.w) X.A (f v u) Q X.xe s2) :
    wpAny (model X.prog X.w) X.A (eval a X.env) (fun v s₁ => wpAny (model X.prog X.w) X.A (eval b X.env) (fun u s₂ => wpAny (model X.prog X.w) X.A (f v u) Q X.xe s₂) X.xe s₁) X.xe s := by
  refine thn (ha pins s σ H _ I h) fun v s1 ⟨x, H1, I1, r1, q1⟩ => ?_
  refine thn (hb pins s1 σ H1 _ I1 q1) fun u s2 ⟨y, H2, I2, r2, q2⟩ => ?_
  exact hf v u s2 x y H2 I2 r1 r2 q2
theorem pe_op {op : Operator} {r : R2} (ho : OpR X (binaryOp op) r) (ha : PE X a ta) (hb : PE X b tb) : PE X (.BinOp a op b pos) (tOp r ta tb) := by
  intro pins s σ H Q I h
  exact wpAny_BinOp (binT ha hb I h fun v u s2 x y H2 I2 rx ry q => ho pins s2 σ H2 x y v u Q I2 rx ry q)
theorem pe_un {op : UnaryOp} {r : V → Hp → VK → Prop} (ho : UnR X (unaryOp op) r) (ha : PE X a ta) : PE X (.UnaryOp op a pos) (tUn r ta) := by
  intro pins s σ H Q I h
  exact UnaryOp_ (thn (ha pins s σ H _ I h) fun v s1 ⟨x, H1, I1, r1, q1⟩ => ho pins s1 σ H1 x v Q I1 r1 q1)
theorem opI {f : Value → Value → Sem Value} {C : Int → Int → Prop} {g : Int → Int → Int}
    (rule : ∀ (i j : Int) (t u : Tok) (s : Shared) (Q : Value → Shared → Prop) (E : Value → Shared → Prop), C i j → Q (.int (g i j) s.toks) { s with toks := s.toks + 1 } → wpAny (model X.prog X.w) X.A (f (.int i t) (.int j u)) Q E s) :
    OpR X f (rI C fun i j => .int (g i j)) := by
  intro pins s σ H x y v u Q I rx ry h
  obtain ⟨i, j, rfl, rfl, hc, q⟩ := h
  obtain ⟨t, rfl⟩ := rx
  obtain ⟨t', rfl⟩ := ry
  exact rule i j t t' s _ _ hc ⟨.int (g i j), H, I.tok _, ⟨_, rfl⟩, q⟩
theorem opI0 {f : Value → Value → Sem Value} {g : Int → Int → Int}
    (rule : ∀ (i j : Int) (t u : Tok) (s : Shared) (Q : Value → Shared → Prop) (E : Value → Shared → Prop), Q (.int (g i j) s.toks) { s with toks := s.toks + 1 } → wpAny (model X.prog X.w) X.A (f (.int i t) (.int j u)) Q E s) :
    OpR X f (rI0 fun i j => .int (g i j)) := by
  intro pins s σ H x y v u Q I rx ry h
  obtain ⟨i, j, rfl, rfl, q⟩ := h
  obtain ⟨t, rfl⟩ := rx
  obtain ⟨t', rfl⟩ := ry
  exact rule i j t t' s _ _ ⟨.int (g i j), H, I.tok _, ⟨_, rfl⟩, q⟩
theorem opB0 {f : Value → Value → Sem Value} {g : Int → Int → Bool}
    (rule : ∀ (i j : Int) (t u : Tok) (s : Shared) (Q : Value → Shared → Prop) (E : Value → Shared → Prop), Q (.bool (g i j)) s → wpAny (model X.prog X.w) X.A (f (.int i t) (.int j u)) Q E s) :
    OpR X f (rI0 fun i j => .bl (g i j)) := by
  intro pins s σ H x y v u Q I rx ry h
  obtain ⟨i, j, rfl, rfl, q⟩ := h
  obtain ⟨t, rfl⟩ := rx
  obtain ⟨t', rfl⟩ := ry
  exact rule i j t t' s _ _ ⟨.bl (g i j), H, I, rfl, q⟩
def CDiv (i j : Int) : Prop := 0 < j ∧ j < 1073741824
def CPow (i j : Int) : Prop := 0 ≤ j ∧ j ≤ 1000000 ∧ i.natAbs < 2 ^ 64
def CMul (i j : Int) : Prop := (-(2 ^ 64) < i ∧ i < 2 ^ 64) ∨ (-(2 ^ 64) < j ∧ j < 2 ^ 64)
theorem CMul.ok {i j : Int} (h : CMul i j) : IntMulOk i j := by
  rcases h with ⟨h1, h2⟩ | ⟨h1, h2⟩
  · exact .of_left (intBits_le_64 h1 h2)
  · exact .of_right (intBits_le_64 h1 h2)
theorem two_pow_nn (k : Nat) : (0 : Int) ≤ 2 ^ k := by
  rw [two_pow_cast]
  exact Int.natCast_nonneg _
theorem op_add : OpR X (binaryOp .Add) (rI0 fun i j => .int (i + j)) := opI0 fun _ _ _ _ _ _ _ q => add_int q
theorem op_sub : OpR X (binaryOp .Sub) (rI0 fun i j => .int (i - j)) := opI0 fun _ _ _ _ _ _ _ q => sub_int q
theorem op_mul : OpR X (binaryOp .Mult) (rI CMul fun i j => .int (i * j)) := opI fun _ _ _ _ _ _ _ hc q => mul_int q hc.ok
theorem op_fdiv : OpR X (binaryOp .FloorDiv) (rI CDiv fun i j => .int (i / j)) := opI fun i j _ _ _ _ _ hc q => by
  have h1 : (0 : Int) < j := hc.1
  have h2 : j < 1073741824 := hc.2
  exact floordiv_int (by (first | lia | omega)) (by rw [Int.fdiv_eq_ediv_of_nonneg i (by (first | lia | omega))]; exact q) (.inl (PyProof.noPylong_small (by (first | lia | omega))))
theorem op_mod : OpR X (binaryOp .Mod) (rI (fun _ j => 0 < j) fun i j => .int (i % j)) := opI fun i j _ _ _ _ _ hc q => by
  have h1 : (0 : Int) < j := hc
  exact mod_int' (by (first | lia | omega)) (by rw [Int.fmod_eq_emod_of_nonneg i (by (first | lia | omega))]; exact q)
theorem op_pow : OpR X (binaryOp .Pow) (rI CPow fun i j => .int (i ^ j.toNat)) := opI fun _ _ _ _ _ _ _ hc q => pow_int_small hc.1 hc.2.1 hc.2.2 q
theorem op_shl : OpR X (binaryOp .LShift) (rI CPow fun i j => .int (i * 2 ^ j.toNat)) := opI fun _ _ _ _ _ _ _ hc q => lshift_int_small hc.1 hc.2.1 hc.2.2 q
theorem op_shr : OpR X (binaryOp .RShift) (rI (fun _ j => 0 ≤ j) fun i j => .int (i / 2 ^ j.toNat)) := opI fun i j _ _ _ _ _ hc q =>
  rshift_int hc (by rw [Int.fdiv_eq_ediv_of_nonneg i (two_pow_nn _)]; exact q)
theorem op_and : OpR X (binaryOp .BitAnd) (rI0 fun i j => .int (Builtin.bitAnd i j)) := opI0 fun _ _ _ _ _ _ _ q => and_int q
theorem op_xor : OpR X (binaryOp .BitXor) (rI0 fun i j => .int (Builtin.bitXor i j)) := opI0 fun _ _ _ _ _ _ _ q => xor_int q
theorem iop_add : OpR X (inplaceOp .Add) (rI0 fun i j => .int (i + j)) := opI0 fun _ _ _ _ _ _ _ q => iadd_int q
theorem iop_or : OpR X (inplaceOp .BitOr) (rI0 fun i j => .int (Builtin.bitOr i j)) := opI0 fun _ _ _ _ _ _ _ q => ior_int q
theorem iop_xor : OpR X (inplaceOp .BitXor) (rI0 fun i j => .int (Builtin.bitXor i j)) := opI0 fun _ _ _ _ _ _ _ q => ixor_int q
theorem unI {f : Value → Sem Value} {g : Int → Int}
    (rule : ∀ (i : Int) (t : Tok) (s : Shared) (Q : Value → Shared → Prop) (E : Value → Shared → Prop), Q (.int (g i) s.toks) { s with toks := s.toks + 1 } → wpAny (model X.prog X.w) X.A (f (.int i t)) Q E s) :
    UnR X f (rU fun i => .int (g i)) := by
  intro pins s σ H x v Q I rx h
  obtain ⟨i, rfl, q⟩ := h
  obtain ⟨t, rfl⟩ := rx
  exact rule i t s _ _ ⟨.int (g i), H, I.tok _, ⟨_, rfl⟩, q⟩
theorem un_neg : UnR X (unaryOp .USub) (rU fun i => .int (-i)) := unI fun _ _ _ _ _ q => neg_int q
end
def scal : V → V → Bool
  | .non, .non => true | .non, .int _ => true | .int _, .non => true | .non, .bl _ => true | .bl _, .non => true | .non, .str _ => true | .str _, .non => true
  | .int _, .int _ => true | .bl _, .bl _ => true | .str _, .str _ => true | .byt _, .byt _ => true
  | .int _, .str _ => true | .str _, .int _ => true | .bl _, .str _ => true | .str _, .bl _ => true
  | _, _ => false
def rEq : R2 := fun x y H Q => scal x y = true ∧ Q (.bl (decide (x = y))) H
def rNe : R2 := fun x y H Q => scal x y = true ∧ Q (.bl (!decide (x = y))) H
theorem dec_int {i j : Int} : decide (V.int i = V.int j) = (i == j) := by
  rw [Bool.eq_iff_iff]
  simp
theorem dec_bl {i j : Bool} : decide (V.bl i = V.bl j) = (i == j) := by
  rw [Bool.eq_iff_iff]
  simp
theorem dec_str {i j : Str} : decide (V.str i = V.str j) = (i == j) := by
  rw [Bool.eq_iff_iff]
  simp
theorem dec_byt {i j : Array UInt8} : decide (V.byt i = V.byt j) = (i.toList == j.toList) := by
  rw [Bool.eq_iff_iff]
  cases i
  cases j
  simp
section
variable {X : Cx} {a b c : Expr} {ta tb tc : TE} {pos : Pos}
theorem fin_bl {pins : List (Addr × Obj)} {σ : St} {H : Hp} {s : Shared} {Q : VK} {k k' : Bool} (I : Inv X pins σ H s) (q : Q (.bl k) H) (e : k = k') : EP X pins σ Q (.bool k') s := by
  subst e
  exact ⟨.bl k, H, I, rfl, q⟩
theorem op_eq : OpR X (compareOp .Eq) rEq := by
  intro pins s σ H x y v u Q I rx ry h
  obtain ⟨hs, q⟩ := h
  cases x with
  | non =>
    cases rx
    cases y with
    | non => cases ry; exact PySem.EqNone.eq_none_none (fin_bl I q (by simp))
    | bl j => cases ry; exact PySem.EqNone.eq_none_bool (fin_bl I q (by simp))
    | int j => obtain ⟨t', rfl⟩ := ry; exact PySem.EqNone.eq_none_int (fin_bl I q (by simp))
    | str j => obtain ⟨t', rfl⟩ := ry; exact PySem.EqNone.eq_none_str (fin_bl I q (by simp))
    | _ => exact absurd (show false = true from hs) Bool.false_ne_true
  | bl i =>
    cases rx
    cases y with
    | non => cases ry; exact PySem.EqNone.eq_bool_none (fin_bl I q (by simp))
    | bl j => cases ry; exact eq_bool (fin_bl I q dec_bl)
    | str j => obtain ⟨t', rfl⟩ := ry; exact PySem.EqMixed.eq_bool_str (fin_bl I q (by simp))
    | _ => exact absurd (show false = true from hs) Bool.false_ne_true
  | int i =>
    obtain ⟨t, rfl⟩ := rx
    cases y with
    | non => cases ry; exact PySem.EqNone.eq_int_none (fin_bl I q (by simp))
    | int j => obtain ⟨t', rfl⟩ := ry; exact eq_int (fin_bl I q dec_int)
    | str j => obtain ⟨t', rfl⟩ := ry; exact PySem.EqMixed.eq_int_str (fin_bl I q (by simp))
    | _ => exact absurd (show false = true from hs) Bool.false_ne_true
  | str i =>
    obtain ⟨t, rfl⟩ := rx
    cases y with
    | non => cases ry; exact PySem.EqNone.eq_str_none (fin_bl I q (by simp))
    | bl j => cases ry; exact PySem.EqMixed.eq_str_bool (fin_bl I q (by simp))
    | int j => obtain ⟨t', rfl⟩ := ry; exact PySem.EqMixed.eq_str_int (fin_bl I q (by simp))
    | str j => obtain ⟨t', rfl⟩ := ry; exact eq_str (fin_bl I q dec_str)
    | _ => exact absurd (show false = true from hs) Bool.false_ne_true
  | byt i =>
    obtain ⟨t, rfl⟩ := rx
    cases y with
    | byt j => obtain ⟨t', rfl⟩ := ry; exact PySem.W.eq_bytes (fin_bl I q dec_byt)
    | _ => exact absurd (show false = true from hs) Bool.false_ne_true
  | _ => cases y <;> exact absurd (show false = true from hs) Bool.false_ne_true
theorem op_ne : OpR X (compareOp .NotEq) rNe := by
  intro pins s σ H x y v u Q I rx ry h
  obtain ⟨hs, q⟩ := h
  cases x with
  | non =>
    cases rx
    cases y with
    | non => cases ry; exact PySem.EqNone.ne_none_none (fin_bl I q (by simp))
    | bl j => cases ry; exact PySem.EqNone.ne_none_bool (fin_bl I q (by simp))
    | int j => obtain ⟨t', rfl⟩ := ry; exact PySem.EqNone.ne_none_int (fin_bl I q (by simp))
    | str j => obtain ⟨t', rfl⟩ := ry; exact PySem.EqNone.ne_none_str (fin_bl I q (by simp))
    | _ => exact absurd (show false = true from hs) Bool.false_ne_true
  | bl i =>
    cases rx
    cases y with
    | non => cases ry; exact PySem.EqNone.ne_bool_none (fin_bl I q (by simp))
    | bl j => cases ry; exact ne_bool (fin_bl I q (congrArg not dec_bl))
    | str j => obtain ⟨t', rfl⟩ := ry; exact PySem.EqMixed.ne_bool_str (fin_bl I q (by simp))
    | _ => exact absurd (show false = true from hs) Bool.false_ne_true
  | int i =>
    obtain ⟨t, rfl⟩ := rx
    cases y with
    | non => cases ry; exact PySem.EqNone.ne_int_none (fin_bl I q (by simp))
    | int j => obtain ⟨t', rfl⟩ := ry; exact ne_int (fin_bl I q (congrArg not dec_int))
    | str j => obtain ⟨t', rfl⟩ := ry; exact PySem.EqMixed.ne_int_str (fin_bl I q (by simp))
    | _ => exact absurd (show false = true from hs) Bool.false_ne_true
  | str i =>
    obtain ⟨t, rfl⟩ := rx
    cases y with
    | non => cases ry; exact PySem.EqNone.ne_str_none (fin_bl I q (by simp))
    | bl j => cases ry; exact PySem.EqMixed.ne_str_bool (fin_bl I q (by simp))
    | int j => obtain ⟨t', rfl⟩ := ry; exact PySem.EqMixed.ne_str_int (fin_bl I q (by simp))
    | str j => obtain ⟨t', rfl⟩ := ry; exact ne_str (fin_bl I q (congrArg not dec_str))
    | _ => exact absurd (show false = true from hs) Bool.false_ne_true
  | byt i =>
    obtain ⟨t, rfl⟩ := rx
    cases y with
    | byt j => obtain ⟨t', rfl⟩ := ry; exact PySem.W.ne_bytes (fin_bl I q (congrArg not dec_byt))
    | _ => exact absurd (show false = true from hs) Bool.false_ne_true
  | _ => cases y <;> exact absurd (show false = true from hs) Bool.false_ne_true
theorem op_lt : OpR X (compareOp .Lt) (rI0 fun i j => .bl (decide (i < j))) := opB0 fun _ _ _ _ _ _ _ q => lt_int q
theorem op_le : OpR X (compareOp .LtE) (rI0 fun i j => .bl (decide (i ≤ j))) := opB0 fun _ _ _ _ _ _ _ q => le_int q
theorem op_gt : OpR X (compareOp .Gt) (rI0 fun i j => .bl (decide (j < i))) := opB0 fun _ _ _ _ _ _ _ q => gt_int q
theorem op_ge : OpR X (compareOp .GtE) (rI0 fun i j => .bl (decide (j ≤ i))) := opB0 fun _ _ _ _ _ _ _ q => ge_int q
theorem op_isN : OpR X (compareOp .Is) (fun x y H Q => y = .non ∧ Q (.bl (decide (x = .non))) H) := by
  intro pins s σ H x y v u Q I rx ry h
  obtain ⟨rfl, q⟩ := h
  cases ry
  refine is_none_gen (fin_bl I q ?_)
  cases x <;> first
    | (cases rx; rfl)
    | (obtain ⟨t, rfl⟩ := rx; rfl)
theorem nomark (b : Expr) {op : CmpOp} (h : op ≠ .In := by decide) (h2 : op ≠ .NotIn := by decide) : behindInMarks op b = false := by
  have e1 : (op == CmpOp.In) = false := by cases op <;> first | rfl | exact absurd rfl h
  have e2 : (op == CmpOp.NotIn) = false := by cases op <;> first | rfl | exact absurd rfl h2
  cases b <;> simp [behindInMarks, e1, e2]
theorem pe_cmpR {op : CmpOp} {r : R2} (ho : OpR X (compareOp op) r) (ha : PE X a ta) (hb : PE X b tb) (hm : behindInMarks op b = false) : PE X (.Compare a [op] [b] pos) (tOp r ta tb) := by
  intro pins s σ H Q I h
  exact wpAny_Compare1 (binT ha hb I h fun v u s2 x y H2 I2 rx ry q => ho pins s2 σ H2 x y v u Q I2 rx ry q) hm
def tTest (t : TE) : TT := fun σ H Q => t σ H fun x H' => ∃ k, x = .bl k ∧ Q k H'
theorem pt_cmpR {op : CmpOp} {r : R2} (ho : OpR X (compareOp op) r) (ha : PE X a ta) (hb : PE X b tb) (hm : behindInMarks op b = false) : PT X (.Compare a [op] [b] pos) (tTest (tOp r ta tb)) := by
  intro pins s σ H Q I h
  refine wpAny_isTrue_Compare1 (thn (ha pins s σ H _ I h) fun v s1 ⟨x, H1, I1, r1, q1⟩ => thn (hb pins s1 σ H1 _ I1 q1) fun u s2 ⟨y, H2, I2, r2, q2⟩ =>
    thn (ho pins s2 σ H2 x y v u _ I2 r1 r2 q2) fun c s3 ⟨z, H3, I3, r3, k, e, q3⟩ => ?_) hm
  subst e
  cases r3
  exact wpAny_truthy_bool ⟨H3, I3, q3⟩
theorem line63 : (sizeLine : Nat) < 2 ^ 63 := by rw [sizeLine_eq]; decide
theorem vals1 {x : V} {us : List Value} (r : Vals [x] us) : ∃ u, us = [u] ∧ RelV x u := by
  cases r with
  | cons r1 r2 => cases r2; exact ⟨_, rfl, r1⟩
theorem vals2 {x y : V} {us : List Value} (r : Vals [x, y] us) : ∃ u w', us = [u, w'] ∧ RelV x u ∧ RelV y w' := by
  cases r with
  | cons r1 r2 =>
    cases r2 with
    | cons r3 r4 => cases r4; exact ⟨_, _, rfl, r1, r3⟩
theorem call_abs : CallR X (.builtin "abs") (fun xs H Q => ∃ i, xs = [.int i] ∧ Q (.int (if i < 0 then -i else i)) H) := by
  intro pins s σ H xs us Q I r h
  obtain ⟨i, rfl, q⟩ := h
  obtain ⟨u, rfl, t, rfl⟩ := vals1 r
  exact call_abs_int fun u tk => ⟨.int (if i < 0 then -i else i), H, I.tok _, ⟨_, rfl⟩, q⟩
theorem call_max2 (hc : X.calm = true) : CallR X (.builtin "max") (fun xs H Q => ∃ i j, xs = [.int i, .int j] ∧ Q (.int (if j > i then j else i)) H) := by
  intro pins s σ H xs us Q I r h
  obtain ⟨i, j, rfl, q⟩ := h
  obtain ⟨u, w', rfl, ⟨t, rfl⟩, ⟨t', rfl⟩⟩ := vals2 r
  refine max_two_ints (I.ok.hd hc) fun h' tk k => ⟨_, H, I.kept k, ?_, q⟩
  by_cases hj : j > i
  · rw [if_pos hj, if_pos hj]; exact ⟨_, rfl⟩
  · rw [if_neg hj, if_neg hj]; exact ⟨_, rfl⟩
theorem call_min2 (hc : X.calm = true) : CallR X (.builtin "min") (fun xs H Q => ∃ i j, xs = [.int i, .int j] ∧ Q (.int (if j < i then j else i)) H) := by
  intro pins s σ H xs us Q I r h
  obtain ⟨i, j, rfl, q⟩ := h
  obtain ⟨u, w', rfl, ⟨t, rfl⟩, ⟨t', rfl⟩⟩ := vals2 r
  refine min_two_ints (I.ok.hd hc) fun h' tk k => ⟨_, H, I.kept k, ?_, q⟩
  by_cases hj : j < i
  · rw [if_pos hj, if_pos hj]; exact ⟨_, rfl⟩
  · rw [if_neg hj, if_neg hj]; exact ⟨_, rfl⟩
end
structure Room (k : Nat) (A : Around) : Prop where
  hd : A.handled = none
  dp : A.depth + 3 * k + 5 < recursionLimit
  un : A.units + 16 * k + 200 < cLine
theorem Room.mono {j k : Nat} {A : Around} (r : Room k A) (h : j ≤ k) : Room j A := ⟨r.hd, by have := r.dp; (first | lia | omega), by have := r.un; (first | lia | omega)⟩
theorem Room.deeper {k : Nat} {A : Around} (r : Room (k + 1) A) (env : Env) : Room k (A.deeper env) :=
  ⟨r.hd, by have := r.dp; show A.depth + 1 + 3 * k + 5 < _; (first | lia | omega), by have := r.un; show A.units + 3 + 16 * k + 200 < _; (first | lia | omega)⟩
theorem Room.depth {k : Nat} {A : Around} (r : Room k A) : A.depth < recursionLimit := by have := r.dp; (first | lia | omega)
theorem Room.units {k : Nat} {A : Around} (r : Room k A) : A.units + 64 < cLine := by have := r.un; (first | lia | omega)
def tNil : TA := fun _ H Q => Q [] H
def tCons (ta : TE) (tr : TA) : TA := fun σ H Q => ta σ H fun x H1 => tr σ H1 fun xs H2 => Q (x :: xs) H2
section
variable {X : Cx} {e : Expr} {es : List Expr} {te : TE} {t : TA} {pos : Pos}
theorem pa_nil : PA X [] tNil := fun _ _ _ _ H Q I h => Calls.spliced_nil ⟨[], H, I, .nil, h⟩
theorem pa_cons (ha : PE X e te) (hr : PA X es t) (hs : starEach (e :: es) X.env = (false, eval e X.env) :: starEach es X.env := by rfl) : PA X (e :: es) (tCons te t) := by
  intro pos pins s σ H Q I h
  rw [hs]
  show wpAny _ _ (spliced ((false, eval e X.env) :: backTo pos (starEach es X.env))) _ _ s
  refine Calls.spliced_cons (thn (ha pins s σ H _ I h) fun u s1 ⟨x, H1, I1, r1, q1⟩ => ?_)
  exact thn (hr pos pins s1 σ H1 _ I1 q1) fun us s2 ⟨xs, H2, I2, r2, q2⟩ => ⟨x :: xs, H2, I2, .cons r1 r2, q2⟩
def tTup (t : TA) : TE := fun σ H Q => t σ H fun xs H1 => xs.length ≤ sizeLine ∧ ∀ p, H1 p = none → Q (.ref p) (upd H1 p (.tup xs))
def tLst (t : TA) : TE := fun σ H Q => t σ H fun xs H1 => xs.length ≤ sizeLine ∧ ∀ p, H1 p = none → Q (.ref p) (upd H1 p (.lst xs))
theorem pe_tup {x1} (h : PA X es t) : PE X (.Tuple es x1 pos) (tTup t) := by
  intro pins s σ H Q I hq
  refine wpAny_Tuple_spliced (thn (h pos pins s σ H _ I hq) fun us s1 ⟨xs, H1, I1, r, z, q⟩ => ⟨by rw [← r.length]; exact z, ?_⟩)
  have hf : H1 s1.heap.objs.size = none := I1.hok.fresh (Nat.le_refl _)
  refine ⟨.ref s1.heap.objs.size, upd H1 s1.heap.objs.size (.tup xs), I1.laid (t' := s1.toks) (fun b u e => Heap.get?_push_of_some _ e) (Nat.le_refl _) ?_, rfl, q _ hf⟩
  exact ⟨z, us, r, ⟨_, Heap.get?_push_size _ rfl, rfl, _, rfl⟩⟩
theorem pe_lst (h : PA X es t) : PE X (.List es pos) (tLst t) := by
  intro pins s σ H Q I hq
  refine wpAny_List_spliced (thn (h pos pins s σ H _ I hq) fun us s1 ⟨xs, H1, I1, r, z, q⟩ => ⟨by rw [← r.length]; exact z, ?_⟩)
  have hf : H1 s1.heap.objs.size = none := I1.hok.fresh (Nat.le_refl _)
  refine ⟨.ref s1.heap.objs.size, upd H1 s1.heap.objs.size (.lst xs), I1.laid (t' := s1.toks) (fun b u e => Heap.get?_push_of_some _ e) (Nat.le_refl _) ?_, rfl, q _ hf⟩
  exact ⟨z, us, 0, r, Heap.get?_push_size _ rfl⟩
end
abbrev Sp := List V → Hp → VK → XK → Prop
abbrev CXT := List Env → Hp → Shared → XK → Value → Shared → Prop
structure Env0 (P : Program) (w : World) (K : PySem.W.Frag) (mg : Str → Option Value) (base : Heap) (A : Around) (outer : List Env) (s : Shared) (H : Hp) : Prop where
  frames : A.frames = some outer
  mod : Mod K mg base
  bs : ∀ b o, base.get? b = some o → s.heap.get? b = some o ∧ H b = none
  bsz : base.objs.size ≤ s.heap.objs.size
  funs : s.heap.FunFrames base outer
  frf : ∀ b ∈ frs outer, H b = none
  hok : HOk P w H s.heap
  bare : AllBare s.gens
def CE (outer : List Env) (P : Program) (w : World) (H : Hp) (s : Shared) (Q : VK) (u : Value) (s' : Shared) : Prop :=
  ∃ v H', s'.os = s.os ∧ AllBare s'.gens ∧ Un (frs outer) [] H H' s.heap s'.heap ∧ HOk P w H' s'.heap ∧ RelV v u ∧ Q v H'
def CR (CX : CXT) (outer : List Env) (P : Program) (w : World) (H : Hp) (s : Shared) (Q : VK) (E : XK) (r : Result) (s' : Shared) : Prop :=
  match r with
  | .ok (.ret u) => CE outer P w H s Q u s'
  | .ok _ => False
  | .error e => CX outer H s E e s'
structure FnOk (P : Program) (w : World) (K : PySem.W.Frag) (mg : Str → Option Value) (base : Heap) (CX : CXT) (k : Nat) (f : Addr) (fd : FuncData) (ps : List Str) (sp : Sp) : Prop where
  len : ∀ vs H Q E, sp vs H Q E → vs.length = ps.length
  run : ∀ (A : Around) (outer : List Env) (s : Shared) (H : Hp) (args : Args) (us : List Value) (vs : List V) (Q : VK) (E : XK), Room k A → Env0 P w K mg base A outer s H → BindsTo s fd args (ps.zip us) → Vals vs us → sp vs H Q E →
    codeAny (model P w) A (.call (.ref f) args) (CR CX outer P w H s Q E) s
section
variable {X : Cx} {pins : List (Addr × Obj)} {σ : St} {H : Hp} {s s' : Shared}
theorem Inv.env0 (I : Inv X pins σ H s) : Env0 X.prog X.w X.K X.mg X.base X.A X.stack s H :=
  ⟨I.ok.frames, I.ok.mod, I.bs, Nat.le_trans I.ok.bsz I.sz, I.stack, I.stkFree, I.hok, I.bare⟩
theorem Inv.after {Q : VK} {u : Value} (I : Inv X pins σ H s) (h : CE X.stack X.prog X.w H s Q u s') : EP X pins σ Q u s' := by
  obtain ⟨v, H', os, bare, un, hok, r, q⟩ := h
  obtain ⟨hh, g, d, t, os'⟩ := s'
  obtain rfl : os' = s.os := os
  exact ⟨v, H', I.call (h' := hh) (g' := g) (d' := d) (t' := t) (ch := []) un hok bare (fun b z => absurd z (by simp)), r, q⟩
end
def tCall (sp : Sp) (dvs : List V) (E : XK) (t : TA) : TE := fun σ H Q => t σ H fun vs H1 => sp (vs ++ dvs) H1 Q E
def Binds (K : PySem.W.Frag) (fd : FuncData) (ps : List Str) (ds : List Value) : Prop :=
  ∀ (s : Shared) (us : List Value), K.In s.heap → (us ++ ds).length = ps.length → BindsTo s fd ⟨us, []⟩ (ps.zip (us ++ ds))
theorem Binds.all {K : PySem.W.Frag} {fd : FuncData} {ps : List Str} (h : ∀ us : List Value, us.length = ps.length → bindArgs fd ⟨us, []⟩ = pure (ps.zip us)) : Binds K fd ps [] := fun s us _ hl => by
  rw [List.append_nil] at hl ⊢
  exact .of_eq (h us hl)
def Passes (CX : CXT) (X : Cx) (E : XK) : Prop := ∀ (pins : List (Addr × Obj)) (σ : St) (H : Hp) (s : Shared) (e : Value) (s' : Shared), Inv X pins σ H s → CX X.stack H s E e s' → X.xe e s'
section
variable {X : Cx} {CX : CXT} {k : Nat} {f C : Addr} {fd : FuncData} {ps : List Str} {sp : Sp} {dvs : List V} {ds : List Value} {E : XK} {x m : Str} {p pos apos : Pos} {e o : Expr} {es : List Expr} {ta : TE} {t : TA}
theorem run_fn {pins : List (Addr × Obj)} {σ : St} {H : Hp} {s : Shared} {Q : VK} {us : List Value} {vs : List V} (F : FnOk X.prog X.w X.K X.mg X.base CX k f fd ps sp) (hr : Room k X.A) (hb : Binds X.K fd ps ds) (hd : Vals dvs ds) (hx : Passes CX X E)
    (I : Inv X pins σ H s) (r : Vals vs us) (h : sp (vs ++ dvs) H Q E) : wpAny (model X.prog X.w) X.A (call (.ref f) us) (EP X pins σ Q) X.xe s := by
  have r2 : Vals (vs ++ dvs) (us ++ ds) := r.append hd
  have hl : (us ++ ds).length = ps.length := by rw [← r2.length]; exact F.len _ _ _ _ h
  refine wpAny_call (codeAny_mono (F.run X.A X.stack s H ⟨us, []⟩ (us ++ ds) (vs ++ dvs) Q E hr I.env0 (hb s us I.kIn hl) r2 h) fun r s' hq => ?_)
  cases r with
  | error e => exact hx pins σ H s e s' I hq
  | ok fl =>
    cases fl with
    | ret u => exact I.after hq
    | next => exact False.elim hq
    | brk => exact False.elim hq
    | cont => exact False.elim hq
theorem pe_call (F : FnOk X.prog X.w X.K X.mg X.base CX k f fd ps sp) (hr : Room k X.A) (hg : Gl X x) (hm : X.mg x = some (.ref f)) (hk : PySem.W.keepIn X.K (.ref f) = true) (hb : Binds X.K fd ps ds) (hd : Vals dvs ds) (hx : Passes CX X E)
    (ha : PA X (e :: es) t) (hdb : (x == ("__debug__" : Str)) = false := by decide) (he : starEach (e :: es) X.env = (false, eval e X.env) :: starEach es X.env := by rfl) (hpl : (backTo pos (starEach es X.env)).any (·.1) = false := by rfl) :
    PE X (.Call (.Name x p) (e :: es) [] pos) (tCall sp dvs E t) := by
  intro pins s σ H Q I h
  refine wpAny_Call_Name_kw (ld_glob I hg hm ?_ hdb)
  refine PySem.W.callWith_K (h₀ := X.base) I.ok.mod.kin hk (thn (ha pos pins s σ H _ I h) fun us s1 ⟨vs, H1, I1, r, q⟩ => ⟨I1.kIn, ?_⟩) he hpl
  exact run_fn F hr hb hd hx I1 r q
end
structure FnScope (N P : List Str) (sc : Scope) : Prop where
  kind : sc.kind = .function
  co : sc.isCoroutine = false
  gen : sc.isGenerator = false
  nd : N.Nodup
  pre : N.take P.length = P
  par : ∀ x ∈ P, sc.names.lookup x = some .local ∨ sc.names.lookup x = some .cell
  nofree : ∀ y ∈ sc.names, y.2 ≠ .free
theorem bindL_out {kindOf : Str → Option NameKind} {x : Str} : ∀ {binds : List (Str × Value)} {m : Str → Option Value}, (∀ v, (x, v) ∉ binds) → bindL kindOf binds m x = m x
  | [], _, _ => rfl
  | (n, v) :: r, m, h => by
    unfold bindL
    rw [bindL_out fun w hw => h w (List.mem_cons_of_mem _ hw)]
    split
    · have : x ≠ n := by rintro rfl; exact h v List.mem_cons_self
      simp [this]
    · rfl
theorem bindC_out {kindOf : Str → Option NameKind} {x : Str} : ∀ {binds : List (Str × Value)} {m : Str → Option Value}, (∀ v, (x, v) ∉ binds) → bindC kindOf binds m x = m x
  | [], _, _ => rfl
  | (n, v) :: r, m, h => by
    unfold bindC
    rw [bindC_out fun w hw => h w (List.mem_cons_of_mem _ hw)]
    split
    · rfl
    · have : x ≠ n := by rintro rfl; exact h v List.mem_cons_self
      simp [this]
theorem bindL_get {kindOf : Str → Option NameKind} {x : Str} {v : Value} : ∀ {P : List Str} {vs : List Value} {i : Nat} {m : Str → Option Value}, P.Nodup → P[i]? = some x → vs[i]? = some v → kindOf x = some .local →
    bindL kindOf (P.zip vs) m x = some v
  | [], _, _, _, _, h, _, _ => by simp at h
  | _ :: _, [], _, _, _, _, h, _ => by simp at h
  | p :: P, w :: vs, 0, m, nd, h1, h2, hk => by
    simp at h1 h2; subst h1; subst h2
    show bindL kindOf ((p, w) :: P.zip vs) m p = _
    unfold bindL
    rw [bindL_out fun v hv => (List.nodup_cons.mp nd).1 (List.of_mem_zip hv).1, if_pos hk]
    simp
  | p :: P, w :: vs, i + 1, m, nd, h1, h2, hk => by
    show bindL kindOf ((p, w) :: P.zip vs) m x = _
    unfold bindL
    exact bindL_get (i := i) (List.nodup_cons.mp nd).2 (by simpa using h1) (by simpa using h2) hk
theorem bindC_get {kindOf : Str → Option NameKind} {x : Str} {v : Value} : ∀ {P : List Str} {vs : List Value} {i : Nat} {m : Str → Option Value}, P.Nodup → P[i]? = some x → vs[i]? = some v → kindOf x ≠ some .local →
    bindC kindOf (P.zip vs) m x = some v
  | [], _, _, _, _, h, _, _ => by simp at h
  | _ :: _, [], _, _, _, _, h, _ => by simp at h
  | p :: P, w :: vs, 0, m, nd, h1, h2, hk => by
    simp at h1 h2; subst h1; subst h2
    show bindC kindOf ((p, w) :: P.zip vs) m p = _
    unfold bindC
    rw [bindC_out fun v hv => (List.nodup_cons.mp nd).1 (List.of_mem_zip hv).1, if_neg hk]
    simp
  | p :: P, w :: vs, i + 1, m, nd, h1, h2, hk => by
    show bindC kindOf ((p, w) :: P.zip vs) m x = _
    unfold bindC
    exact bindC_get (i := i) (List.nodup_cons.mp nd).2 (by simpa using h1) (by simpa using h2) hk
def start (N : List Str) (vs : List V) : St := vs.map some ++ List.replicate (N.length - vs.length) none
def cxOf (CX : CXT) (P : Program) (w : World) (K : PySem.W.Frag) (mg : Str → Option Value) (base : Heap) (N : List Str) (qual : Str) (scope : Scope) (f : Addr) (cd : Value) (A : Around) (outer : List Env) (s : Shared) (H : Hp) (E : XK) : Cx where
  prog := P
  w := w
  K := K
  mg := mg
  base := base
  A := A.deeper (envOfC qual scope s.heap.objs.size f cd)
  N := N
  s₀ := s
  H₀ := H
  env := envOfC qual scope s.heap.objs.size f cd
  outer := outer
  stack := envOfC qual scope s.heap.objs.size f cd :: outer
  ex := []
  calm := true
  fn := fun _ => true
  pn := []
  xe := fun e s' => wpAny (model P w) (A.deeper (envOfC qual scope s.heap.objs.size f cd)) (leaving (envOfC qual scope s.heap.objs.size f cd) e) (fun _ s'' => CX outer H s E e s'') (fun e' s'' => CX outer H s E e' s'') s'
theorem cell_has {sc : Scope} {n : Nat} {x : Str} (h : sc.names.lookup x = some .cell) : ∃ c, (cellsFrom n sc.names []).lookup x = some c := by
  have q := PySem.W.cellsFrom_some sc.names n [] (.inl h)
  exact Option.isSome_iff_exists.mp q
theorem inv_start {CX : CXT} {P : Program} {w : World} {K : PySem.W.Frag} {mg : Str → Option Value} {base : Heap} {N ps : List Str} {qual : Str} {scope : Scope} {f : Addr} {cd : Value} {A : Around} {outer : List Env} {s s1 : Shared} {H : Hp} {E : XK} {us : List Value} {vs : List V}
    (S : FnScope N ps scope) (hd : A.handled = none) (e0 : Env0 P w K mg base A outer s H) (hl : vs.length = ps.length) (r : Vals vs us)
    (x : InCallC s s.heap.objs.size (bindL (envOfC qual scope s.heap.objs.size f cd).kindOf (ps.zip us) fun _ => none) (cellsFrom (s.heap.objs.size + 1) scope.names []) (bindC (envOfC qual scope s.heap.objs.size f cd).kindOf (ps.zip us) fun _ => none) s1) :
    Inv (cxOf CX P w K mg base N qual scope f cd A outer s H E) [] (start N vs) H s1 := by
  have hpl : ps.length ≤ N.length := by have := congrArg List.length S.pre; rw [List.length_take] at this; (first | lia | omega)
  obtain ⟨h1, tk, rfl, hk⟩ := x.done
  have noA : ∀ b : Addr, b ∉ (cxOf CX P w K mg base N qual scope f cd A outer s H E).ex := fun b z => absurd (show b ∈ ([] : List Addr) from z) (by simp)
  refine ⟨⟨e0.mod, S.kind, rfl, rfl, Nat.le_refl _, fun y z c h1 h2 => ?_, fun y hy => ?_, fun y c _ h => ?_, fun _ => hd, Around.frames_deeper e0.frames, .inr ⟨rfl, rfl⟩, fun b z => absurd z (noA b), e0.bs, e0.bsz, fun b _ _ => noA b, fun b z => absurd z (noA b), e0.funs, e0.frf⟩,
    rfl, e0.bare, Un.kept hk, ⟨_, x.toInCall.ns, fun i y v h1 h2 h3 => ?_⟩, fun y c h => ⟨_, x.cell y c h⟩, e0.hok.fresh (Nat.le_refl _), fun y c h => ?_, fun p hp => absurd (show p ∈ ([] : List (Addr × Obj)) from hp) (by simp), e0.hok.kept hk, ?_⟩
  · exact name_of_addr x.apart (PySem.mem_of_lookup h1) (PySem.mem_of_lookup h2)
  · have hy : scope.names.lookup y = some .cell ∨ scope.names.lookup y = some .free := hy
    rcases hy with hy | hy
    · exact cell_has hy
    · exact absurd rfl (S.nofree _ (PySem.mem_of_lookup hy))
  · exact Nat.le_of_lt (x.above y c (PySem.mem_of_lookup h))
  · have hi : i < vs.length := by
      unfold start at h2
      by_cases hi : i < vs.length
      · exact hi
      · rw [List.getElem?_append_right (by simpa using hi)] at h2
        rw [List.getElem?_replicate] at h2
        split at h2 <;> cases h2
    have ha : vs[i]? = some v := by
      unfold start at h2
      rw [List.getElem?_append_left (by simpa using hi), List.getElem?_map] at h2
      cases e : vs[i]? with
      | none => rw [e] at h2; cases h2
      | some a => rw [e] at h2; cases h2; rfl
    obtain ⟨u, hu, rv⟩ := r.get ha
    have hp : ps[i]? = some y := by
      rw [← S.pre, List.getElem?_take_of_lt (by (first | lia | omega))]; exact h1
    have ndP : ps.Nodup := by rw [← S.pre]; exact S.nd.sublist (List.take_sublist _ _)
    refine ⟨u, rv, ?_⟩
    rcases S.par y (List.mem_of_getElem? hp) with k | k
    · exact .inl ⟨k, bindL_get ndP hp hu k⟩
    · obtain ⟨c, e⟩ := cell_has (n := s.heap.objs.size + 1) k
      refine .inr ⟨.inl k, c, e, ?_⟩
      have q := x.cell y c e
      rw [bindC_get ndP hp hu (by show scope.names.lookup y ≠ _; rw [k]; decide)] at q
      exact q
  · exact e0.hok.fresh (Nat.le_of_lt (x.above y c (PySem.mem_of_lookup h)))
  · unfold start
    show _ = N.length
    rw [List.length_append, List.length_map, List.length_replicate]
    (first | lia | omega)
theorem fn_of {CX : CXT} {P : Program} {w : World} {K : PySem.W.Frag} {mg : Str → Option Value} {base : Heap} {k : Nat} {f : Addr} {name qual : Str} {params : Arguments} {body : List Stmt} {scope : Scope} {dV kV doc pm cdv ct oc : Value} {an od : Option Addr}
    {osl : Array (Option Value)} {N ps : List Str} {sp : Sp} (lk : K.lookup f = some ⟨oc, od, .func (PySem.W.fnOf name qual params body scope dV kV doc pm an cdv ct), osl⟩) (hcd : PySem.W.codeIn K cdv qual = true) (S : FnScope N ps scope)
    (len : ∀ vs H Q E, sp vs H Q E → vs.length = ps.length)
    (hbody : ∀ (A : Around) (outer : List Env) (s : Shared) (H : Hp) (vs : List V) (Q : VK) (E : XK), Room k (A.deeper (envOfC qual scope s.heap.objs.size f cdv)) → sp vs H Q E →
      ∃ t, PSs (cxOf CX P w K mg base N qual scope f cdv A outer s H E) body t ∧ t { nx := fun _ H' => Q .non H', rt := Q } (start N vs) H) :
    FnOk P w K mg base CX (k + 1) f (PySem.W.fnOf name qual params body scope dV kV doc pm an cdv ct) ps sp := by
  refine ⟨len, fun A outer s H args us vs Q E hr e0 hb r hsp => ?_⟩
  have hl := len _ _ _ _ hsp
  have KX : K.In s.heap := e0.mod.kin.keeps fun b o e => (e0.bs b o e).1
  have lim : s.heap.NoLimit := e0.mod.nolimit.keeps fun b o e => (e0.bs b o e).1
  have hkind : ∀ y ∈ ps.zip us, scope.names.lookup y.1 = some .local ∨ (scope.names.lookup y.1 = some .cell ∧ ((cellsFrom (s.heap.objs.size + 1) scope.names []).lookup y.1).isSome = true) := fun ⟨n, v⟩ hy => by
    rcases S.par n (List.of_mem_zip hy).1 with q | q
    · exact .inl q
    · exact .inr ⟨q, PySem.W.cellsFrom_some _ _ _ (.inl q)⟩
  refine codeAny_call_function hr.depth (KX _ _ lk) rfl S.co S.gen rfl (PySem.W.codeRec_of KX hcd) (hb _ _ _ _ ?_)
  refine wpAny_newFunctionEnv_cells S.kind hkind fun env he s1 x => ?_
  subst he
  refine ⟨lim.keeps x.toInCall.keep, codeAny_func ?_⟩
  obtain ⟨t, ht, hq⟩ := hbody A outer s H vs Q E (hr.deeper _) hsp
  have I : Inv (cxOf CX P w K mg base N qual scope f cdv A outer s H E) [] (start N vs) H s1 := inv_start S hr.hd e0 hl r x
  refine wpAny_mono (ht [] s1 (start N vs) H _ I hq) (fun fl s' hs => ?_) fun e s' hs => hs
  have fin : ∀ {σ' : St} {H' : Hp} {v : V} {u : Value}, Inv (cxOf CX P w K mg base N qual scope f cdv A outer s H E) [] σ' H' s' → RelV v u → Q v H' → CE outer P w H s Q u s' :=
    fun {σ' H' v u} J rv q => ⟨v, H', J.os, J.bare, J.base, J.hok, rv, q⟩
  cases fl with
  | ret u =>
    obtain ⟨v, σ', H', J, rv, q⟩ := hs
    exact fin J rv q
  | next =>
    obtain ⟨σ', H', J, q⟩ := hs
    exact fin (v := V.non) (u := Value.none) J rfl q
  | brk =>
    obtain ⟨_, _, _, q⟩ := hs
    exact False.elim q
  | cont =>
    obtain ⟨_, _, _, q⟩ := hs
    exact False.elim q
section
variable {X : Cx} {x : Str} {p pos : Pos} {e : Expr} {es : List Expr} {t : TA} {id T : String} {r : List V → Hp → VK → Prop}
def tCB (r : List V → Hp → VK → Prop) (t : TA) : TE := fun σ H Q => t σ H fun vs H1 => r vs H1 Q
theorem pe_callB (hc : CallR X (.builtin id) r) (hg : Gl X x) (hm : X.mg x = none) (hv : bootBuiltins x = some (.builtin id)) (ha : PA X (e :: es) t) (hn : x ≠ "__name__" := by decide) (hdb : (x == ("__debug__" : Str)) = false := by decide)
    (he : starEach (e :: es) X.env = (false, eval e X.env) :: starEach es X.env := by rfl) (hpl : (backTo pos (starEach es X.env)).any (·.1) = false := by rfl) : PE X (.Call (.Name x p) (e :: es) [] pos) (tCB r t) := by
  intro pins s σ H Q I h
  refine wpAny_Call_Name_kw (ld_blt I hg hm hv ?_ hn hdb)
  exact PyProof.Rows.callWith_builtin1 (thn (ha pos pins s σ H _ I h) fun us s1 ⟨vs, H1, I1, r1, q1⟩ => hc pins s1 σ H1 vs us Q I1 r1 q1) he hpl
theorem pe_callTy (hc : CallR X (.type T) r) (hg : Gl X x) (hm : X.mg x = none) (hv : bootBuiltins x = some (.type T)) (ha : PA X (e :: es) t) (hn : x ≠ "__name__" := by decide) (hdb : (x == ("__debug__" : Str)) = false := by decide)
    (he : starEach (e :: es) X.env = (false, eval e X.env) :: starEach es X.env := by rfl) (hpl : (backTo pos (starEach es X.env)).any (·.1) = false := by rfl) : PE X (.Call (.Name x p) (e :: es) [] pos) (tCB r t) := by
  intro pins s σ H Q I h
  refine wpAny_Call_Name_kw (ld_blt I hg hm hv ?_ hn hdb)
  exact PyProof.Rows.callWith_type1 (thn (ha pos pins s σ H _ I h) fun us s1 ⟨vs, H1, I1, r1, q1⟩ => hc pins s1 σ H1 vs us Q I1 r1 q1) he hpl
end
end L2
namespace HT
open PySem PyProof.Rows
section
variable {prog : Program} {w : World} {A : Around} {E : Value → Shared → Prop} {s : Shared}
def sIx (n d : Nat) : Option Int → Nat
  | none => d
  | some v => if v < 0 then (v + (n : Int)).toNat else min v.toNat n
theorem sIx_none (n d : Nat) : sIx n d none = d := rfl
theorem sIx_nat (n d k : Nat) : sIx n d (some (k : Int)) = min k n := by
  show (if (k : Int) < 0 then ((k : Int) + (n : Int)).toNat else min (k : Int).toNat n) = min k n
  rw [if_neg (by (first | lia | omega)), Int.toNat_natCast]
theorem sIx_le (n d : Nat) (hd : d ≤ n) (o : Option Int) : sIx n d o ≤ n := by
  cases o with
  | none => exact hd
  | some v =>
    show (if v < 0 then (v + (n : Int)).toNat else min v.toNat n) ≤ n
    by_cases hv : v < 0
    · rw [if_pos hv]; (first | lia | omega)
    · rw [if_neg hv]; exact Nat.min_le_right _ _
theorem clip_eq (v : Int) (n d : Nat) : (if v < 0 then max (v + (n : Int)) 0 else min v (n : Int)) = ((sIx n d (some v) : Nat) : Int) := by
  show (if v < 0 then max (v + (n : Int)) 0 else min v (n : Int)) = (((if v < 0 then (v + (n : Int)).toNat else min v.toNat n) : Nat) : Int)
  by_cases hv : v < 0
  · simp only [if_pos hv]; (first | lia | omega)
  · simp only [if_neg hv]; (first | lia | omega)
theorem adjust_gen (lo hi : Option Int) (n : Nat) : Builtin.Slice.sliceAdjust lo hi 1 (n : Int) = (((sIx n 0 lo : Nat) : Int), ((sIx n n hi : Nat) : Int)) := by
  have h1 : ¬ ((1 : Int) < 0) := by (first | lia | omega)
  unfold Builtin.Slice.sliceAdjust
  simp only [h1, if_false]
  refine Prod.ext ?_ ?_
  · cases lo with
    | none => rfl
    | some v => exact clip_eq v n 0
  · cases hi with
    | none => rfl
    | some v => exact clip_eq v n n
theorem places_gen (i j : Nat) : Builtin.Slice.slicePlaces (i : Int) (j : Int) 1 = j - i := by
  unfold Builtin.Slice.slicePlaces
  have h1 : (1 : Int) > 0 := by (first | lia | omega)
  simp only [h1, if_true, Int.ediv_one]
  split <;> (first | lia | omega)
theorem slicePart_ {v : Value} {o : Option Int} {Q : Option Int → Shared → Prop} (p : IsPart v o) (h : Q o s) : wpAny (model prog w) A (Builtin.Slice.slicePartIndex v) Q E s := by
  cases p with
  | none => exact slicePart_none h
  | int i t => exact slicePart_int h
theorem sliceApplied_gen {sl : Addr} {vl vu : Value} {lo hi : Option Int} {n : Nat} {Q : Int × Int × Nat → Shared → Prop} (hs : s.heap.IsSliceOf sl vl vu .none) (pl : IsPart vl lo) (pu : IsPart vu hi)
    (h : Q (((sIx n 0 lo : Nat) : Int), 1, sIx n n hi - sIx n 0 lo) s) : wpAny (model prog w) A (Builtin.Slice.sliceApplied (.ref sl) (pure (n : Int))) Q E s := by
  obtain ⟨os, hos, hcs, hds⟩ := id hs
  unfold Builtin.Slice.sliceApplied Builtin.Slice.sliceFields
  refine wpAny_bind (wpAny_bind (wpAny_field hos hds (x := vl) rfl (wpAny_bind (wpAny_field hos hds (x := vu) rfl (wpAny_bind (wpAny_field hos hds (x := .none) rfl (wpAny_pure ?_)))))))
  refine wpAny_bind (slicePart_none ?_)
  show wpAny _ _ (if ((1 : Int) == 0) = true then _ else _) _ _ s
  rw [if_neg (by decide)]
  refine wpAny_bind (slicePart_ pl (wpAny_bind (slicePart_ pu (wpAny_bind (wpAny_pure ?_)))))
  show wpAny _ _ (match Builtin.Slice.sliceAdjust lo hi 1 (n : Int) with | (lo, hi) => pure (lo, (1 : Int), Builtin.Slice.slicePlaces lo hi 1)) _ _ s
  rw [adjust_gen lo hi n]
  show wpAny _ _ (pure (((sIx n 0 lo : Nat) : Int), (1 : Int), Builtin.Slice.slicePlaces ((sIx n 0 lo : Nat) : Int) ((sIx n n hi : Nat) : Int) 1)) _ _ s
  rw [places_gen]
  exact wpAny_pure h
theorem pick_gen (xs : Array Value) (i k : Nat) : ((List.range k).filterMap fun (m : Nat) => xs[((i : Int) + (m : Int) * 1).toNat]?).toArray = ((xs.toList.drop i).take k).toArray := by
  have e : (fun (m : Nat) => xs[((i : Int) + (m : Int) * 1).toNat]?) = fun m => xs[i + m]? := by
    funext m
    have : ((i : Int) + (m : Int) * 1).toNat = i + m := by (first | lia | omega)
    rw [this]
  rw [e]
  have := pick_run xs i k
  rw [List.filterMap_map] at this
  have e2 : ((fun x => xs[x]?) ∘ fun x => i + x) = fun m => xs[i + m]? := rfl
  rw [e2] at this
  rw [this]
theorem getItem_tuple_cut {t sl : Addr} {items : Array Value} {vl vu : Value} {lo hi : Option Int} {Q : Value → Shared → Prop} (ht : IsTup s.heap t items) (hs : s.heap.IsSliceOf sl vl vu .none) (pl : IsPart vl lo) (pu : IsPart vu hi)
    (hw : ¬ (sIx items.size 0 lo = 0 ∧ sIx items.size items.size hi = items.size))
    (h : Q (.ref s.heap.objs.size) { s with heap := s.heap.push { cls := .type "tuple", data := .seq ((items.toList.drop (sIx items.size 0 lo)).take (sIx items.size items.size hi - sIx items.size 0 lo)).toArray } })
    (hsz : items.size ≤ sizeLine) : wpAny (model prog w) A (getItem (.ref t) (.ref sl)) Q E s := by
  have htake : sizeOk (.seq ((items.toList.drop (sIx items.size 0 lo)).take (sIx items.size items.size hi - sIx items.size 0 lo)).toArray) := by
    show ((items.toList.drop (sIx items.size 0 lo)).take (sIx items.size items.size hi - sIx items.size 0 lo)).toArray.size ≤ sizeLine
    rw [List.size_toArray, List.length_take, List.length_drop, Array.length_toList]
    (first | lia | omega)
  have hj : sIx items.size items.size hi ≤ items.size := sIx_le _ _ (Nat.le_refl _) hi
  obtain ⟨os, hos, hcs, hds⟩ := id hs
  have hTs : s.TypeIs (.ref sl) "slice" := ⟨os, hos, hcs⟩
  unfold getItem
  try with_reducible refine wpAny_holding ?_
  first | refine wpAny_bind (wpAny_pure ?_) | skip
  refine wpAny_bind (wpAny_sequenceKey ht.typeIs (by decide) ?_)
  refine wpAny_bind (wpAny_callSpecial?_slot (name := Str.ofString "__getitem__") ht.typeIs PyProof.Rows.slot_tuple_getitem
    (wpAny_call_entry PyProof.Rows.slot_tuple_getitem ht.typeIs entry_tuple_getitem ?_ (args_tuple_getitem _ _)))
  show wpAny _ _ (Builtin.Tuple.tupleItemsOf (.ref t) >>= _) _ _ s
  refine wpAny_bind (tupleItemsOf_ ht ?_)
  refine wpAny_bind (wpAny_typeOf hTs ?_)
  rw [if_pos (by decide)]
  refine wpAny_bind (sliceApplied_gen hs pl pu ?_)
  have hno : ¬ ((((sIx items.size 0 lo : Nat) : Int) == 0 && (1 : Int) == 1 && (sIx items.size items.size hi - sIx items.size 0 lo) == items.size) = true) := by
    intro q
    rw [Bool.and_eq_true, Bool.and_eq_true] at q
    have q1 : ((sIx items.size 0 lo : Nat) : Int) = 0 := eq_of_beq q.1.1
    have q2 : sIx items.size items.size hi - sIx items.size 0 lo = items.size := eq_of_beq q.2
    exact hw ⟨by (first | lia | omega), by (first | lia | omega)⟩
  show wpAny _ _ (if (((sIx items.size 0 lo : Nat) : Int) == 0 && (1 : Int) == 1 && (sIx items.size items.size hi - sIx items.size 0 lo) == items.size) = true then _ else _) _ _ s
  rw [if_neg hno, pick_gen]
  first
    | exact wpAny_bind (m := Builtin.Tuple.tupleExact _) (wpAny_newObj_type (wpAny_pure ⟨_, rfl, wpAny_pure h⟩) htake)
    | exact wpAny_bind (m := Builtin.Tuple.tupleExact _) (wpAny_newObj_type (wpAny_bind (wpAny_pure (wpAny_pure ⟨_, rfl, wpAny_pure h⟩))) htake)
    | exact wpAny_bind (wpAny_bind (m := Builtin.Tuple.tupleExact _) (wpAny_newObj_type (wpAny_pure (wpAny_pure ⟨_, rfl, wpAny_pure h⟩)) htake))
    | exact wpAny_bind (wpAny_bind (m := Builtin.Tuple.tupleExact _) (wpAny_newObj_type (wpAny_pure ⟨_, rfl, wpAny_pure h⟩) htake))
end
end HT
namespace L2
open PySem PySem.Spec PyProof.Rows
abbrev TO := St → Hp → (Option Int → Hp → Prop) → Prop
def PO (X : Cx) (e : Option Expr) (t : TO) : Prop :=
  ∀ (pins : List (Addr × Obj)) (s : Shared) (σ : St) (H : Hp) (Q : Option Int → Hp → Prop), Inv X pins σ H s → t σ H Q →
    wpAny (model X.prog X.w) X.A (evalPart e X.env) (fun u s' => ∃ o H', Inv X pins σ H' s' ∧ IsPart u o ∧ Q o H') X.xe s
def tNoPart : TO := fun _ H Q => Q none H
def tPart (t : TE) : TO := fun σ H Q => t σ H fun x H1 => ∃ i, x = .int i ∧ Q (some i) H1
section
variable {X : Cx} {e : Expr} {te : TE} {lo hi : Option Expr} {tl th : TO} {pos p2 : Pos}
theorem po_none : PO X none tNoPart := by
  intro pins s σ H Q I h
  rw [evalPart_none]
  exact wpAny_pure ⟨none, H, I, .none, h⟩
theorem po_some (h : PE X e te) : PO X (some e) (tPart te) := by
  intro pins s σ H Q I hw
  rw [evalPart_some]
  refine thn (h pins s σ H _ I hw) fun u s1 ⟨x, H1, I1, r1, q1⟩ => ?_
  obtain ⟨i, rfl, q⟩ := q1
  obtain ⟨t, rfl⟩ := r1
  exact ⟨some i, H1, I1, .int i t, q⟩
def SlR (X : Cx) (r : V → Option Int → Option Int → Hp → VK → Prop) : Prop :=
  ∀ (pins : List (Addr × Obj)) (s : Shared) (σ : St) (H : Hp) (x : V) (v vl vu : Value) (lo hi : Option Int) (sl : Addr) (Q : VK), Inv X pins σ H s → RelV x v → s.heap.IsSliceOf sl vl vu .none → IsPart vl lo → IsPart vu hi → r x lo hi H Q →
    ∃ T id, typeLookup (.type T) "__getitem__" = pure (some (.builtin id)) ∧ s.TypeIs v T ∧ wpAny (model X.prog X.w) X.A (getItem v (.ref sl)) (EP X pins σ Q) X.xe s
def tSl (r : V → Option Int → Option Int → Hp → VK → Prop) (te : TE) (tl th : TO) : TE := fun σ H Q => te σ H fun x H1 => tl σ H1 fun l H2 => th σ H2 fun u H3 => r x l u H3 Q
theorem pe_slice {r : V → Option Int → Option Int → Hp → VK → Prop} (hr : SlR X r) (he : PE X e te) (hl : PO X lo tl) (hu : PO X hi th) : PE X (.Subscript e (.Slice lo hi none p2) pos) (tSl r te tl th) := by
  intro pins s σ H Q I h
  refine Subscript_ (thn (he pins s σ H _ I h) fun v s1 ⟨x, H1, I1, r1, q1⟩ => ?_)
  refine wpAny_Slice (thn (hl pins s1 σ H1 _ I1 q1) fun vl s2 ⟨l, H2, I2, pl, q2⟩ => thn (hu pins s2 σ H2 _ I2 q2) fun vu s3 ⟨u, H3, I3, pu, q3⟩ => ?_)
  rw [evalPart_none]
  refine wpAny_pure ?_
  have I4 : Inv X pins σ H3 { s3 with heap := s3.heap.push { cls := .type "slice", data := .fields #[vl, vu, .none] } } := I3.kept (t' := s3.toks) fun b ob q => Heap.get?_push_of_some _ q
  obtain ⟨T, id, hT, ht, hg⟩ := hr pins { s3 with heap := s3.heap.push { cls := .type "slice", data := .fields #[vl, vu, .none] } } σ H3 x v vl vu l u s3.heap.objs.size Q I4 r1 (Heap.IsSliceOf.new ..) pl pu q3
  show wpAny (model X.prog X.w) X.A (subscriptTail e (.Slice lo hi none p2) v (.ref s3.heap.objs.size)) (EP X pins σ Q) X.xe { s3 with heap := s3.heap.push { cls := .type "slice", data := .fields #[vl, vu, .none] } }
  exact tail_any (ops := [.ref s3.heap.objs.size, v]) ht hT hg (by with_unfolding_all rfl)
def cutV (xs : List V) (lo hi : Option Int) : List V := (xs.drop (HT.sIx xs.length 0 lo)).take (HT.sIx xs.length xs.length hi - HT.sIx xs.length 0 lo)
theorem cutV_length (xs : List V) (lo hi : Option Int) : (cutV xs lo hi).length ≤ xs.length := by
  unfold cutV
  rw [List.length_take, List.length_drop]
  (first | lia | omega)
def rSlT (K : PySem.W.Frag) : V → Option Int → Option Int → Hp → VK → Prop := fun x lo hi H Q => ∃ a xs, x = .ref a ∧ SqT K H a xs ∧
  ¬ (HT.sIx xs.length 0 lo = 0 ∧ HT.sIx xs.length xs.length hi = xs.length) ∧ ∀ p, H p = none → Q (.ref p) (upd H p (.tup (cutV xs lo hi)))
theorem sl_tup : SlR X (rSlT X.K) := by
  intro pins s σ H x v vl vu lo hi sl Q I rx hs pl pu h
  obtain ⟨a, xs, rfl, hx, hw, q⟩ := h
  cases rx
  obtain ⟨its, r, ht, hz⟩ := I.tuple hx
  have hlen : its.toArray.size = xs.length := by rw [List.size_toArray]; exact r.length.symm
  refine ⟨"tuple", _, PyProof.Rows.slot_tuple_getitem.lookup, ht.typeIs, ?_⟩
  refine HT.getItem_tuple_cut ht hs pl pu (by rw [hlen]; exact hw) ?_ (by rw [hlen]; exact hz)
  rw [hlen]
  refine ⟨.ref s.heap.objs.size, _, I.laid (t' := s.toks) (o := .tup (cutV xs lo hi)) (fun b ob q => Heap.get?_push_of_some _ q) (Nat.le_refl _) ?_, rfl, q _ (I.hok.fresh (Nat.le_refl _))⟩
  exact ⟨Nat.le_trans (cutV_length xs lo hi) hz, _, (r.drop (HT.sIx xs.length 0 lo)).take (HT.sIx xs.length xs.length hi - HT.sIx xs.length 0 lo), IsTup.new _ _⟩
end
def ixN (n : Nat) (i : Int) : Option Nat := if 0 ≤ i then (if i < n then some i.toNat else none) else if -(n : Int) ≤ i then some (i + n).toNat else none
def atI {α : Type} (xs : List α) (i : Int) : Option α := (ixN xs.length i).bind fun j => xs[j]?
theorem ixN_seq {n : Nat} {i : Int} {j : Nat} (h : ixN n i = some j) : seqIndex? i n = some j ∧ j < n ∧ -(n : Int) ≤ i ∧ i < n := by
  unfold ixN at h
  by_cases h0 : 0 ≤ i
  · rw [if_pos h0] at h
    by_cases h1 : i < n
    · rw [if_pos h1] at h
      have e : i.toNat = j := Option.some.inj h
      exact ⟨by rw [seqIndex_of h0 h1, e], by (first | lia | omega), by (first | lia | omega), h1⟩
    · rw [if_neg h1] at h; cases h
  · rw [if_neg h0] at h
    by_cases h1 : -(n : Int) ≤ i
    · rw [if_pos h1] at h
      have e : (i + n).toNat = j := Option.some.inj h
      exact ⟨by rw [seqIndex_neg (by (first | lia | omega)) h1, e], by (first | lia | omega), h1, by (first | lia | omega)⟩
    · rw [if_neg h1] at h; cases h
theorem atI_get {α : Type} {xs : List α} {i : Int} {v : α} (h : atI xs i = some v) : ∃ j, seqIndex? i xs.length = some j ∧ xs[j]? = some v ∧ j < xs.length ∧ -(xs.length : Int) ≤ i ∧ i < xs.length := by
  unfold atI at h
  cases e : ixN xs.length i with
  | none => rw [e] at h; cases h
  | some j =>
    rw [e] at h
    obtain ⟨h1, h2, h3, h4⟩ := ixN_seq e
    exact ⟨j, h1, h, h2, h3, h4⟩
theorem atI_nat {α : Type} {xs : List α} {j : Nat} {v : α} (h : xs[j]? = some v) : atI xs (j : Int) = some v := by
  have hj : j < xs.length := (List.getElem?_eq_some_iff.mp h).1
  have e : ixN xs.length (j : Int) = some j := by
    unfold ixN
    rw [if_pos (by (first | lia | omega)), if_pos (by (first | lia | omega))]; simp
  unfold atI; rw [e]; exact h
def PlainIx (b : Expr) : Prop := ∀ o i, subscripted b false o i = operate [o, i] (getItem o i)
def IxR (X : Cx) (r : R2) : Prop :=
  ∀ (value slice : Expr) (pins : List (Addr × Obj)) (s : Shared) (σ : St) (H : Hp) (x y : V) (v u : Value) (Q : VK), Inv X pins σ H s → RelV x v → RelV y u → r x y H Q →
    subscripted slice false v u = operate [v, u] (getItem v u) → wpAny (model X.prog X.w) X.A (subscriptTail value slice v u) (EP X pins σ Q) X.xe s
def MtR (X : Cx) (id : String) (r : V → List V → Hp → VK → Prop) : Prop :=
  ∀ (pins : List (Addr × Obj)) (s : Shared) (σ : St) (H : Hp) (x : V) (xs : List V) (v : Value) (us : List Value) (Q : VK), Inv X pins σ H s → RelV x v → Vals xs us → r x xs H Q →
    wpAny (model X.prog X.w) X.A (call (.builtin id) (v :: us)) (EP X pins σ Q) X.xe s
section
variable {X : Cx} {a b : Expr} {ta tb : TE} {pos : Pos}
theorem pe_ix {r : R2} (hr : IxR X r) (ha : PE X a ta) (hb : PE X b tb) (hs : PlainIx b) : PE X (.Subscript a b pos) (tOp r ta tb) := by
  intro pins s σ H Q I h
  exact Subscript_ (binT ha hb I h fun v u s2 x y H2 I2 rx ry q => hr a b pins s2 σ H2 x y v u Q I2 rx ry q (hs _ _))
def rIxL (K : PySem.W.Frag) : R2 := fun x y H Q => ∃ p xs i v, x = .ref p ∧ y = .int i ∧ SqL K H p xs ∧ atI xs i = some v ∧ Q v H
def rIxT (K : PySem.W.Frag) : R2 := fun x y H Q => ∃ p xs i v, x = .ref p ∧ y = .int i ∧ SqT K H p xs ∧ atI xs i = some v ∧ Q v H
theorem ix_list : IxR X (rIxL X.K) := by
  intro value slice pins s σ H x y v u Q I rx ry h hs
  obtain ⟨p, xs, i, z, rfl, rfl, hq, he, q⟩ := h
  cases rx
  obtain ⟨t, rfl⟩ := ry
  obtain ⟨its, r, pl, hz⟩ := I.list hq
  obtain ⟨j, h1, h2, h3, h4, h5⟩ := atI_get he
  obtain ⟨w, ew, rw'⟩ := r.get h2
  have hl := r.length
  have hn := line63
  have fin : EP X pins σ Q w s := ⟨z, H, I, rw', q⟩
  by_cases h0 : 0 ≤ i
  · have hj : i.toNat = j := by
      rw [seqIndex_of h0 h5] at h1
      exact Option.some.inj h1
    exact item_listR pl.isList h0 (by (first | lia | omega)) (by rw [hj]; simpa using ew) fin hs
  · have hj : (i + (its.toArray.size : Int)).toNat = j := by
      rw [seqIndex_neg (by (first | lia | omega)) h4] at h1
      rw [List.size_toArray, ← hl]
      exact Option.some.inj h1
    exact subscriptTail_builtinR (x := w) pl.isList.typeIs slot_list_getitem.lookup
      (wpAny_getItem_list_neg (Q := fun r s' => r = w ∧ EP X pins σ Q r s') pl.isList (by (first | lia | omega)) (by rw [List.size_toArray] <;> (first | lia | omega)) (by (first | lia | omega)) (by rw [hj]; simpa using ew) ⟨rfl, fin⟩) hs
theorem ix_tup : IxR X (rIxT X.K) := by
  intro value slice pins s σ H x y v u Q I rx ry h hs
  obtain ⟨p, xs, i, z, rfl, rfl, hq, he, q⟩ := h
  cases rx
  obtain ⟨t, rfl⟩ := ry
  obtain ⟨its, r, pl, hz⟩ := I.tuple hq
  obtain ⟨j, h1, h2, h3, h4, h5⟩ := atI_get he
  obtain ⟨w, ew, rw'⟩ := r.get h2
  have hl := r.length
  have hn := line63
  have fin : EP X pins σ Q w s := ⟨z, H, I, rw', q⟩
  exact subscriptTail_builtinR (x := w) pl.typeIs slot_tuple_getitem.lookup
    (getItem_tuple (j := j) (Q := fun r s' => r = w ∧ EP X pins σ Q r s') pl (by (first | lia | omega)) (by (first | lia | omega)) (by rw [List.size_toArray, ← hl]; exact h1) (by simpa using ew) ⟨rfl, fin⟩) hs
theorem mapSeq_set (its : List Value) (n j : Nat) (u : Value) : Obj.mapSeq (·.setIfInBounds j u) { cls := .type "list", data := .seq its.toArray n } = { cls := .type "list", data := .seq (its.set j u).toArray n } := by
  simp [Obj.mapSeq]
theorem Inv.lst {pins : List (Addr × Obj)} {σ : St} {H : Hp} {s : Shared} {p : Addr} {xs : List V} (I : Inv X pins σ H s) (h : H p = some (.lst xs)) :
    ∃ (its : List Value) (n : Nat), Vals xs its ∧ s.heap.get? p = some { cls := .type "list", data := .seq its.toArray n } ∧ xs.length ≤ sizeLine := by
  obtain ⟨z, its, n, r, e⟩ := I.hok p _ h
  exact ⟨its, n, r, e, z⟩
theorem Inv.lstUpd {pins : List (Addr × Obj)} {σ : St} {H : Hp} {s : Shared} {p : Addr} {xs ys : List V} {its its' : List Value} {n n' : Nat} {f : Obj → Obj} (I : Inv X pins σ H s) (h : H p = some (.lst xs))
    (ho : s.heap.get? p = some { cls := .type "list", data := .seq its.toArray n }) (hf : f { cls := .type "list", data := .seq its.toArray n } = { cls := .type "list", data := .seq its'.toArray n' }) (r : Vals ys its') (hz : ys.length ≤ sizeLine) (t : Nat) :
    Inv X pins σ (upd H p (.lst ys)) { s with heap := s.heap.update p f, toks := t } := by
  have e : (s.heap.update p f).get? p = some { cls := .type "list", data := .seq its'.toArray n' } := by
    rw [Heap.get?_update_self f ho (by rw [hf] <;> rfl), hf]
  refine I.write (x := p) (e := p) (by rw [h]; trivial) (.inl rfl) (fun b u hb q => (Heap.get?_update_other _ _ (Ne.symm hb)).trans q) ⟨_, e⟩ ?_
  exact ⟨hz, its', n', r, e⟩
def rSetL : V → V → V → Hp → (Hp → Prop) → Prop := fun o i v H Q => ∃ p xs k j, o = .ref p ∧ i = .int k ∧ H p = some (.lst xs) ∧ ixN xs.length k = some j ∧ Q (upd H p (.lst (xs.set j v)))
theorem set_list : PSet X rSetL := by
  intro pins s σ H o i v ov iv u Q I ro ri rv h
  obtain ⟨p, xs, k, j, rfl, rfl, hp, hj, q⟩ := h
  cases ro
  obtain ⟨t, rfl⟩ := ri
  obtain ⟨its, n, r, ho, hz⟩ := I.lst hp
  obtain ⟨h1, h2, h3, h4⟩ := ixN_seq hj
  have hl := r.length
  have hn := line63
  have I' : Inv X pins σ (upd H p (.lst (xs.set j v))) { s with heap := s.heap.update p (Obj.mapSeq (·.setIfInBounds j u)) } :=
    I.lstUpd hp ho (mapSeq_set its n j u) (r.set rv j) (by rw [List.length_set]; exact hz) s.toks
  by_cases h0 : 0 ≤ k
  · have hk : k.toNat = j := by
      rw [seqIndex_of h0 h4] at h1
      exact Option.some.inj h1
    exact PySem.W.ki_setAt ho h0 (by (first | lia | omega)) (by rw [List.size_toArray, ← hl]; exact h4) (by rw [hk]; exact ⟨_, I', q⟩)
  · have hk : (k + (its.toArray.size : Int)).toNat = j := by
      rw [seqIndex_neg (by (first | lia | omega)) h3] at h1
      rw [List.size_toArray, ← hl]
      exact Option.some.inj h1
    exact PySem.W.ki_setBack ho (by (first | lia | omega)) (by rw [List.size_toArray, ← hl]; exact h3) (by (first | lia | omega)) (by rw [hk]; exact ⟨_, I', q⟩)
theorem slice_bounds (lo hi : Option Int) (n : Nat) : (sliceBounds lo hi none n).1 = ((HT.sIx n 0 lo : Nat) : Int) ∧ (sliceBounds lo hi none n).2.1 = ((HT.sIx n n hi : Nat) : Int) ∧ (sliceBounds lo hi none n).2.2 = 1 := by
  refine ⟨?_, ?_, rfl⟩
  · cases lo with
    | none => simp [sliceBounds, HT.sIx]
    | some i =>
      simp only [sliceBounds, HT.sIx, Option.getD_none, show (1 : Int) > 0 by decide, if_true]
      by_cases h : i < 0
      · simp only [h, if_true] <;> (first | lia | omega)
      · simp only [h, if_false] <;> (first | lia | omega)
  · cases hi with
    | none => simp [sliceBounds, HT.sIx]
    | some i =>
      simp only [sliceBounds, HT.sIx, Option.getD_none, show (1 : Int) > 0 by decide, if_true]
      by_cases h : i < 0
      · simp only [h, if_true] <;> (first | lia | omega)
      · simp only [h, if_false] <;> (first | lia | omega)
theorem slicePick_cut (its : List Value) (lo hi : Option Int) : slicePick its.toArray lo hi none = ((its.drop (HT.sIx its.length 0 lo)).take (HT.sIx its.length its.length hi - HT.sIx its.length 0 lo)).toArray := by
  obtain ⟨h1, h2, h3⟩ := slice_bounds lo hi its.toArray.size
  unfold slicePick
  rw [h1, h2, h3]
  simp only [sliceRange_one, pick_run, List.size_toArray] <;> rfl
def rSlL (K : PySem.W.Frag) : V → Option Int → Option Int → Hp → VK → Prop := fun x lo hi H Q => ∃ a xs, x = .ref a ∧ SqL K H a xs ∧ ∀ p, H p = none → Q (.ref p) (upd H p (.lst (cutV xs lo hi)))
theorem sl_list : SlR X (rSlL X.K) := by
  intro pins s σ H x v vl vu lo hi sl Q I rx hs pl pu h
  obtain ⟨a, xs, rfl, hx, q⟩ := h
  cases rx
  obtain ⟨its, r, ht, hz⟩ := I.list hx
  have hlen := r.length
  refine ⟨"list", _, slot_list_getitem.lookup, ht.isList.typeIs, ?_⟩
  refine wpAny_getItem_list_slice ht.isList hs pl pu .none (by simp) ?_ (by rw [List.size_toArray] <;> (first | lia | omega))
  rw [slicePick_cut, ← hlen]
  refine ⟨.ref s.heap.objs.size, _, I.laid (t' := s.toks) (o := .lst (cutV xs lo hi)) (fun b ob q => Heap.get?_push_of_some _ q) (Nat.le_refl _) ?_, rfl, q _ (I.hok.fresh (Nat.le_refl _))⟩
  exact ⟨Nat.le_trans (cutV_length xs lo hi) hz, _, 0, (r.drop (HT.sIx xs.length 0 lo)).take (HT.sIx xs.length xs.length hi - HT.sIx xs.length 0 lo), Heap.get?_push_size _ rfl⟩
def flatV : V → Bool
  | .non => true
  | .bl _ => true
  | .int _ => true
  | .str _ => true
  | _ => false
def eqV : V → V → Bool
  | .non, .non => true
  | .bl a, .bl b => a == b
  | .bl a, .int b => (if a then 1 else 0) == b
  | .int a, .bl b => a == (if b then 1 else 0)
  | .int a, .int b => a == b
  | .str a, .str b => a == b
  | _, _ => false
theorem eqAt_V {A : Around} {s : Shared} {y x : V} {u v : Value} (ry : RelV y u) (rx : RelV x v) (fy : flatV y = true) (fx : flatV x = true) : SeqAt.EqAt A s u v (eqV y x) := by
  cases y with
  | non =>
    cases ry
    cases x with
    | non => cases rx; exact SeqAt.EqAt.same _
    | bl b => cases rx; exact SeqAt.EqAt.none_bool b
    | int b => obtain ⟨t, rfl⟩ := rx; exact SeqAt.EqAt.none_int b t
    | str b => obtain ⟨t, rfl⟩ := rx; exact SeqAt.EqAt.none_str b t
    | _ => exact absurd (show false = true from fx) Bool.false_ne_true
  | bl a =>
    cases ry
    cases x with
    | non => cases rx; exact SeqAt.EqAt.bool_none a
    | bl b => cases rx; exact SeqAt.EqAt.bool_bool a b
    | int b => obtain ⟨t, rfl⟩ := rx; exact SeqAt.EqAt.bool_int a b t
    | str b => obtain ⟨t, rfl⟩ := rx; exact SeqAt.EqAt.bool_str a b t
    | _ => exact absurd (show false = true from fx) Bool.false_ne_true
  | int a =>
    obtain ⟨t', rfl⟩ := ry
    cases x with
    | non => cases rx; exact SeqAt.EqAt.int_none a t'
    | bl b => cases rx; exact SeqAt.EqAt.int_bool a t' b
    | int b => obtain ⟨t, rfl⟩ := rx; exact SeqAt.EqAt.int_int a t' b t
    | str b => obtain ⟨t, rfl⟩ := rx; exact SeqAt.EqAt.int_str a t' b t
    | _ => exact absurd (show false = true from fx) Bool.false_ne_true
  | str a =>
    obtain ⟨t', rfl⟩ := ry
    cases x with
    | non => cases rx; exact SeqAt.EqAt.str_none a t'
    | bl b => cases rx; exact SeqAt.EqAt.str_bool a t' b
    | int b => obtain ⟨t, rfl⟩ := rx; exact SeqAt.EqAt.str_int a t' b t
    | str b => obtain ⟨t, rfl⟩ := rx; exact SeqAt.EqAt.str_str a t' b t
    | _ => exact absurd (show false = true from fx) Bool.false_ne_true
  | _ => exact absurd (show false = true from fy) Bool.false_ne_true
def eqU (x : V) (u : Value) : Bool := match u with
  | .none => eqV .non x
  | .bool b => eqV (.bl b) x
  | .int i _ => eqV (.int i) x
  | .str z _ => eqV (.str z) x
  | _ => false
theorem eqU_of {x y : V} {u : Value} (r : RelV y u) (f : flatV y = true) : eqU x u = eqV y x := by
  cases y with
  | non => cases r; rfl
  | bl b => cases r; rfl
  | int i => obtain ⟨t, rfl⟩ := r; rfl
  | str z => obtain ⟨t, rfl⟩ := r; rfl
  | _ => exact absurd (show false = true from f) Bool.false_ne_true
theorem any_eqU {x : V} : ∀ {xs : List V} {us : List Value}, Vals xs us → xs.all flatV = true → us.any (eqU x) = xs.any fun y => eqV y x
  | _, _, .nil, _ => rfl
  | y :: xs, u :: us, .cons r t, f => by
    rw [List.all_cons, Bool.and_eq_true] at f
    rw [List.any_cons, List.any_cons, eqU_of r f.1, any_eqU t f.2]
theorem mem_eqAt {A : Around} {s : Shared} {x : V} {v : Value} (rx : RelV x v) (fx : flatV x = true) : ∀ {xs : List V} {us : List Value}, Vals xs us → xs.all flatV = true → ∀ u ∈ us, SeqAt.EqAt A s u v (eqU x u)
  | _, _, .nil, _ => fun u hu => by cases hu
  | y :: xs, u :: us, .cons r t, f => fun u' hu => by
    rw [List.all_cons, Bool.and_eq_true] at f
    rcases List.mem_cons.mp hu with rfl | hu
    · rw [eqU_of r f.1]; exact eqAt_V r rx f.1 fx
    · exact mem_eqAt rx fx t f.2 u' hu
def inV (x : V) (xs : List V) : Bool := xs.any fun y => eqV y x
def rIn (K : PySem.W.Frag) (neg : Bool) : R2 := fun x y H Q => ∃ p xs, y = .ref p ∧ (SqL K H p xs ∨ SqT K H p xs) ∧ flatV x = true ∧ xs.all flatV = true ∧ Q (.bl (if neg then !inV x xs else inV x xs)) H
theorem op_in_seq : OpR X (compareOp .In) (rIn X.K false) := by
  intro pins s σ H x y v u Q I rx ry h
  obtain ⟨p, xs, rfl, hq, fx, fs, q⟩ := h
  cases ry
  rcases hq with hq | hq
  · obtain ⟨its, r, pl, hz⟩ := I.list hq
    refine SeqAt.in_listAt (eqU x) pl.isList (fun w hw => mem_eqAt rx fx r fs w (by simpa using hw)) ⟨.bl _, H, I, rfl, ?_⟩
    rw [show its.toArray.any (eqU x) = its.any (eqU x) by simp, any_eqU r fs]
    exact q
  · obtain ⟨its, r, pl, hz⟩ := I.tuple hq
    refine SeqAt.in_tupleAt (eqU x) pl (fun w hw => mem_eqAt rx fx r fs w (by simpa using hw)) ⟨.bl _, H, I, rfl, ?_⟩
    rw [show its.toArray.any (eqU x) = its.any (eqU x) by simp, any_eqU r fs]
    exact q
theorem call_len_seq : CallR X (.builtin "len") (fun xs H Q => ∃ p ys, xs = [.ref p] ∧ (SqL X.K H p ys ∨ SqT X.K H p ys) ∧ Q (.int ys.length) H) := by
  intro pins s σ H xs us Q I r h
  obtain ⟨p, ys, rfl, hq, q⟩ := h
  obtain ⟨u, rfl, rx⟩ := vals1 r
  cases rx
  have hn := line63
  rcases hq with hq | hq
  · obtain ⟨its, r', pl, hz⟩ := I.list hq
    have hlen := r'.length
    exact Calls.call_len_list pl.isList (by simp only [List.size_toArray] <;> (first | lia | omega)) ⟨.int ys.length, H, I.tok _, ⟨s.toks + 1, by rw [List.size_toArray, hlen]⟩, q⟩
  · obtain ⟨its, r', pl, hz⟩ := I.tuple hq
    have hlen := r'.length
    exact len_tuple pl (by simp only [List.size_toArray] <;> (first | lia | omega)) ⟨.int ys.length, H, I.tok _, ⟨s.toks + 1, by rw [List.size_toArray, hlen]⟩, q⟩
theorem call_list_of : CallR X (.type "list") (fun xs H Q => ∃ p ys, xs = [.ref p] ∧ (SqL X.K H p ys ∨ SqT X.K H p ys) ∧ ∀ l, H l = none → Q (.ref l) (upd H l (.lst ys))) := by
  intro pins s σ H xs us Q I r h
  obtain ⟨p, ys, rfl, hq, q⟩ := h
  obtain ⟨u, rfl, rx⟩ := vals1 r
  cases rx
  have fin : ∀ (its : List Value), Vals ys its → ys.length ≤ sizeLine → ∀ (h' : Heap) (c' : Nat), (∀ b o', s.heap.get? b = some o' → h'.get? b = some o') →
      h'.get? s.heap.objs.size = some { cls := .type "list", dict := none, data := .seq its.toArray c', slots := #[] } → EP X pins σ Q (.ref s.heap.objs.size) { s with heap := h' } := fun its r' hz h' c' kp e =>
    ⟨.ref s.heap.objs.size, _, I.laid (t' := s.toks) kp (Nat.le_refl _) (show ObjOk X.prog X.w _ h' _ (.lst ys) from ⟨hz, its, c', r', e⟩), rfl, q _ (I.hok.fresh (Nat.le_refl _))⟩
  rcases hq with hq | hq
  · obtain ⟨its, r', pl, hz⟩ := I.list hq
    have hlen := r'.length
    obtain ⟨o, ho, hc, n, hd⟩ := pl.isList
    exact call_list_seq p (.inl rfl) ho hc hd (fun h' c' kp e => fin its r' hz h' c' kp e) (by simp only [List.size_toArray] <;> (first | lia | omega))
  · obtain ⟨its, r', pl, hz⟩ := I.tuple hq
    have hlen := r'.length
    obtain ⟨o, ho, hc, n, hd⟩ := pl
    exact call_list_seq p (.inr rfl) ho hc hd (fun h' c' kp e => fin its r' hz h' c' kp e) (by simp only [List.size_toArray] <;> (first | lia | omega))
theorem call_tuple_of : CallR X (.type "tuple") (fun xs H Q => ∃ p ys, xs = [.ref p] ∧ ((SqL X.K H p ys ∧ ∀ l, H l = none → Q (.ref l) (upd H l (.tup ys))) ∨ (SqT X.K H p ys ∧ Q (.ref p) H))) := by
  intro pins s σ H xs us Q I r h
  obtain ⟨p, ys, rfl, h⟩ := h
  obtain ⟨u, rfl, rx⟩ := vals1 r
  cases rx
  rcases h with ⟨hq, q⟩ | ⟨hq, q⟩
  · obtain ⟨its, r', pl, hz⟩ := I.list hq
    have hlen := r'.length
    refine call_tuple_list pl.isList (fun h' kp => ?_) (by simp only [List.size_toArray] <;> (first | lia | omega))
    have I1 : Inv X pins σ H { s with heap := h' } := I.kept (t' := s.toks) kp
    have I2 : Inv X pins σ (upd H h'.objs.size (.tup ys)) { s with heap := h'.push { cls := .type "tuple", data := .seq its.toArray } } :=
      I1.laid (t' := s.toks) (fun b o e => Heap.get?_push_of_some _ e) (Nat.le_refl _) (show ObjOk X.prog X.w _ _ _ (.tup ys) from ⟨hz, its, r', IsTup.new _ _⟩)
    exact ⟨.ref h'.objs.size, _, I2, rfl, q _ (I1.hok.fresh (Nat.le_refl _))⟩
  · obtain ⟨its, r', pl, hz⟩ := I.tuple hq
    exact call_tuple_same pl ⟨.ref p, H, I, rfl, q⟩
def tyV (K : PySem.W.Frag) (T : String) (x : V) (H : Hp) : Prop := match x with
  | .str _ => T = "str"
  | .int _ => T = "int"
  | .ref p => (T = "list" ∧ ∃ xs, SqL K H p xs) ∨ (T = "tuple" ∧ ∃ o, K.lookup p = some o ∧ o.cls = .type "tuple" ∧ o.dict = none) ∨
      (T = "dict" ∧ ((∃ kvs, H p = some (.dK kvs)) ∨ ∃ kvs, H p = some (.dT kvs))) ∨ (T = "set" ∧ ∃ S n, H p = some (.set S n))
  | _ => False
theorem tyV_is {pins : List (Addr × Obj)} {σ : St} {H : Hp} {s : Shared} {T : String} {x : V} {v : Value} (I : Inv X pins σ H s) (r : RelV x v) (ty : tyV X.K T x H) :
    s.TypeIs v T ∧ ∀ a, v = .ref a → ∃ ob, s.heap.get? a = some ob ∧ ob.dict = none := by
  cases x with
  | str z =>
    obtain ⟨t, rfl⟩ := r
    cases (show T = "str" from ty)
    exact ⟨typeIs_str s z t, fun _ e => nomatch e⟩
  | int i =>
    obtain ⟨t, rfl⟩ := r
    cases (show T = "int" from ty)
    exact ⟨typeIs_int s i t, fun _ e => nomatch e⟩
  | ref p =>
    cases r
    rcases ty with ⟨rfl, xs, hq⟩ | ⟨rfl, o, hk, hc, hd⟩ | ⟨rfl, hk⟩ | ⟨rfl, S, n, hk⟩
    · obtain ⟨its, _, pl, _⟩ := I.list hq
      refine ⟨pl.isList.typeIs, fun a e => ?_⟩
      cases e
      obtain ⟨o, n, e, c, hd, _⟩ := pl
      exact ⟨o, e, hd⟩
    · refine ⟨⟨o, I.kIn p o hk, hc⟩, fun a e => ?_⟩
      cases e
      exact ⟨o, I.kIn _ o hk, hd⟩
    · have z : ∃ o, s.heap.get? p = some o ∧ o.ExactDict := by
        rcases hk with ⟨kvs, hk⟩ | ⟨kvs, hk⟩
        · obtain ⟨_, _, _, _, o, _, _, e, ex, _⟩ := I.hok p _ hk
          exact ⟨o, e, ex⟩
        · obtain ⟨_, _, _, _, o, _, _, e, ex, _⟩ := I.hok p _ hk
          exact ⟨o, e, ex⟩
      obtain ⟨o, e, ex⟩ := z
      refine ⟨⟨o, e, ex.1⟩, fun a e2 => ?_⟩
      cases e2
      exact ⟨o, e, ex.2.1⟩
    · obtain ⟨o, _, _, _, e, ex, _⟩ := I.hok p _ hk
      refine ⟨⟨o, e, ex.1⟩, fun a e2 => ?_⟩
      cases e2
      exact ⟨o, e, ex.2.1⟩
  | _ => exact False.elim ty
def tBM0 (K : PySem.W.Frag) (T : String) (r : V → List V → Hp → VK → Prop) (to : TE) : TE := fun σ H Q => to σ H fun x H1 => tyV K T x H1 ∧ r x [] H1 Q
def tBM (K : PySem.W.Frag) (T : String) (r : V → List V → Hp → VK → Prop) (to : TE) (t : TA) : TE := fun σ H Q => to σ H fun x H1 => tyV K T x H1 ∧ t σ H1 fun xs H2 => r x xs H2 Q
variable {o e : Expr} {es : List Expr} {to : TE} {t : TA} {name : Str} {apos cpos : Pos} {T id : String} {r : V → List V → Hp → VK → Prop}
theorem pe_bm0 (pa : PlainAttrs T) (slot : Slot T name id) (hty : typeOf (.builtin id) = pure (.type "method_descriptor")) (hm : MtR X id r) (ho : PE X o to)
    (hbase : attributeBase o name X.env (eval o X.env) = eval o X.env := by rfl) (hline : (apos.endLine == cpos.line) = true := by rfl) : PE X (.Call (.Attribute o name apos) [] [] cpos) (tBM0 X.K T r to) := by
  intro pins s σ H Q I h
  refine wpAny_Call_method0_late hbase hline (thn (ho pins s σ H _ I h) fun v s1 ⟨x, H1, I1, r1, ty, q1⟩ => ?_)
  obtain ⟨h1, h2⟩ := tyV_is I1 r1 ty
  exact ⟨T, id, pa, slot, hty, h1, h2, Calls.callWith_builtin rfl (PySem.evalArgs_none (hm pins s1 σ H1 x [] v [] Q I1 r1 .nil q1))⟩
theorem pe_bm (pa : PlainAttrs T) (slot : Slot T name id) (hty : typeOf (.builtin id) = pure (.type "method_descriptor")) (hm : MtR X id r) (ho : PE X o to) (ha : PA X (e :: es) t)
    (hbase : attributeBase o name X.env (eval o X.env) = eval o X.env := by rfl)
    (hfew : ((backTo cpos (starEach (e :: es) X.env)).all (fun x => !x.1) && (backToKw cpos (keywordEach [] X.env)).all (fun x => x.1.isSome)
      && decide ((e :: es).length + ([] : List Keyword).length + (if ([] : List Keyword).isEmpty then 0 else 1) < 30)) = true := by rfl)
    (hline : (apos.endLine == cpos.line) = true := by rfl) (hs : starEach (e :: es) X.env = (false, eval e X.env) :: starEach es X.env := by rfl) (hplain : (backTo cpos (starEach es X.env)).any (·.1) = false := by rfl) :
    PE X (.Call (.Attribute o name apos) (e :: es) [] cpos) (tBM X.K T r to t) := by
  intro pins s σ H Q I h
  refine wpAny_Call_method_late hbase hfew hline rfl (thn (ho pins s σ H _ I h) fun v s1 ⟨x, H1, I1, r1, ty, q1⟩ => ?_)
  obtain ⟨h1, h2⟩ := tyV_is I1 r1 ty
  refine ⟨T, id, pa, slot, hty, h1, h2, ?_⟩
  have hA := ha cpos pins s1 σ H1 _ I1 q1
  rw [hs] at hA ⊢
  refine Calls.callWith_builtin (by show (false || (backTo cpos (starEach es X.env)).any (·.1)) = false; rw [hplain] <;> rfl) (Calls.evalArgs_plain ?_)
  exact thn hA fun us s2 ⟨vs, H2, I2, r2, q2⟩ => hm pins s2 σ H2 x vs v us Q I2 r1 r2 q2
/- xs.append(e), list.index on a module's tuple .. are MtR facts of 06m -/
end
def MtM (X : Cx) (id : String) (r : V → List V → Hp → VK → Prop) : Prop :=
  ∀ (pins : List (Addr × Obj)) (s : Shared) (σ : St) (H : Hp) (x : V) (xs : List V) (v : Value) (us : List Value) (Q : VK), Inv X pins σ H s → RelV x v → Vals xs us → r x xs H Q →
    wpAny (model X.prog X.w) X.A (call (.builtin id) (v :: us)) (EP X pins σ Q) X.xe s
theorem Vals.one : ∀ {x : V} {us : List Value}, Vals [x] us → ∃ u, us = [u] ∧ RelV x u
  | _, _, .cons r .nil => ⟨_, rfl, r⟩
theorem Vals.rep {xs : List V} {us : List Value} (h : Vals xs us) : ∀ k : Nat, Vals (List.replicate k xs).flatten (List.replicate k us).flatten
  | 0 => .nil
  | k + 1 => by
    rw [List.replicate_succ, List.replicate_succ, List.flatten_cons, List.flatten_cons]
    exact Vals.append h (Vals.rep h k)
theorem foldl_rep (its : List Value) : ∀ (k : Nat) (acc : List Value),
    List.foldl (fun x1 x2 => x1 ++ x2) acc.toArray (List.replicate k its.toArray) = (acc ++ (List.replicate k its).flatten).toArray
  | 0, acc => by simp
  | k + 1, acc => by
    have e : acc.toArray ++ its.toArray = (acc ++ its).toArray := by simp
    have e2 : (acc ++ its) ++ (List.replicate k its).flatten = acc ++ (List.replicate (k + 1) its).flatten := by
      rw [List.replicate_succ, List.flatten_cons, List.append_assoc]
    rw [← e2, ← foldl_rep its k (acc ++ its), ← e, List.replicate_succ, List.foldl_cons]
section
variable {X : Cx} {pins : List (Addr × Obj)} {σ : St} {H : Hp} {s : Shared} {l b : Addr} {xs ys zs : List V}
theorem Inv.lset {its its' : List Value} {n : Nat} {f : Array Value → Array Value} {t' : Nat} (I : Inv X pins σ H s) (hH : H l = some (.lst xs))
    (e : s.heap.get? l = some { cls := .type "list", data := .seq its.toArray n }) (hf : f its.toArray = its'.toArray) (hv : Vals ys its') (hz : ys.length ≤ sizeLine) :
    Inv X pins σ (upd H l (.lst ys)) { s with heap := s.heap.update l (Obj.mapSeq f), toks := t' } := by
  have q := PySem.IsL.update e f
  rw [hf] at q
  refine I.write (x := l) (e := l) (by rw [hH]; exact trivial) (.inl rfl) (fun b' u hb hu => (Heap.get?_update_other s.heap (Obj.mapSeq f) (Ne.symm hb)).trans hu) ⟨_, q⟩ ?_
  exact ⟨hz, its', _, hv, q⟩
theorem Inv.lnew {its : List Value} {t' : Nat} (I : Inv X pins σ H s) (hv : Vals ys its) (hz : ys.length ≤ sizeLine) :
    Inv X pins σ (upd H s.heap.objs.size (.lst ys)) { s with heap := s.heap.push { cls := .type "list", data := .seq its.toArray }, toks := t' } :=
  I.laid (fun _ _ q => Heap.get?_push_of_some _ q) (Nat.le_refl _) ⟨hz, its, 0, hv, Heap.get?_push_size _ rfl⟩
theorem Inv.fresh (I : Inv X pins σ H s) : H s.heap.objs.size = none := I.hok.fresh (Nat.le_refl _)
theorem Inv.lstM (I : Inv X pins σ H s) (hH : H l = some (.lst xs)) : xs.length ≤ sizeLine ∧ ∃ (its : List Value) (n : Nat), Vals xs its ∧ xs.length = its.length ∧ s.heap.get? l = some { cls := .type "list", data := .seq its.toArray n } := by
  obtain ⟨z, its, n, r, e⟩ := I.hok l _ hH
  exact ⟨z, its, n, r, r.length, e⟩
theorem notLongL {n : Nat} (h : n ≤ sizeLine) : Builtin.List.listTooLong n = false := by
  unfold Builtin.List.listTooLong
  exact decide_eq_false (by (first | lia | omega))
end
section
variable {X : Cx}
def rAppend : V → List V → Hp → VK → Prop := fun x vs H Q => ∃ l xs y, x = .ref l ∧ vs = [y] ∧ H l = some (.lst xs) ∧ xs.length < sizeLine ∧ Q .non (upd H l (.lst (xs ++ [y])))
theorem mt_append : MtM X "list.append" rAppend := by
  intro pins s σ H x vs v us Q I rx rv h
  obtain ⟨l, xs, y, rfl, rfl, hH, hz, q⟩ := h
  cases rx
  obtain ⟨u, rfl, ru⟩ := rv.one
  obtain ⟨z, its, n, r, hl, e⟩ := I.lstM hH
  refine call_meets F.slot_list_append ⟨_, e, rfl⟩ F.entry_list_append (F.args_list_append_2 _ _) (PySem.list_append l its.toArray n u (by rw [List.size_toArray]; (first | lia | omega))) ⟨e, ?_⟩
  refine ⟨.non, _, I.lset (its' := its ++ [u]) hH e (by simp) (r.append (.cons ru .nil)) ?_, rfl, q⟩
  rw [List.length_append, List.length_singleton]
  (first | lia | omega)
def rExtend : V → List V → Hp → VK → Prop := fun x vs H Q => ∃ l b xs zs, x = .ref l ∧ vs = [.ref b] ∧ H l = some (.lst xs) ∧ H b = some (.lst zs) ∧ xs.length + zs.length ≤ sizeLine ∧ Q .non (upd H l (.lst (xs ++ zs)))
theorem mt_extend : MtM X "list.extend" rExtend := by
  intro pins s σ H x vs v us Q I rx rv h
  obtain ⟨l, b, xs, zs, rfl, rfl, hH, hB, hz, q⟩ := h
  cases rx
  obtain ⟨u, rfl, ru⟩ := rv.one
  cases ru
  obtain ⟨z, its, n, r, hl, e⟩ := I.lstM hH
  obtain ⟨z2, its2, n2, r2, hl2, e2⟩ := I.lstM hB
  have hsz : its.toArray.size + its2.toArray.size ≤ sizeLine := by rw [List.size_toArray, List.size_toArray]; (first | lia | omega)
  have hlong : ¬ (!its.toArray.isEmpty && Builtin.List.listTooLong (its.toArray.size + its2.toArray.size)) = true := by
    rw [notLongL hsz, Bool.and_false]
    exact Bool.false_ne_true
  refine call_meets F.slot_list_extend ⟨_, e, rfl⟩ F.entry_list_extend (F.args_list_extend_2 _ _)
    (AutoSeq1.list_extend_list_list_0 l its.toArray n b its2.toArray n2 hlong (by rw [List.size_toArray]; (first | lia | omega)) (by (first | lia | omega))) ⟨e, e2, ?_⟩
  refine ⟨.non, _, I.lset (its' := its ++ its2) hH e (by simp) (r.append r2) ?_, rfl, q⟩
  rw [List.length_append]
  (first | lia | omega)
def rRep : R2 := fun x y H Q => ∃ l k xs, x = .ref l ∧ y = .int k ∧ H l = some (.lst xs) ∧ -(2 ^ 63) ≤ k ∧ k < 2 ^ 63 ∧ xs.length * k.toNat ≤ sizeLine ∧
  ∀ p, H p = none → Q (.ref p) (upd H p (.lst (List.replicate k.toNat xs).flatten))
theorem len_rep {α : Type} (xs : List α) (k : Nat) : (List.replicate k xs).flatten.length = k * xs.length := by
  induction k with
  | zero => simp
  | succ k ih => rw [List.replicate_succ, List.flatten_cons, List.length_append, ih, Nat.succ_mul, Nat.add_comm]
theorem op_rep : OpR X (binaryOp .Mult) rRep := by
  intro pins s σ H x y v u Q I rx ry h
  obtain ⟨l, k, xs, rfl, rfl, hH, h1, h2, hz, q⟩ := h
  cases rx
  obtain ⟨t, rfl⟩ := ry
  obtain ⟨z, its, n, r, hl, e⟩ := I.lstM hH
  have hlen : its.toArray.size * k.toNat ≤ sizeLine := by rw [List.size_toArray, ← hl]; exact hz
  have hcap : ¬ its.toArray.size * k.toNat > (2 ^ 63 - 1) / 8 := by
    have : (sizeLine : Nat) ≤ (2 ^ 63 - 1) / 8 := by decide
    (first | lia | omega)
  have hfit : ¬ (!Builtin.List.listFitsIndex k) = true := by
    rw [fitsIndex_both h1 h2]
    exact Bool.false_ne_true
  have hlong : ¬ Builtin.List.listTooLong (its.toArray.size * k.toNat) = true := by
    rw [notLongL hlen]
    exact Bool.false_ne_true
  have hnew : List.foldl (fun x1 x2 => x1 ++ x2) #[] (List.replicate (if its.toArray.isEmpty = true then 0 else k.toNat) its.toArray) = (List.replicate k.toNat its).flatten.toArray := by
    have f0 : ∀ m : Nat, List.foldl (fun x1 x2 => x1 ++ x2) #[] (List.replicate m its.toArray) = (List.replicate m its).flatten.toArray := fun m => by
      have := foldl_rep its m []
      rw [List.nil_append] at this
      exact this
    rw [f0]
    cases its with
    | nil => simp
    | cons a r' => rw [if_neg (by simp)]
  refine wpAny_binaryOp_repeat_ref (T := "list") (U := "int") (by decide) ⟨_, e, rfl⟩ (fun s' => typeIs_int s' k t) noFill_list_mul F.fills_int_mul F.slot_int_rmul repeat_list F.slot_int_index.lookup
    (call_meets F.slot_int_rmul (typeIs_int s k t) F.entry_int_rmul (F.args_int_rmul_2 _ _) (int___rmul___int_list k t l its.toArray n)
      ⟨e, rfl, ⟨_, e, rfl⟩, call_meets F.slot_list_mul ⟨_, e, rfl⟩ F.entry_list_mul (F.args_list_mul_2 _ _) (AutoListH.list___mul___list_int_3 l its.toArray n k t hfit hcap hlong) ⟨e, ?_⟩⟩)
  rw [hnew]
  exact ⟨.ref _, _, I.lnew (t' := s.toks) (r.rep k.toNat) (by rw [len_rep, Nat.mul_comm]; exact hz), rfl, q _ I.fresh⟩
end
end L2
namespace Att
open PySem PySem.W PySem.Calls PyProof.Rows
theorem ints_of_wellAll {P : Params} {h : Heap} : ∀ (ns : List Int) (vs : List Value), WellAll P h vs (ns.map WData.int) → IntsAre vs ns := by
  intro ns
  induction ns with
  | nil =>
    intro vs w
    rw [List.map_nil] at w
    cases w
    exact .nil
  | cons n ns ih =>
    intro vs w
    rw [List.map_cons] at w
    cases w with
    | cons a b =>
      cases a
      exact .cons _ _ (ih _ b)
theorem script_of {l : OpenLaw} {n : Nat} (hn : l.most = some n) {P : Params} {h : Heap} {args : List WData} {vals : List Value}
    (hpre : l.row.toRowW.claim.pre args = true) (hwl : WellAll P h vals args) :
    ∃ a vs ns, vals = [Value.ref a] ∧ args = [WData.list (ns.map WData.int)] ∧ h.get? a = some { cls := .type "list", data := .seq vs.toArray } ∧ IntsAre vs ns ∧ ns.length ≤ n := by
  have hsh : WShape.hasAll [] args [.list .int] = true := (pre_splitW hpre).1
  have hc : l.pre.holds [] { args := args } = true := (pre_splitW hpre).2
  obtain ⟨d, r, rfl, h1, h2⟩ := hasAllW_cons hsh
  obtain rfl := hasAllW_nil h2
  obtain ⟨xs, rfl, h3⟩ := hasW_list h1
  obtain ⟨ns, rfl⟩ := items_int h3
  have hlen : ns.length ≤ n := by
    unfold OpenLaw.pre at hc
    have h4 : (WTm.not (.lt (.lit (.int (n : Int))) (.len (.arg 0)))).holds [] { args := [.list (ns.map .int)] } = true := by
      have h4 := (holds_andW hc).1
      rw [hn] at h4
      exact h4
    have h5 := condW_of h4 (w_not (w_lt w_lit (w_len_list (w_arg rfl))))
    rw [List.length_map] at h5
    refine Nat.le_of_not_lt fun q => ?_
    have q' : (n : Int) < ((ns.length : Nat) : Int) := by (first | lia | omega)
    first
      | (rw [decide_eq_true q'] at h5; exact absurd h5 (by decide))
      | (simp at h5; (first | lia | omega))
  cases hwl with
  | cons w1 w2 =>
    cases w2
    cases w1 with
    | list ho hall => exact ⟨_, _, ns, rfl, rfl, ho, ints_of_wellAll ns _ hall, hlen⟩
theorem post_true (l : OpenLaw) (args : List WData) : l.row.toRowW.claim.post args (.bool true) args = true :=
  postW_of (r := l.row.toRowW) (X := (true == true))
    (show WShape.has [] (.bool true) .bool = true by first | rfl | decide | simp [WShape.has, WShape.arms, WShape.armsAll])
    (show (WTm.eq .res (.lit (.bool true))).value [] { args := args, res := some (.bool true), after := args } = some (.bool (true == true)) from w_eq_bool (w_res rfl) w_lit) rfl
theorem attach_call {l : OpenLaw} {n : Nat} {q : Program} {loose : List Str} {XP : (Str → Option Value) → Heap → Prop} {YP : World → Heap → Prop} {d : DefRec}
    (hn : l.most = some n) (hdf : d.params.defaults = [])
    (call : ∀ (w : World) (s₀ s₁ : Shared) (mg mb : Str → Option Value) (fa : Addr) (o : Obj) (pm cd doc : Value) (a : Addr) (vs : List Value) (ns : List Int),
      Ground q loose [] XP w s₀ mg mb s₁.heap → YP w s₁.heap →
      s₁.heap.get? fa = some o → o.data = .func (docDef d.name d.params d.body d.scope pm cd doc) → s₁.heap.CodeRec cd d.name → mg d.name = some (.ref fa) →
      s₁.heap.get? a = some { cls := .type "list", data := .seq vs.toArray } → IntsAre vs ns → ns.length ≤ n → s₁.gens = #[] →
      codeAny (model l.prog w) callerA (.call (.ref fa) ⟨[.ref a], []⟩) (fun r s' => r = .ok (.ret (.bool true)) ∧ OldK s₁.heap s'.heap ∧ s'.os = s₁.os ∧ AllBare s'.gens) s₁) :
    WalkO q loose XP YP l.row.toRowW d [] (fun f vs => PySem.call f vs) := by
  intro w s₀ s₁ mg mb G Y fa o pm cd doc dV kV ho hd hcd hD hmg hg args vals as hpre hlay hrd hwl hlo
  obtain rfl : dV = .none := Dflts.none hD hdf
  obtain rfl : kV = .none := Dflts.noKw hD
  obtain ⟨a, vs, ns, rfl, rfl, hobj, hints, hlen⟩ := script_of hn hpre hwl
  refine enter_call (codeAny_mono (call w s₀ s₁ mg mb fa o pm cd doc a vs ns G Y ho (fd_plain hd) hcd hmg hobj hints hlen hg) fun r s' hq => ?_)
  obtain ⟨rfl, h2, h3, h4⟩ := hq
  exact ⟨.inl ⟨.bool true, .bool true, [], rfl, fun _ => rfl, .bool true, post_true l _, fun _ => ⟨List.Pairwise.nil, fun _ hm => (nomatch hm)⟩⟩, h2, h3, h4⟩
end Att
namespace L2
open PySem PySem.Spec PyProof.Rows
theorem vals_ints : ∀ {vs : List Value} {ns : List Int}, IntsAre vs ns → Vals (ns.map V.int) vs
  | _, _, .nil => .nil
  | _, _, .cons n t h => .cons ⟨t, rfl⟩ (vals_ints h)
def Only (H : Hp) : Prop := ∀ b, H b = none ∨ ∃ o xs, H b = some (.frz o (.lst xs))
theorem law_call {P : Program} {w : World} {K : PySem.W.Frag} {mg mb : Str → Option Value} {CX : CXT} {k : Nat} {fa a : Addr} {fd : FuncData} {x : Str} {sp : Sp} {s₁ : Shared} {vs : List Value} {ns : List Int}
    (KX : K.In s₁.heap) (hns : s₁.heap.Ns mainGlobals mg) (hb : s₁.heap.Ns builtinsNs mb) (hbb : ∀ x : Str, x ≠ "__name__" → mb x = bootBuiltins x) (hlim : s₁.heap.NoLimit) (hbm : ∃ bm ob, mg "__builtins__" = some (.ref bm) ∧ bm ≠ builtinsNs ∧ s₁.heap.get? bm = some ob ∧ ob.cls = .type "module" ∧ ob.dict = some builtinsNs ∧ ob.data = .plain) (hg : s₁.gens = #[])
    (ha : s₁.heap.get? a = some { cls := .type "list", data := .seq vs.toArray }) (hi : IntsAre vs ns) (hl : ns.length ≤ sizeLine) (hr : Room k callerA)
    (F : ∀ base : Heap, K.In base → base.Ns mainGlobals mg → FnOk P w K mg base CX k fa fd [x] sp) (hbind : ∀ (s : Shared) (u : Value), BindsTo s fd ⟨[u], []⟩ [(x, u)])
    (hsp : ∀ H : Hp, Only H → SqL K H a (ns.map V.int) → sp [.ref a] H (fun v _ => v = .bl true) fun _ _ _ => False)
    (hCX : ∀ H e s', CX [] H s₁ (fun _ _ _ => False) e s' → False) :
    codeAny (model P w) callerA (.call (.ref fa) ⟨[.ref a], []⟩) (fun r s' => r = .ok (.ret (.bool true)) ∧ OldK s₁.heap s'.heap ∧ s'.os = s₁.os ∧ AllBare s'.gens) s₁ := by
  have rv := vals_ints hi
  have lenV := hi.length
  -- from an abstract heap in which nothing but the script may be tracked
  have core : ∀ H : Hp, Only H → SqL K H a (ns.map V.int) → HOk P w H s₁.heap → (∀ b, H b ≠ none → b = a) → (H a ≠ none → K.lookup a = none) →
      codeAny (model P w) callerA (.call (.ref fa) ⟨[.ref a], []⟩) (fun r s' => r = .ok (.ret (.bool true)) ∧ OldK s₁.heap s'.heap ∧ s'.os = s₁.os ∧ AllBare s'.gens) s₁ := by
    intro H hO hS hok hA hK
    have base_of : ∀ {b : Addr} {o : Obj}, s₁.heap.get? b = some o → H b = none → (hidT s₁.heap H).get? b = some o := fun e n => hidT_get e n
    have noA : ∀ {b : Addr} {o : Obj} {es : Array DictEntry} {ep : Nat}, s₁.heap.get? b = some o → o.data = .dict es ep → H b = none := fun {b o es ep} e d => by
      cases q : H b with
      | none => rfl
      | some u =>
        have e' : b = a := hA b (by rw [q]; simp)
        subst e'
        rw [ha] at e; cases e
        have d' : Data.seq vs.toArray _ = Data.dict es ep := d
        cases d'
    have nsK : ∀ {b : Addr} {m : Str → Option Value}, s₁.heap.Ns b m → (hidT s₁.heap H).Ns b m := fun {b m} ⟨o, es, ep, e, d, r⟩ => ⟨o, es, ep, base_of e (noA e d), d, r⟩
    have hKb : K.In (hidT s₁.heap H) := fun b o e => base_of (KX b o e) (by
      cases q : H b with
      | none => rfl
      | some u =>
        have e' : b = a := hA b (by rw [q]; simp)
        subst e'
        rw [hK (by rw [q]; simp)] at e; cases e)
    have hM : Mod K mg (hidT s₁.heap H) := ⟨hKb, nsK hns, ⟨mb, nsK hb, hbb⟩, (let ⟨mc, h1, h2⟩ := hlim; ⟨mc, nsK h1, h2⟩), (let ⟨bm, ob, b1, b2, b3, b4, b5, b6⟩ := hbm; ⟨bm, ob, b1, b2, base_of b3 (by
      cases q : H bm with
      | none => rfl
      | some u =>
        have e' : bm = a := hA bm (by rw [q]; simp)
        subst e'
        rw [ha] at b3; cases b3; cases b6), b4, b5, b6⟩)⟩
    have e0 : Env0 P w K mg (hidT s₁.heap H) callerA [] s₁ H := ⟨rfl, hM, fun b o e => of_hidT e, Nat.le_of_eq (hidT_size _ _), trivial, fun b hb => absurd (show b ∈ ([] : List Addr) from hb) (by simp), hok, .of_eq hg⟩
    refine codeAny_mono ((F _ hKb (nsK hns)).run callerA [] s₁ H ⟨[.ref a], []⟩ [.ref a] [.ref a] _ _ hr e0 (hbind s₁ (.ref a)) (.cons rfl .nil) (hsp H hO hS)) fun r s' h => ?_
    cases r with
    | error e => exact (hCX H e s' h).elim
    | ok fl =>
      cases fl with
      | next => exact False.elim h
      | brk => exact False.elim h
      | cont => exact False.elim h
      | ret u =>
        obtain ⟨v, H', os, bare, un, hok', r', q⟩ := h
        have q' : v = .bl true := q
        subst q'
        obtain rfl : u = Value.bool true := r'
        refine ⟨rfl, OldK.of_keep fun b o e => ?_, os, bare⟩
        cases q : H b with
        | none => exact un.keep b o e q (by intro z; exact absurd (show b ∈ ([] : List Addr) from z) (by simp)) (by simp)
        | some u =>
          rcases hO b with z | ⟨ob, xs, z⟩
          · rw [q] at z; cases z
          · have z2 := un.frzs b ob _ z
            obtain ⟨e1, _⟩ := hok b _ z
            obtain ⟨e2, _⟩ := hok' b _ z2
            rw [e] at e1; cases e1
            exact e2
  cases hk : K.lookup a with
  | some o =>
    -- the script is one of the module's own objects
    have e := KX a o hk
    rw [ha] at e
    cases e
    refine core (fun _ => none) (fun _ => .inl rfl) (.inr ⟨_, vs.toArray, _, hk, rfl, rfl, rfl, by rw [List.size_toArray, lenV]; exact hl, by simpa using rv⟩) (fun b u z => by have z' : (none : Option HO) = some u := z; cases z') (fun b z => absurd rfl z) fun z => absurd rfl z
  | none =>
    refine core (fun b => if b = a then some (.frz { cls := .type "list", data := .seq vs.toArray } (.lst (ns.map V.int))) else none) (fun b => ?_) (.inl (.inr ⟨{ cls := .type "list", data := .seq vs.toArray }, if_pos rfl⟩)) (fun b u z => ?_) (fun b z => ?_) fun _ => hk
    · by_cases hb : b = a
      · exact .inr ⟨_, _, if_pos hb⟩
      · exact .inl (if_neg hb)
    · by_cases hb : b = a
      · have z' := (if_pos hb).symm.trans z
        cases z'
        subst hb
        exact ⟨ha, by rw [List.length_map]; exact hl, vs, _, rv, ha⟩
      · have z' := (if_neg hb).symm.trans z
        cases z'
    · by_cases hb : b = a
      · exact hb
      · exact absurd (if_neg hb) z
theorem walk_of {l : PySem.W.OpenLaw} {n k : Nat} {q : Program} {loose : List Str} {XP : (Str → Option Value) → Heap → Prop} {YP : World → Heap → Prop} {d : DefRec} {K : Params → PySem.W.Frag} {CX : World → CXT} {sp : World → Sp} {x : Str}
    (hn : l.most = some n) (hn2 : n ≤ sizeLine) (hdf : d.params.defaults = []) (hr : Room k callerA)
    (hY : ∀ (w : World) (h : Heap), YP w h → (K w.params).In h)
    (F : ∀ (w : World) (mg : Str → Option Value) (fa : Addr) (h : Heap), (K w.params).In h → h.Ns mainGlobals mg → mg d.name = some (.ref fa) →
      ∃ fd : FuncData, (∀ (s : Shared) (u : Value), BindsTo s fd ⟨[u], []⟩ [(x, u)]) ∧
        ∀ base : Heap, (K w.params).In base → base.Ns mainGlobals mg → FnOk l.prog w (K w.params) mg base (CX w) k fa fd [x] (sp w))
    (hsp : ∀ (w : World) (H : Hp) (a : Addr) (ns : List Int), ns.length ≤ n → Only H → SqL (K w.params) H a (ns.map V.int) → sp w [.ref a] H (fun v _ => v = .bl true) fun _ _ _ => False)
    (hCX : ∀ (w : World) (H : Hp) (s : Shared) (e : Value) (s' : Shared), CX w [] H s (fun _ _ _ => False) e s' → False) :
    PySem.W.WalkO q loose XP YP l.row.toRowW d [] (fun f vs => PySem.call f vs) := by
  refine Att.attach_call hn hdf fun w s₀ s₁ mg mb fa o pm cd doc a vs ns G Y ho hd hcd hmg hobj hints hlen hg => ?_
  have KX := hY w _ Y
  obtain ⟨fd, hb, hF⟩ := F w mg fa _ KX G.T.g hmg
  exact law_call KX G.T.g G.T.b G.T.builtins G.T.nolimit G.T.bmain hg hobj hints (Nat.le_trans hlen hn2) hr hF hb (fun H hO hS => hsp w H a ns hlen hO hS) fun H e s' => hCX w H s₁ e s'
end L2
/- THE LAST THEOREM (shape; LID, My.* are yours):
   My.Adr: a structure of the addresses that your layer names (classes, functions); My.Txt K t: a structure (Prop) of the equations over K;
   My.txt_mk : {K} {implicit addresses ..} (e1 : nsIn K mainGlobals "law" = some (some (.ref f))) (e2 : K.lookup f = some ⟨oc, od, .func (fnOf "law" "law" params body scope dV kV doc pm an cdv ct), sl⟩) (e3 : codeIn K cdv "law" = true) .. : ∃ t, My.Txt K t
set_option maxRecDepth 100000 in
set_option maxHeartbeats 0 in
theorem PySem.Challenge.cw_LID_holds : PySem.Challenge.rw_LID.Holds := by
  w_on; o_law; k_head; (case hw => w_witness2)
  k_fill
  refine L2.walk_of (l := PySem.Challenge.rw_LID) (n := 63) (k := 40) (x := "script") (CX := fun w => ..) (sp := fun _ => My.sp_law) rfl (by decide) rfl ⟨rfl, by decide, by decide⟩ (fun w h Y => PySem.W.kIn_of Y) ?F ?S ?C
  case F =>
    intro w mg fa h KX G hmg
    have T : ∃ t, My.Txt (L2.KOf KX) t := by
      dsimp only [L2.KOf]                          -- K must stand as «<heap const> w.params» for k_is
      refine' My.txt_mk ?e1 ?e2 ?e3 ..
      (case e1 => PySem.W.k_is)                    -- in the order: a name -> its address -> its object -> its parts
      (case e2 => PySem.W.k_is)
      ..
    obtain ⟨t, T⟩ := T
    have e0 := hmg.symm.trans (PySem.W.mg_of KX G T.law)
    cases e0                                       -- fa is the law's own address
    exact ⟨_, fun s u => .of_eq rfl, fun base kb nb => My.law_fn T kb nb⟩     -- if «.of_eq rfl» comes too early: refine' ⟨_, ?b, fun base kb nb => My.law_fn T kb nb⟩; exact fun s u => .of_eq rfl
  case S => exact fun w H a ns hl hO hS => ..
  case C => exact ..
(the tactic k_is has no namespace: write k_is) -/
namespace L2
open PySem PySem.Spec PyProof.Rows
def defArgs (s : Stmt) : Arguments := match s with
  | .FunctionDef _ a _ _ _ _ _ _ _ _ => a
  | _ => { posonlyargs := [], args := [], vararg := none, kwonlyargs := [], kw_defaults := [], kwarg := none, defaults := [] }
def defBody (s : Stmt) : List Stmt := match s with
  | .FunctionDef _ _ b _ _ _ _ _ _ _ => b
  | _ => []
def defScope (s : Stmt) : Scope := match s with
  | .FunctionDef _ _ _ _ _ _ sc _ _ _ => sc
  | _ => { kind := .function, names := [], isGenerator := false, isCoroutine := false }
abbrev CX0 : CXT := fun _ _ _ _ _ _ => False
abbrev E0 : XK := fun _ _ _ => False
theorem pass0 {X : Cx} : Passes CX0 X E0 := fun _ _ _ _ _ _ _ h => h.elim
structure Fun (K : PySem.W.Frag) (x qual : Str) (st : Stmt) (f : Addr) (fd : FuncData) : Prop where
  ex : ∃ (oc : Value) (od : Option Addr) (kV doc pm : Value) (an : Option Addr) (cdv ct : Value) (osl : Array (Option Value)),
    fd = PySem.W.fnOf x qual (defArgs st) (defBody st) (defScope st) .none kV doc pm an cdv ct ∧ K.lookup f = some ⟨oc, od, .func fd, osl⟩ ∧ PySem.W.codeIn K cdv qual = true
  kp : PySem.W.keepIn K (.ref f) = true
section
variable {P : Program} {w : World} {K : PySem.W.Frag} {mg : Str → Option Value} {base : Heap}
theorem Fun.ok {x qual : Str} {st : Stmt} {f : Addr} {fd : FuncData} {N ps : List Str} {k : Nat} {sp : Sp} (F : Fun K x qual st f fd) (S : FnScope N ps (defScope st)) (len : ∀ vs H Q E, sp vs H Q E → vs.length = ps.length)
    (hbody : ∀ (cdv : Value) (A : Around) (outer : List Env) (s : Shared) (H : Hp) (vs : List V) (Q : VK) (E : XK), Room k (A.deeper (envOfC qual (defScope st) s.heap.objs.size f cdv)) → sp vs H Q E →
      ∃ t, PSs (cxOf CX0 P w K mg base N qual (defScope st) f cdv A outer s H E).nox (defBody st) t ∧ t { nx := fun _ H' => Q .non H', rt := Q } (start N vs) H) : FnOk P w K mg base CX0 (k + 1) f fd ps sp := by
  obtain ⟨oc, od, kV, doc, pm, an, cdv, ct, osl, rfl, lk, hcd⟩ := F.ex
  refine fn_of lk hcd S len fun A outer s H vs Q E hr hsp => ?_
  obtain ⟨t, h, q⟩ := hbody cdv A outer s H vs Q E hr hsp
  exact ⟨t, h.nox, q⟩
theorem Fun.binds {x qual : Str} {st : Stmt} {f : Addr} {fd : FuncData} {ps : List Str} (F : Fun K x qual st f fd)
    (h : ∀ (kV doc pm : Value) (an : Option Addr) (cdv ct : Value) (us : List Value), us.length = ps.length → bindArgs (PySem.W.fnOf x qual (defArgs st) (defBody st) (defScope st) .none kV doc pm an cdv ct) ⟨us, []⟩ = pure (ps.zip us)) : Binds K fd ps [] := by
  obtain ⟨oc, od, kV, doc, pm, an, cdv, ct, osl, rfl, lk, hcd⟩ := F.ex
  exact .all (h kV doc pm an cdv ct)
theorem fun_mk {x qual : Str} {st : Stmt} {f : Addr} {oc : Value} {od an : Option Addr} {osl : Array (Option Value)} {kV doc pm cdv ct : Value} (l : K.lookup f = some ⟨oc, od, .func (PySem.W.fnOf x qual (defArgs st) (defBody st) (defScope st) .none kV doc pm an cdv ct), osl⟩)
    (c : PySem.W.codeIn K cdv qual = true) (k : PySem.W.keepIn K (.ref f) = true) : Fun K x qual st f (PySem.W.fnOf x qual (defArgs st) (defBody st) (defScope st) .none kV doc pm an cdv ct) := ⟨⟨oc, od, kV, doc, pm, an, cdv, ct, osl, rfl, l, c⟩, k⟩
end
theorem small1000 {n : Nat} (h : n ≤ 1000) : n < sizeLine := Nat.lt_of_le_of_lt h (by decide)
section
variable {X : Cx}
theorem pv (i : Nat) {x : Str} {pos : Pos} (hN : X.N[i]? = some x := by rfl) (hv : Vis X.env.scope x := by first | exact Or.inl rfl | exact Or.inr (Or.inl rfl) | exact Or.inr (Or.inr rfl)) (hd : (x == ("__debug__" : Str)) = false := by decide)
    (hcd : (x == ("__classdict__" : Str)) = false := by decide) : PE X (.Name x pos) (tVar i) := pe_var hN hv hd hcd
end
theorem iteF {A B : Prop} (h : B) : if false = true then A else B := by
  rw [if_neg Bool.false_ne_true]
  exact h
theorem iteT {A B : Prop} (h : A) : if true = true then A else B := by
  rw [if_pos rfl]
  exact h
theorem ite2 {c A B : Prop} [Decidable c] (h1 : c → A) (h2 : ¬ c → B) : if c then A else B := by
  by_cases h : c
  · rw [if_pos h]
    exact h1 h
  · rw [if_neg h]
    exact h2 h
theorem iteNS {c A B : Prop} [Decidable c] (hc : c) (h : B) : if (!decide c) = true then A else B := by
  rw [decide_eq_true hc]
  exact iteF h
def Same (H H' : Hp) : Prop := ∀ b o, H b = some o → H' b = some o
theorem Same.refl (H : Hp) : Same H H := fun _ _ h => h
theorem Same.trans {H H1 H2 : Hp} (a : Same H H1) (b : Same H1 H2) : Same H H2 := fun c o h => b c o (a c o h)
theorem Same.free {H H' : Hp} (e : Same H H') {l : Addr} (h : H' l = Option.none) : H l = Option.none := by
  cases q : H l with
  | none => rfl
  | some o =>
    rw [e l o q] at h
    cases h
theorem Same.seq {K : PySem.W.Frag} {H H' : Hp} {a : Addr} {xs : List V} (e : Same H H') (h : SqL K H a xs) : SqL K H' a xs := by
  rcases h with (h | ⟨o, h⟩) | h
  · exact .inl (.inl (e _ _ h))
  · exact .inl (.inr ⟨o, e _ _ h⟩)
  · exact .inr h
def closOf (cells : List (Str × Addr)) : List (Str × NameKind) → List (Str × Addr) → List (Str × Addr)
  | [], cs => cs
  | (n, k) :: r, cs => closOf cells r (if (k == NameKind.free) = true then (n, (cells.lookup n).getD 0) :: cs else cs)
theorem closure_go {env : Env} {f : Str × NameKind → List (Str × Addr) → Sem (ForInStep (List (Str × Addr)))}
    (hf1 : ∀ n k cs c, (k == NameKind.free) = true → env.cells.lookup n = some c → f (n, k) cs = pure (.yield ((n, c) :: cs)))
    (hf2 : ∀ n k cs, (k == NameKind.free) = false → f (n, k) cs = pure (.yield cs)) :
    ∀ (names : List (Str × NameKind)) (cs : List (Str × Addr)), (∀ n k, (n, k) ∈ names → (k == NameKind.free) = true → ∃ c, env.cells.lookup n = some c) →
      forIn names cs f = (pure (closOf env.cells names cs) : Sem (List (Str × Addr)))
  | [], cs, _ => by rw [List.forIn_nil]; rfl
  | (n, k) :: r, cs, h => by
    have ih := fun cs => closure_go hf1 hf2 r cs fun m j hm => h m j (List.mem_cons_of_mem _ hm)
    rw [List.forIn_cons]
    cases e : (k == NameKind.free) with
    | true =>
      obtain ⟨c, hc⟩ := h n k List.mem_cons_self e
      rw [hf1 n k cs c e hc, pure_bind]
      show forIn r ((n, c) :: cs) f = _
      rw [ih]
      conv => rhs; unfold closOf
      rw [if_pos e, hc]
      rfl
    | false =>
      rw [hf2 n k cs e, pure_bind]
      show forIn r cs f = _
      rw [ih]
      conv => rhs; unfold closOf
      rw [if_neg (by rw [e]; exact Bool.false_ne_true)]
theorem closure_is {scope : Scope} {env : Env} (h : ∀ n k, (n, k) ∈ scope.names → (k == NameKind.free) = true → ∃ c, env.cells.lookup n = some c) : closureFor scope env = pure (closOf env.cells scope.names []) := by
  simp only [closureFor]
  rw [closure_go (env := env) ?_ ?_ scope.names [] h]
  · rfl
  · intro n k cs c e hc
    show (if (k == NameKind.free) = true then _ else _) = _
    rw [if_pos e]
    unfold cellOf
    rw [hc]
    rfl
  · intro n k cs e
    show (if (k == NameKind.free) = true then _ else _) = _
    rw [if_neg (by rw [e]; exact Bool.false_ne_true)]
theorem closOf_look {cells : List (Str × Addr)} {x : Str} {c : Addr} : ∀ {names : List (Str × NameKind)} {cs : List (Str × Addr)}, (closOf cells names cs).lookup x = some c → cs.lookup x = some c ∨ ((x, NameKind.free) ∈ names ∧ (cells.lookup x).getD 0 = c)
  | [], cs, h => .inl h
  | (n, k) :: r, cs, h => by
    unfold closOf at h
    rcases closOf_look h with q | ⟨q1, q2⟩
    · by_cases e : (k == NameKind.free) = true
      · rw [if_pos e] at q
        by_cases hx : x = n
        · subst hx
          rw [List.lookup_cons_self] at q
          have hk : k = NameKind.free := eq_of_beq e
          exact .inr ⟨by rw [hk]; exact List.mem_cons_self, Option.some.inj q⟩
        · have hb : (x == n) = false := beq_eq_false_iff_ne.mpr hx
          simp only [List.lookup_cons, hb] at q
          exact .inl q
      · rw [if_neg e] at q
        exact .inl q
    · exact .inr ⟨List.mem_cons_of_mem _ q1, q2⟩
theorem closOf_has {cells : List (Str × Addr)} {x : Str} : ∀ {names : List (Str × NameKind)} {cs : List (Str × Addr)}, ((x, NameKind.free) ∈ names ∨ ∃ c, cs.lookup x = some c) → ∃ c, (closOf cells names cs).lookup x = some c
  | [], cs, h => by
    rcases h with h | h
    · cases h
    · exact h
  | (n, k) :: r, cs, h => by
    unfold closOf
    apply closOf_has
    rcases h with h | ⟨c, h⟩
    · rcases List.mem_cons.mp h with h | h
      · cases h
        right
        rw [if_pos (by rfl)]
        exact ⟨_, List.lookup_cons_self⟩
      · exact .inl h
    · right
      by_cases e : (k == NameKind.free) = true
      · rw [if_pos e]
        by_cases hx : x = n
        · subst hx
          exact ⟨_, List.lookup_cons_self⟩
        · have hb : (x == n) = false := beq_eq_false_iff_ne.mpr hx
          exact ⟨c, by simp only [List.lookup_cons, hb]; exact h⟩
      · rw [if_neg e]
        exact ⟨c, h⟩
theorem relabel_look {env : Env} {x : Str} {k : NameKind} : ∀ {names : List (Str × NameKind)},
    (names.map fun (n, k) => if (k == NameKind.free && env.scope.kind == .function && env.kindOf n == some .cell) then (n, NameKind.cell) else (n, k)).lookup x = some k →
      ∃ k0, names.lookup x = some k0 ∧ (k = k0 ∨ (k0 = .free ∧ k = .cell))
  | [], h => by cases h
  | (n, j) :: r, h => by
    have ih := @relabel_look env x k r
    replace h : List.lookup x ((if (j == NameKind.free && env.scope.kind == .function && env.kindOf n == some .cell) = true then (n, NameKind.cell) else (n, j)) :: _) = some k := h
    cases hx : x == n with
    | true =>
      by_cases hc : (j == NameKind.free && env.scope.kind == .function && env.kindOf n == some .cell) = true
      · rw [if_pos hc] at h
        simp only [List.lookup_cons, hx] at h ⊢
        have hj : j = NameKind.free := by
          rw [Bool.and_eq_true, Bool.and_eq_true] at hc
          exact eq_of_beq hc.1.1
        exact ⟨j, rfl, .inr ⟨hj, (Option.some.inj h).symm⟩⟩
      · rw [if_neg hc] at h
        simp only [List.lookup_cons, hx] at h ⊢
        exact ⟨j, rfl, .inl (Option.some.inj h).symm⟩
    | false =>
      by_cases hc : (j == NameKind.free && env.scope.kind == .function && env.kindOf n == some .cell) = true
      · rw [if_pos hc] at h
        simp only [List.lookup_cons, hx] at h ⊢
        exact ih h
      · rw [if_neg hc] at h
        simp only [List.lookup_cons, hx] at h ⊢
        exact ih h
theorem relabel_free {env : Env} {x : Str} : ∀ {names : List (Str × NameKind)}, names.lookup x = some .free →
    (names.map fun (n, k) => if (k == NameKind.free && env.scope.kind == .function && env.kindOf n == some .cell) then (n, NameKind.cell) else (n, k)).lookup x = some .cell ∨
    (names.map fun (n, k) => if (k == NameKind.free && env.scope.kind == .function && env.kindOf n == some .cell) then (n, NameKind.cell) else (n, k)).lookup x = some .free
  | [], h => by cases h
  | (n, j) :: r, h => by
    have ih := @relabel_free env x r
    show List.lookup x ((if (j == NameKind.free && env.scope.kind == .function && env.kindOf n == some .cell) = true then (n, NameKind.cell) else (n, j)) :: _) = _ ∨
      List.lookup x ((if (j == NameKind.free && env.scope.kind == .function && env.kindOf n == some .cell) = true then (n, NameKind.cell) else (n, j)) :: _) = _
    cases hx : x == n with
    | true =>
      simp only [List.lookup_cons, hx] at h
      cases h
      by_cases hc : (NameKind.free == NameKind.free && env.scope.kind == .function && env.kindOf n == some .cell) = true
      · rw [if_pos hc]
        simp only [List.lookup_cons, hx]
        exact .inl trivial
      · rw [if_neg hc]
        simp only [List.lookup_cons, hx]
        exact .inr trivial
    | false =>
      simp only [List.lookup_cons, hx] at h
      by_cases hc : (j == NameKind.free && env.scope.kind == .function && env.kindOf n == some .cell) = true
      · rw [if_pos hc]
        simp only [List.lookup_cons, hx]
        exact ih h
      · rw [if_neg hc]
        simp only [List.lookup_cons, hx]
        exact ih h
def cxComp (X : Cx) (N : List Str) (scope : Scope) (xe : Value → Shared → Prop) (C : Addr) (s : Shared) (H : Hp) (fp : List Addr) : Cx where
  prog := X.prog
  w := X.w
  K := X.K
  mg := X.mg
  base := X.base
  A := X.A
  N := N
  s₀ := s
  H₀ := H
  env := compEnvC scope (closOf X.env.cells scope.names []) C X.env
  outer := X.stack
  stack := X.stack
  ex := fp
  fn := fun _ => false
  calm := X.calm
  pn := []
  xe := xe
def takeSt (σ : St) (js : List Nat) : St := js.map fun j => (σ[j]?).getD none
structure CompText (X : Cx) (scope : Scope) (own frees : List Str) (js : List Nat) : Prop where
  kind : scope.kind = .function
  nocell : ∀ y ∈ scope.names, y.2 ≠ .cell
  names : ∀ y ∈ scope.names, y.2 = .local → scope.names.lookup y.1 = some .local
  free : ∀ y ∈ scope.names, y.2 = .free → X.env.scope.names.lookup y.1 = some .cell ∨ X.env.scope.names.lookup y.1 = some .free
  at_ : js.map (fun j => X.N[j]?) = frees.map some
  fr : ∀ x ∈ frees, scope.names.lookup x = some .free
theorem takeSt_get {σ : St} {js : List Nat} {i : Nat} {v : V} (h : (takeSt σ js)[i]? = some (some v)) : ∃ j, js[i]? = some j ∧ σ[j]? = some (some v) := by
  unfold takeSt at h
  rw [List.getElem?_map] at h
  cases e : js[i]? with
  | none => rw [e] at h; cases h
  | some j =>
    rw [e] at h
    have h' : (σ[j]?).getD none = some v := Option.some.inj h
    refine ⟨j, rfl, ?_⟩
    cases q : σ[j]? with
    | none => rw [q] at h'; cases h'
    | some o => rw [q] at h'; rw [show o = some v from h']
section
variable {X : Cx}
theorem closure_ok {pins : List (Addr × Obj)} {σ : St} {H : Hp} {s : Shared} {scope : Scope} {own frees : List Str} {js : List Nat} (I : Inv X pins σ H s) (T : CompText X scope own frees js) :
    ∀ n k, (n, k) ∈ scope.names → (k == NameKind.free) = true → ∃ c, X.env.cells.lookup n = some c := fun n k hm e => by
  have hk : k = NameKind.free := eq_of_beq e
  exact I.ok.has n (T.free (n, k) hm hk)
theorem inv_comp {pins : List (Addr × Obj)} {σ : St} {H : Hp} {s : Shared} {scope : Scope} {own frees : List Str} {js : List Nat} {fp : List Addr} {D C : Addr} {h1 : Heap} {t1 : Nat} {m : Str → Option Value} {xe : Value → Shared → Prop}
    (I : Inv X pins σ H s) (T : CompText X scope own frees js) (hf : ∀ b ∈ fp, FpOk X pins H b) (hfo : ∀ b ∈ fp, ∃ o, s.heap.get? b = some o) (hD : s.heap.objs.size ≤ D) (hC : s.heap.objs.size ≤ C) (hDC : D ≠ C)
    (old : ∀ b o, s.heap.get? b = some o → h1.get? b = some o) (hl : h1.get? D = some { cls := .type "list", data := .seq ([] : List Value).toArray 0 }) (hn : h1.Ns C m) :
    Inv (cxComp X (own ++ frees) scope xe C s H fp) [] (List.replicate own.length none ++ takeSt σ js) (upd H D (.lst [])) { s with heap := h1, toks := t1 } := by
  have cells : ∀ x c, (closOf X.env.cells scope.names []).lookup x = some c → X.env.cells.lookup x = some c := fun x c h => by
    rcases closOf_look h with q | ⟨q1, q2⟩
    · cases q
    · obtain ⟨c', hc'⟩ := closure_ok I T x .free q1 rfl
      rw [hc'] at q2
      rw [hc']
      exact congrArg some q2
  have lt_of : ∀ b o, s.heap.get? b = some o → b < s.heap.objs.size := fun b o e => Heap.lt_size e
  have hcl : ∀ x c, X.env.cells.lookup x = some c → c < s.heap.objs.size := fun x c e => by
    obtain ⟨v, q⟩ := I.cell x c e
    exact q.lt
  have frlt : ∀ b ∈ frs X.stack, b < s.heap.objs.size := fun b hb => by
    obtain ⟨_, o, ho, _⟩ := I.stack.mem hb
    exact Heap.lt_size ho
  have hHD : H D = none := I.hok.fresh hD
  have hHC : H C = none := I.hok.fresh hC
  refine ⟨⟨I.ok.mod, T.kind, I.ok.glob, I.ok.blt, hC, fun x y c a b => I.ok.inj x y c (cells x c a) (cells y c b), fun x hx => ?_, fun x c z _ => (nomatch z), I.ok.hd, I.ok.frames, .inl rfl, fun b hb => ⟨?_, fun x c e z => ?_⟩,
      fun b o e => I.bs b o e, Nat.le_trans I.ok.bsz I.sz, fun b o e hb => ?_, fun b hb z => ?_, I.stack, I.stkFree⟩,
    rfl, I.bare, Un.laid old hD hHD, ⟨m, hn, fun i x v e1 e2 e3 => ?_⟩, fun x c e => ?_, ?_, fun x c e => ?_, fun p hp => absurd (show p ∈ ([] : List (Addr × Obj)) from hp) (by simp), ?_, ?_⟩
  · -- has
    have hx : (relabel scope X.env).names.lookup x = some .cell ∨ (relabel scope X.env).names.lookup x = some .free := hx
    have hf0 : (x, NameKind.free) ∈ scope.names := by
      rcases hx with hx | hx
      · obtain ⟨k0, q, r⟩ := relabel_look hx
        have hm := PySem.mem_of_lookup q
        rcases r with r | ⟨r, _⟩
        · exact absurd r.symm (T.nocell _ hm)
        · rw [r] at hm; exact hm
      · obtain ⟨k0, q, r⟩ := relabel_look hx
        have hm := PySem.mem_of_lookup q
        rcases r with r | ⟨_, r⟩
        · rw [← r] at hm; exact hm
        · cases r
    exact closOf_has (.inl hf0)
  · -- b ≠ C
    obtain ⟨o, ho⟩ := hfo b hb
    exact Nat.ne_of_lt (Nat.lt_of_lt_of_le (lt_of b o ho) hC)
  · exact (hf b hb).2.2.2.2.1 x c (cells x c e) z
  · -- noex
    obtain ⟨_, _, _, f3, _, _⟩ := hf b hb
    rcases f3 with z | z
    · exact I.ok.noex b o e z
    · exact absurd (Nat.lt_of_lt_of_le (Heap.lt_size (I.ok.bs b o e).1) z) (Nat.lt_irrefl _)
  · -- exfs
    obtain ⟨_, f1, f2, _⟩ := hf b hb
    rcases List.mem_cons.mp (I.stkSub b z) with q | q
    · exact f1 q
    · exact f2 q
  · -- loc
    by_cases hi : i < own.length
    · rw [List.getElem?_append_left (by simpa using hi), List.getElem?_replicate, if_pos hi] at e2
      cases e2
    · rw [List.getElem?_append_right (by simpa using hi), List.length_replicate] at e2
      replace e1 : (own ++ frees)[i]? = some x := e1
      rw [List.getElem?_append_right (by (first | lia | omega))] at e1
      obtain ⟨j, hj, hσ⟩ := takeSt_get e2
      have hN : X.N[j]? = some x := by
        have q := congrArg (fun l => l[i - own.length]?) T.at_
        simp only [List.getElem?_map, hj, e1, Option.map_some] at q
        exact Option.some.inj q
      have hfx := T.fr x (List.mem_of_getElem? e1)
      have hm := PySem.mem_of_lookup hfx
      have hk := T.free (x, .free) hm rfl
      obtain ⟨m0, hn0, hl0⟩ := I.loc
      obtain ⟨u, r, l⟩ := hl0 j x v hN hσ (by rcases hk with k | k; exact .inr (.inl k); exact .inr (.inr k))
      refine ⟨u, r, .inr ⟨relabel_free hfx, ?_⟩⟩
      rcases l with ⟨hkl, _⟩ | ⟨_, c, hc, hcell⟩
      · have hkl : X.env.scope.names.lookup x = some .local := hkl
        rcases hk with k | k <;> (rw [hkl] at k; cases k)
      · obtain ⟨c', hc'⟩ := closOf_has (cells := X.env.cells) (names := scope.names) (cs := []) (x := x) (.inl hm)
        have q := cells x c' hc'
        rw [hc] at q
        cases q
        exact ⟨c, hc', hcell.keeps old⟩
  · -- cell
    obtain ⟨v, q⟩ := I.cell x c (cells x c e)
    exact ⟨v, q.keeps old⟩
  · -- free
    show upd H D (.lst []) C = none
    rw [upd_ne (Ne.symm hDC)]
    exact hHC
  · show upd H D (.lst []) c = none
    have e := cells x c e
    rw [upd_ne (Nat.ne_of_lt (Nat.lt_of_lt_of_le (hcl x c e) hD))]
    exact I.freeC x c e
  · exact I.hok.laid old hD ⟨Nat.zero_le _, [], 0, .nil, hl⟩
  · show _ = (own ++ frees).length
    have q := congrArg List.length T.at_
    rw [List.length_map, List.length_map] at q
    rw [List.length_append, List.length_append, List.length_replicate]
    unfold takeSt
    rw [List.length_map, q]
theorem inv_comp_back {pins : List (Addr × Obj)} {σ σ' : St} {H H' : Hp} {s s' : Shared} {scope : Scope} {N : List Str} {fp : List Addr} {C : Addr} {h' : Heap} {xe : Value → Shared → Prop}
    (I : Inv X pins σ H s) (hf : ∀ b ∈ fp, FpOk X pins H b) (hC : s.heap.objs.size ≤ C) (J : Inv (cxComp X N scope xe C s H fp) [] σ' H' s') (sb : Heap.SameBut C s'.heap h') : Inv X pins σ H' { s' with heap := h' } := by
  have hHC : H' C = none := J.free
  refine I.call' (ch := fp) J.os ?_ ?_ J.bare (fun b hb => ?_)
  · have u : Un (frs X.stack) fp H H' s.heap s'.heap := J.base
    have ne : ∀ b o, s.heap.get? b = some o → b ≠ C := fun b o e => Nat.ne_of_lt (Nat.lt_of_lt_of_le (Heap.lt_size e) hC)
    refine ⟨fun b o e n hb hx => (sb.2 b (ne b o e)).trans (u.keep b o e n hb hx), fun b o e n hb hx => ?_, u.free, fun b o e hx => ?_, u.tups, u.frzs, u.tbls⟩
    · obtain ⟨sl, q⟩ := u.slot b o e n hb hx
      exact ⟨sl, (sb.2 b (ne b o e)).trans q⟩
    · obtain ⟨o', q⟩ := u.there b o e hx
      exact ⟨o', (sb.2 b (ne b o e)).trans q⟩
  · intro b ob e
    refine (J.hok b ob e).stay (fun c w' hc q => (sb.2 c ?_).trans q) (fun _ q => q) fun _ _ q => q
    rintro rfl
    rcases hc with rfl | hc
    · rw [hHC] at e; cases e
    · rw [hHC] at hc; cases hc
  · obtain ⟨_, f1, _, f3, f4, f5⟩ := hf b hb
    exact ⟨f3, f1, f4, f5⟩
end
section
variable {prog : Program} {w : World} {A : Around} {R : Result → Shared → Prop} {s : Shared}
abbrev testsOf (ifs : List Expr) (env : Env) : Sem Bool := forIn ifs true fun c r => if r = true then do let ok ← isTrue c env (eval c env); pure (ForInStep.yield ok) else pure (ForInStep.yield r)
theorem compLoop_any {elt target iter : Expr} {ifs : List Expr} {scope : Scope} {pos : Pos} {it acc : Value} {env : Env} (I : Nat → Shared → Prop)
    (turn : ∀ n s, I n s → wpAny (model prog w) A (pyNext it) (fun r s₁ => match r with
      | none => R (.ok .next) s₁
      | some v => wpAny (model prog w) A (letOwnedTupleGo target it v) (fun _ s₀ => wpAny (model prog w) A (assign target env v) (fun _ s₂ =>
          wpAny (model prog w) A (testsOf ifs env) (fun ok s₃ =>
            if ok = true then wpAny (model prog w) A (eval elt env) (fun x s₄ =>
              wpAny (model prog w) A (call (.builtin "list.append") [acc, x]) (fun _ s₅ => ∃ m, m < n ∧ I m s₅) (notedBy (model prog w) A env fun e s' => R (.error e) s') s₄) (notedBy (model prog w) A env fun e s' => R (.error e) s') s₃
            else ∃ m, m < n ∧ I m s₃) (notedBy (model prog w) A env fun e s' => R (.error e) s') s₂) (notedBy (model prog w) A env fun e s' => R (.error e) s') s₀) (notedBy (model prog w) A env fun e s' => R (.error e) s') s₁) (notedBy (model prog w) A env fun e s' => R (.error e) s') s)
    (n : Nat) (h : I n s) :
    codeAny (model prog w) A (.compLoop (.ListComp elt [⟨target, iter, ifs, 0⟩] scope pos) 0 it acc env) R s := by
  refine codeAny_loop rfl I (fun n s hI => ?_) n h
  show wpAny _ A ((compTurn (.ListComp elt [⟨target, iter, ifs, 0⟩] scope pos) 0 it acc env).onRaise (fun x => do noteFrame x env; theTreesLotGoes x)) _ _ s
  refine wpAny_noted ?_
  rw [compTurn_list]
  refine wpAny_bind (wpAny_standAt (wpAny_bind (wpAny_mono (turn n s hI) (fun r s₁ h₁ => ?_) fun _ _ h' => h')))
  cases r with
  | none => exact wpAny_pure h₁
  | some v =>
    refine wpAny_bind (wpAny_mono h₁ (fun _ s₀ h₀ => ?_) fun _ _ h' => h')
    refine wpAny_bind (wpAny_mono h₀ (fun _ s₂ h₂ => wpAny_bind (wpAny_mono h₂ (fun ok s₃ h₃ => ?_) fun _ _ h' => h')) fun _ _ h' => h')
    cases ok with
    | false => exact wpAny_pure ⟨rfl, h₃⟩
    | true =>
      exact wpAny_bind (wpAny_bind (wpAny_mono h₃ (fun x s₄ h₄ => wpAny_bind (wpAny_mono h₄ (fun _ s₅ h₅ => wpAny_pure (wpAny_pure ⟨rfl, h₅⟩)) fun _ _ h' => h')) fun _ _ h' => h'))
end
def PTs (X : Cx) (ifs : List Expr) (t : TT) : Prop :=
  ∀ (pins : List (Addr × Obj)) (s : Shared) (σ : St) (H : Hp) (Q : Bool → Hp → Prop), Inv X pins σ H s → t σ H Q → wpAny (model X.prog X.w) X.A (testsOf ifs X.env) (TP X pins σ Q) X.xe s
def tTrue : TT := fun _ H Q => Q true H
theorem pts_nil {X : Cx} : PTs X [] tTrue := fun _ _ _ H _ I h => wpAny_tests_nil ⟨H, I, h⟩
theorem pts_one {X : Cx} {c : Expr} {t : TT} (h : PT X c t) : PTs X [c] t := fun pins s σ H Q I q => wpAny_tests_one (h pins s σ H Q I q)
def CompLoop (J : It) (g : TG) (tt : TT) (te : TE) (n : Nat) (fr : St) (D : Addr) (Q : Hp → Prop) (H1 : Hp) : Prop :=
  ∃ W : Nat → Nat → List V → Hp → Prop, (∃ m, W 0 m [] H1) ∧ ∀ i m acc H, W i m acc H → H D = some (.lst acc) ∧
    ((J.stop i H ∧ Q H) ∨ (J.go i H ∧ acc.length < sizeLine ∧ ∃ N : List V → Hp → Prop, (∀ acc' H', N acc' H' → ∃ m', m' < m ∧ W (i + 1) m' acc' H') ∧
      ∀ x H', J.yld i H x H' → g x (List.replicate n none ++ fr) H' fun σ2 H2 => σ2.drop n = fr ∧ tt σ2 H2 fun b H3 =>
      if b = true then te σ2 H3 fun v H4 => H4 D = some (.lst acc) ∧ N (acc ++ [v]) (upd H4 D (.lst (acc ++ [v])))
      else N acc H3))
def tComp (wi : TI) (g : TG) (tt : TT) (te : TE) (n : Nat) (js : List Nat) : TE := fun σ H Q => wi σ H fun J H1 => ∀ D, H1 D = none → CompLoop J g tt te n (takeSt σ js) D (fun H2 => Q (.ref D) H2) (upd H1 D (.lst []))
structure TurnX (A : Around) (cm : Bool) (P : Program) (w : World) (K : PySem.W.Frag) (tg : Expr) (J : It) (fp : List Addr) (it : Addr) (tn : Nat → Heap → Prop) : Prop where
  mem : it ∈ fp
  obj : ∀ i h, tn i h → ∀ b ∈ fp, ∃ o, h.get? b = some o ∧ ∀ v, o.data ≠ .cell v
  keep : ∀ i h h', tn i h → (∀ b ∈ fp, ∀ o, h.get? b = some o → h'.get? b = some o) → tn i h'
  item : ∀ (X : Cx), X.prog = P → X.w = w → X.K = K → X.A = A → X.calm = cm → ∀ (i : Nat) (pins : List (Addr × Obj)) (s : Shared) (σ : St) (H : Hp) (E : Value → Shared → Prop), Inv X pins σ H s → (∀ b ∈ fp, FpOk X pins H b) → tn i s.heap → J.go i H →
    wpAny (model P w) X.A (pyNext (.ref it)) (fun r s1 => ∃ u, r = some u ∧
      wpAny (model P w) X.A (letOwnedTupleGo tg (.ref it) u) (fun _ s2 => ∃ x H', Inv X pins σ H' s2 ∧ RelV x u ∧ J.yld i H x H' ∧ tn (i + 1) s2.heap ∧ ∀ b ∈ fp, H' b = none) E s1) E s
  done : ∀ (X : Cx), X.prog = P → X.w = w → X.K = K → X.A = A → X.calm = cm → ∀ (i : Nat) (pins : List (Addr × Obj)) (s : Shared) (σ : St) (H : Hp) (E : Value → Shared → Prop), Inv X pins σ H s → (∀ b ∈ fp, FpOk X pins H b) → tn i s.heap → J.stop i H →
    wpAny (model P w) X.A (pyNext (.ref it)) (fun r s1 => r = none ∧ Inv X pins σ H s1) E s
  self : ∀ (A : Around) (i : Nat) (s : Shared) (Q : Value → Shared → Prop) (E : Value → Shared → Prop), tn i s.heap → Q (.ref it) s → wpAny (model P w) A (pyIter (.ref it)) Q E s
theorem Turn.x {A : Around} {cm : Bool} {P : Program} {w : World} {K : PySem.W.Frag} {tg : Expr} {J : It} {fp : List Addr} {it : Addr} {tn : Nat → Heap → Prop} (T : Turn P w K tg J fp it tn) (hc : cm = true) : TurnX A cm P w K tg J fp it tn :=
  ⟨T.mem, T.obj, T.keep, fun X a b c _ d => T.item X a b c (d.trans hc), fun X a b c _ d => T.done X a b c (d.trans hc), T.self⟩
section
variable {X : Cx} {elt iter tg : Expr} {ifs : List Expr} {scope : Scope} {pos : Pos} {own frees : List Str} {js : List Nat} {wi : TI} {g : TG} {tt : TT} {te : TE}
theorem comp_block {pins : List (Addr × Obj)} {σ : St} {H2 : Hp} {s2 : Shared} {it : Addr} {fp : List Addr} {tn : Nat → Heap → Prop} {J : It} {E : Value → Shared → Prop} {RR : Value → Addr → Result → Shared → Prop} {QQ : Addr → Hp → Prop}
    (T : CompText X scope own frees js)
    (hg : ∀ C s H fp, PG (cxComp X (own ++ frees) scope (fun _ _ => False) C s H fp) tg g)
    (ht : ∀ C s H fp, PTs (cxComp X (own ++ frees) scope (fun _ _ => False) C s H fp) ifs tt)
    (he : ∀ C s H fp, PE (cxComp X (own ++ frees) scope (fun _ _ => False) C s H fp) elt te)
    (I2 : Inv X pins σ H2 s2) (TT' : TurnX X.A X.calm X.prog X.w X.K tg J fp it tn) (st2 : tn 0 s2.heap) (f2 : ∀ b ∈ fp, FpOk X pins H2 b)
    (hl : ∀ D, H2 D = none → CompLoop J g tt te own.length (takeSt σ js) D (QQ D) (upd H2 D (.lst [])))
    (hRR : ∀ D C σ' H' s', s2.heap.objs.size ≤ C → Inv (cxComp X (own ++ frees) scope (fun _ _ => False) C s2 H2 fp) [] σ' H' s' → QQ D H' → RR (.ref D) C (.ok .next) s') :
    wpAny (model X.prog X.w) X.A (newList []) (fun acc s₃ => wpAny (model X.prog X.w) X.A (newFunctionEnv scope X.env.globals (closOf X.env.cells scope.names []) [] X.env.qual none .none (some X.env)) (fun cenv s₄ =>
      codeAny (model X.prog X.w) X.A (.compStart (.ListComp elt [⟨tg, iter, ifs, 0⟩] scope pos) 0 (.ref it) acc { cenv with scope := relabel scope X.env }) (RR acc cenv.locals) s₄) E s₃) E s2 := by
  refine wpAny_newObj_type (wpAny_newFunctionEnv T.nocell (by intro y hy; simp at hy) (fun h₁ hns₁ hsb₁ => ?_) T.kind)
  dsimp only at hns₁ hsb₁ ⊢
  generalize hH2 : s2.heap.push { cls := .type "list", dict := none, data := .seq ([] : List Value).toArray } = G2 at hns₁ hsb₁ ⊢
  have hC : G2.objs.size = s2.heap.objs.size + 1 := by rw [← hH2, Heap.size_push]
  have hDC : s2.heap.objs.size ≠ G2.objs.size := by rw [hC]; exact Nat.ne_of_lt (Nat.lt_succ_self _)
  have hCle : s2.heap.objs.size ≤ G2.objs.size := by rw [hC]; exact Nat.le_succ _
  have below : ∀ b, b < s2.heap.objs.size → b ≠ G2.objs.size := fun b hb => by rw [hC]; exact Nat.ne_of_lt (Nat.lt_succ_of_lt hb)
  have old : ∀ b o, s2.heap.get? b = some o → h₁.get? b = some o := fun b o e => hsb₁.extBut b o (below b (Heap.lt_size e)) (Heap.get?_push_of_some _ (hH2 ▸ Heap.get?_push_of_some _ e))
  have hacc : h₁.get? s2.heap.objs.size = some { cls := .type "list", data := .seq ([] : List Value).toArray 0 } := hsb₁.extBut _ _ hDC (Heap.get?_push_of_some _ (hH2 ▸ Heap.get?_push_size _ rfl))
  have fpo : ∀ b ∈ fp, ∃ o, s2.heap.get? b = some o := fun b hb => let ⟨o, e, _⟩ := TT'.obj _ _ st2 b hb; ⟨o, e⟩
  have st1 : tn 0 h₁ := TT'.keep _ _ _ st2 fun b _ o e => old b o e
  obtain ⟨W, ⟨m0, w0⟩, turn⟩ := hl s2.heap.objs.size (I2.hok.fresh (Nat.le_refl _))
  have hfx : ∀ {H' : Hp}, (∀ b ∈ fp, H' b = none) → ∀ b ∈ fp, FpOk (cxComp X (own ++ frees) scope (fun _ _ => False) G2.objs.size s2 H2 fp) [] H' b := fun {H'} hn b hb => by
    obtain ⟨_, f1, f2', _, f4, _⟩ := f2 b hb
    obtain ⟨o, ho⟩ := fpo b hb
    refine ⟨hn b hb, below b (Heap.lt_size ho), fun z => ?_, .inl hb, fun x c e => ?_, fun p hp => absurd (show p ∈ ([] : List (Addr × Obj)) from hp) (by simp)⟩
    · rcases List.mem_cons.mp (I2.stkSub b z) with q | q
      · exact f1 q
      · exact f2' q
    · rcases closOf_look (show (closOf X.env.cells scope.names []).lookup x = some c from e) with q | ⟨q1, q2⟩
      · cases q
      · obtain ⟨c', hc'⟩ := closure_ok I2 T x .free q1 rfl
        rw [hc'] at q2
        have q2 : c' = c := q2
        rw [← q2]
        exact f4 x c' hc'
  have fp0 : ∀ b ∈ fp, upd H2 s2.heap.objs.size (.lst []) b = none := fun b hb => by
    obtain ⟨o, ho⟩ := fpo b hb
    rw [upd_ne (Nat.ne_of_lt (Heap.lt_size ho))]
    exact (f2 b hb).1
  have back : ∀ {σ6 : St} {p6 : List (Addr × Obj)} {H6 : Hp} {s6 : Shared}, Inv (cxComp X (own ++ frees) scope (fun _ _ => False) G2.objs.size s2 H2 fp) p6 σ6 H6 s6 → σ6.drop own.length = takeSt σ js →
      Inv (cxComp X (own ++ frees) scope (fun _ _ => False) G2.objs.size s2 H2 fp) [] (List.replicate own.length none ++ takeSt σ js) H6 s6 := fun {σ6 p6 H6 s6} I6 hd => by
    have hl6 : σ6.length = (own ++ frees).length := I6.len
    have J6 := I6.pins_of (pins' := []) fun p hp => absurd hp (by simp)
    refine J6.weak ?_ fun i v e => ?_
    · have q := congrArg List.length hd
      rw [List.length_drop] at q
      rw [List.length_append] at hl6
      rw [List.length_append, List.length_replicate]
      (first | lia | omega)
    · by_cases hi : i < own.length
      · rw [List.getElem?_append_left (by simpa using hi), List.getElem?_replicate, if_pos hi] at e
        cases e
      · rw [List.getElem?_append_right (by simpa using hi), List.length_replicate, ← hd, List.getElem?_drop] at e
        rw [show own.length + (i - own.length) = i by (first | lia | omega)] at e
        exact e
  have loop : ∀ s₃ : Shared, s₃ = { s2 with heap := h₁, toks := s2.toks + ([] : List (Str × Value)).length } →
      codeAny (model X.prog X.w) X.A (.compLoop (.ListComp elt [⟨tg, iter, ifs, 0⟩] scope pos) 0 (.ref it) (.ref s2.heap.objs.size) (compEnvC scope (closOf X.env.cells scope.names []) G2.objs.size X.env))
        (RR (.ref s2.heap.objs.size) G2.objs.size) s₃ := by
    rintro s₃ rfl
    refine compLoop_any (fun n s' => ∃ i acc H', Inv (cxComp X (own ++ frees) scope (fun _ _ => False) G2.objs.size s2 H2 fp) [] (List.replicate own.length none ++ takeSt σ js) H' s' ∧ tn i s'.heap ∧ (∀ b ∈ fp, H' b = none) ∧ W i n acc H') ?_ m0
      ⟨0, [], upd H2 s2.heap.objs.size (.lst []), inv_comp I2 T f2 fpo (Nat.le_refl _) hCle hDC old hacc hns₁, st1, fp0, w0⟩
    rintro n s3 ⟨i, acc, H3, I3, st3, fr3, w3⟩
    obtain ⟨hD3, hcase⟩ := turn i n acc H3 w3
    rcases hcase with ⟨stop, qn⟩ | ⟨go, hz, NN, hNN, step⟩
    · refine wpAny_mono (TT'.done (cxComp X (own ++ frees) scope (fun _ _ => False) G2.objs.size s2 H2 fp) rfl rfl rfl rfl rfl i [] s3 _ H3 (fun _ _ => False) I3 (hfx fr3) st3 stop) (fun r s4 ⟨hr, I4⟩ => ?_) fun _ _ z => z.elim
      subst hr
      exact hRR _ _ _ H3 s4 hCle I4 qn
    · refine wpAny_mono (TT'.item (cxComp X (own ++ frees) scope (fun _ _ => False) G2.objs.size s2 H2 fp) rfl rfl rfl rfl rfl i [] s3 _ H3 (fun _ _ => False) I3 (hfx fr3) st3 go) (fun r s4 ⟨u, hr, h4⟩ => ?_) fun _ _ z => z.elim
      subst hr
      refine wpAny_mono h4 (fun _ s5 ⟨x, H5, I5, r5, y5, st5, fr5⟩ => ?_) fun _ _ z => z.elim
      have I5' := I5.pinned (hfx fr5) (TT'.obj _ _ st5)
      refine wpAny_mono (hg _ _ _ _ _ s5 _ H5 x u _ I5' r5 (step x H5 y5)) (fun _ s6 ⟨σ6, H6, I6, hd6, q6⟩ => ?_) fun _ _ z => z.elim
      refine wpAny_mono (ht _ _ _ _ _ s6 σ6 H6 _ I6 q6) (fun ok s7 ⟨H7, I7, q7⟩ => ?_) fun _ _ z => z.elim
      have again : ∀ {H8 : Hp} {s8 : Shared}, Inv (cxComp X (own ++ frees) scope (fun _ _ => False) G2.objs.size s2 H2 fp) ([] ++ pinsAt fp s5.heap) σ6 H8 s8 → tn (i + 1) s8.heap ∧ ∀ b ∈ fp, H8 b = none := fun {H8 s8} I8 => by
        refine ⟨TT'.keep _ _ _ st5 fun b hb o e => (I8.pin (b, o) (List.mem_append_right _ (List.mem_append_right _ (mem_pinsAt hb e)))).1, fun b hb => ?_⟩
        obtain ⟨o, e, d⟩ := TT'.obj _ _ st5 b hb
        exact (I8.pin (b, o) (List.mem_append_right _ (List.mem_append_right _ (mem_pinsAt hb e)))).2.1
      cases ok with
      | false =>
        rw [if_neg Bool.false_ne_true]
        obtain ⟨m', hm, w7⟩ := hNN _ _ q7
        obtain ⟨t7, n7⟩ := again I7
        exact ⟨m', hm, i + 1, acc, H7, back I7 hd6, t7, n7, w7⟩
      | true =>
        rw [if_pos rfl]
        refine wpAny_mono (he _ _ _ _ _ s7 σ6 H7 _ I7 q7) (fun xv s8 ⟨v, H8, I8, r8, hD8, q8⟩ => ?_) fun _ _ z => z.elim
        obtain ⟨m', hm, w8⟩ := hNN _ _ q8
        refine wpAny_mono (mt_append (X := cxComp X (own ++ frees) scope (fun _ _ => False) G2.objs.size s2 H2 fp) _ s8 σ6 H8 (.ref s2.heap.objs.size) [v] (.ref s2.heap.objs.size) [xv] (fun y H9 => y = .non ∧ H9 = upd H8 s2.heap.objs.size (.lst (acc ++ [v]))) I8 rfl (.cons r8 .nil) ⟨_, acc, v, rfl, rfl, hD8, hz, rfl, rfl⟩)
          (fun _ s9 ⟨y, H9, I9, _, _, e9⟩ => ?_) fun _ _ z => z.elim
        subst e9
        obtain ⟨t9, n9⟩ := again I9
        exact ⟨m', hm, i + 1, acc ++ [v], _, back I9 hd6, t9, n9, w8⟩
  exact codeAny_compStart_list (loop _ rfl) (TT'.self _ 0 _ _ _ st1 (loop _ rfl))
theorem pe_comp (T : CompText X scope own frees js) (hc : X.calm = true) (hi : PI X tg iter wi)
    (hg : ∀ C s H fp, PG (cxComp X (own ++ frees) scope (fun _ _ => False) C s H fp) tg g)
    (ht : ∀ C s H fp, PTs (cxComp X (own ++ frees) scope (fun _ _ => False) C s H fp) ifs tt)
    (he : ∀ C s H fp, PE (cxComp X (own ++ frees) scope (fun _ _ => False) C s H fp) elt te)
    (hs : ∀ x, foldedSetIterable iter X.env x = pure x := by intro _; rfl) :
    PE X (.ListComp elt [⟨tg, iter, ifs, 0⟩] scope pos) (tComp wi g tt te own.length js) := by
  intro pins s σ H Q I h
  rw [eval_ListComp]
  refine wpAny_comprehension_free (use := none) rfl hs (closure_is (closure_ok I T)) T.kind T.names ?_
  refine wpAny_mono (hi pins s σ H _ I h) (fun v s1 h1 => wpAny_mono h1 (fun itv s2 h2 => ?_) fun _ _ z => z) fun _ _ z => z
  obtain ⟨it, fp, tn, J, H2, e, I2, TT', st2, f2, hl⟩ := h2
  subst e
  refine comp_block (QQ := fun D H' => Q (.ref D) H') T hg ht he I2 (TT'.x hc) st2 f2 hl fun D C σ' H' s' hC J' q => ?_
  obtain ⟨m, hn, _⟩ := J'.loc
  exact ⟨m, hn, fun h' sb => ⟨.ref D, H', inv_comp_back I2 f2 hC J' sb, rfl, q⟩⟩
def tSetComp (i : Nat) (wi : TI) (g : TG) (tt : TT) (te : TE) (n : Nat) (js : List Nat) : TS := fun D σ H => tComp wi g tt te n js σ H fun v H1 => D.nx (σ.set i (some v)) H1
theorem ps_comp {i : Nat} {x : Str} {pos' spos : Pos} (hN : X.N.Nodup) (hix : X.N[i]? = some x) (hx : X.env.scope.names.lookup x = some .local) (T : CompText X scope own frees js) (hc : X.calm = true) (hi : PI X tg iter wi)
    (hg : ∀ C s H fp, PG (cxComp X (own ++ frees) scope (fun _ _ => False) C s H fp) tg g)
    (ht : ∀ C s H fp, PTs (cxComp X (own ++ frees) scope (fun _ _ => False) C s H fp) ifs tt)
    (he : ∀ C s H fp, PE (cxComp X (own ++ frees) scope (fun _ _ => False) C s H fp) elt te)
    (hsw : swapsWith (.ListComp elt [⟨tg, iter, ifs, 0⟩] scope pos) (some (.Name x pos')) spos.line X.env = pure true := by rfl)
    (hs : ∀ x, foldedSetIterable iter X.env x = pure x := by intro _; rfl) :
    PS X (.Assign [.Name x pos'] (.ListComp elt [⟨tg, iter, ifs, 0⟩] scope pos) spos) (tSetComp i wi g tt te own.length js) := by
  intro pins s σ H D I h
  rw [exec_Assign_Name_used _ _ _ _ hsw]
  refine wpAny_bind (wpAny_standAt (wpAny_bind ?_))
  show wpAny _ X.A (do let _ ← comprehension (.ListComp elt [⟨tg, iter, ifs, 0⟩] scope pos) scope X.env _ (newList []) false (eval iter X.env) (some (assign (.Name x pos') X.env))) _ _ s
  refine wpAny_bind (wpAny_mono (wpAny_comprehension_free (use := some (assign (.Name x pos') X.env)) (Q := fun _ s' => SP X pins D .next s') rfl hs (closure_is (closure_ok I T)) T.kind T.names ?_) (fun _ s' hq => wpAny_pure (wpAny_pure hq)) fun _ _ e => e)
  refine wpAny_mono (hi pins s σ H _ I h) (fun v s1 h1 => wpAny_mono h1 (fun itv s2 h2 => ?_) fun _ _ z => z) fun _ _ z => z
  obtain ⟨it, fp, tn, J, H2, e, I2, TT', st2, f2, hl⟩ := h2
  subst e
  refine comp_block (QQ := fun D' H' => D.nx (σ.set i (some (.ref D'))) H') T hg ht he I2 (TT'.x hc) st2 f2 hl fun D' C σ' H' s' hC J' q => ?_
  have I3 : Inv X pins σ H' s' := by
    obtain ⟨hh, gg, dd, tt', oo⟩ := s'
    exact inv_comp_back I2 f2 hC J' (Heap.SameBut.refl ..)
  obtain ⟨m, hn, _⟩ := J'.loc
  obtain ⟨oC, es, ep, hoC, hdC, rest⟩ := id hn
  have hHC : H' C = none := J'.free
  have hlC : C ≠ X.env.locals := Nat.ne_of_gt (Nat.lt_of_lt_of_le I2.lt hC)
  have hfC : C ∉ X.fs := fun z => by
    obtain ⟨_, o, ho, _⟩ := I2.funs.mem z
    exact absurd (Nat.lt_of_lt_of_le (Heap.lt_size ho) hC) (Nat.lt_irrefl _)
  have I4 : Inv X (pins ++ [(C, oC)]) σ H' s' := I3.pins_of fun p hp => (List.mem_append.mp hp).elim (fun z => I3.pin p (List.mem_append_right _ z)) fun z => by
    have e : p = (C, oC) := by simpa using z
    subst e
    exact ⟨hoC, hHC, hlC, hfC, fun v z => by have z' : oC.data = .cell v := z; rw [hdC] at z'; cases z'⟩
  show wpAny _ X.A (assign (.Name x pos') X.env (.ref D')) _ _ _
  refine wpAny_assign_Name (store_ok (v := .ref D') I4 hN hix (.inl hx) rfl (fun s5 I5 => ?_) (.inr hx))
  have e5 : s5.heap.get? C = some oC := (I5.pin (C, oC) (List.mem_append_right _ (List.mem_append_right _ (by simp)))).1
  refine ⟨m, ⟨oC, es, ep, e5, hdC, rest⟩, fun h' sb => ⟨_, H', ?_, q⟩⟩
  -- the block's names let go
  have I6 : Inv X pins (σ.set i (some (.ref D'))) H' s5 := I5.unpinned
  refine I6.turned (t' := s5.toks) (fun b o hb e => (sb.2 b hb).trans e) hHC hlC (.inr (Nat.le_trans I2.sz hC)) (fun y c e => ?_) (fun p hp z => ?_)
  · obtain ⟨v, qc⟩ := I2.cell y c e
    exact Nat.ne_of_lt (Nat.lt_of_lt_of_le qc.lt hC)
  · have hp2 := (I2.pin p hp).1
    exact absurd (Nat.lt_of_lt_of_le (Heap.lt_size hp2) (by rw [z]; exact hC)) (Nat.lt_irrefl _)
end
section
variable {K : PySem.W.Frag} {a : Addr} {xs : List V} {g : TG} {tt : TT} {te : TE} {n : Nat} {fr : St} {D : Addr} {Q : Hp → Prop} {H1 : Hp}
theorem comp_list (Pv : Nat → List V → Hp → Prop) (h0 : Pv 0 [] H1) (hl : ∀ i acc H, i ≤ xs.length → Pv i acc H → SqL K H a xs ∧ H D = some (.lst acc) ∧ acc.length ≤ i) (hz : xs.length ≤ sizeLine)
    (hs : ∀ i x acc H, xs[i]? = some x → Pv i acc H → g x (List.replicate n none ++ fr) H fun σ2 H2 => σ2.drop n = fr ∧ tt σ2 H2 fun b H3 =>
      if b = true then te σ2 H3 fun v H4 => H4 D = some (.lst acc) ∧ Pv (i + 1) (acc ++ [v]) (upd H4 D (.lst (acc ++ [v]))) else Pv (i + 1) acc H3)
    (hd : ∀ acc H, Pv xs.length acc H → Q H) : CompLoop (Itl K a) g tt te n fr D Q H1 := by
  refine ⟨fun i m acc H => m = xs.length - i ∧ i ≤ xs.length ∧ Pv i acc H, ⟨xs.length, by simp, Nat.zero_le _, h0⟩, ?_⟩
  rintro i m acc H ⟨rfl, hi, p⟩
  obtain ⟨q, hD, ha⟩ := hl i acc H hi p
  refine ⟨hD, ?_⟩
  by_cases hlt : i < xs.length
  · refine .inr ⟨⟨xs, xs[i], q, by simp [hlt]⟩, by (first | lia | omega), Pv (i + 1), fun acc' H' p' => ⟨xs.length - (i + 1), by (first | lia | omega), rfl, hlt, p'⟩, fun x H' y => ?_⟩
    obtain ⟨e, y⟩ := y
    subst e
    exact hs i x acc _ (y xs q) p
  · have e : i = xs.length := by (first | lia | omega)
    subst e
    exact .inl ⟨⟨xs, q, Nat.le_refl _⟩, hd acc H p⟩
theorem comp_range {lo : Int} {m : Nat} (Pv : Nat → List V → Hp → Prop) (h0 : Pv 0 [] H1) (hl : ∀ i acc H, i ≤ m → Pv i acc H → H D = some (.lst acc) ∧ acc.length ≤ i) (hz : m ≤ sizeLine)
    (hs : ∀ i acc H, i < m → Pv i acc H → g (.int (lo + i)) (List.replicate n none ++ fr) H fun σ2 H2 => σ2.drop n = fr ∧ tt σ2 H2 fun b H3 =>
      if b = true then te σ2 H3 fun v H4 => H4 D = some (.lst acc) ∧ Pv (i + 1) (acc ++ [v]) (upd H4 D (.lst (acc ++ [v]))) else Pv (i + 1) acc H3)
    (hd : ∀ acc H, Pv m acc H → Q H) : CompLoop (Itr lo m) g tt te n fr D Q H1 := by
  refine ⟨fun i k acc H => k = m - i ∧ i ≤ m ∧ Pv i acc H, ⟨m, by simp, Nat.zero_le _, h0⟩, ?_⟩
  rintro i k acc H ⟨rfl, hi, p⟩
  obtain ⟨hD, ha⟩ := hl i acc H hi p
  refine ⟨hD, ?_⟩
  by_cases hlt : i < m
  · refine .inr ⟨hlt, by (first | lia | omega), Pv (i + 1), fun acc' H' p' => ⟨m - (i + 1), by (first | lia | omega), rfl, hlt, p'⟩, fun x H' y => ?_⟩
    obtain ⟨e, y⟩ := y
    subst e y
    exact hs i acc _ hlt p
  · have e : i = m := by (first | lia | omega)
    subst e
    exact .inl ⟨Nat.le_refl _, hd acc H p⟩
end
def compLook (scope osc : Scope) (N frees : List Str) (js : List Nat) : Bool :=
  decide (scope.kind = .function) && scope.names.all (fun y => decide (y.2 ≠ .cell)) && scope.names.all (fun y => decide (y.2 = .local → scope.names.lookup y.1 = some .local)) &&
  scope.names.all (fun y => decide (y.2 = .free → osc.names.lookup y.1 = some .cell ∨ osc.names.lookup y.1 = some .free)) && decide (js.map (fun j => N[j]?) = frees.map some) && frees.all (fun x => decide (scope.names.lookup x = some .free))
theorem compText_of {X : Cx} {scope : Scope} {own frees : List Str} {js : List Nat} (osc : Scope) (N : List Str) (h1 : X.env.scope = osc := by rfl) (h2 : X.N = N := by rfl) (h : compLook scope osc N frees js = true := by decide +kernel) : CompText X scope own frees js := by
  unfold compLook at h
  simp only [Bool.and_eq_true, decide_eq_true_eq, List.all_eq_true] at h
  obtain ⟨⟨⟨⟨⟨a, b⟩, c⟩, d⟩, e⟩, f⟩ := h
  exact ⟨a, b, c, by rw [h1]; exact d, by rw [h2]; exact e, f⟩
mutual
inductive DatV (K : PySem.W.Frag) (H : Hp) : V → PyData → Prop
  | non : DatV K H .non .none
  | bl (b : Bool) : DatV K H (.bl b) (.bool b)
  | int (i : Int) : DatV K H (.int i) (.int i)
  | str (x : Str) : DatV K H (.str x) (.str x)
  | lst {a : Addr} {xs : List V} {ds : List PyData} (h : SqL K H a xs) (r : DatVs K H xs ds) : DatV K H (.ref a) (.list ds)
  | tup {a : Addr} {xs : List V} {ds : List PyData} (h : SqT K H a xs) (r : DatVs K H xs ds) : DatV K H (.ref a) (.tuple ds)
inductive DatVs (K : PySem.W.Frag) (H : Hp) : List V → List PyData → Prop
  | nil : DatVs K H [] []
  | cons {x : V} {d : PyData} {xs : List V} {ds : List PyData} (h : DatV K H x d) (r : DatVs K H xs ds) : DatVs K H (x :: xs) (d :: ds)
end
section
variable {X : Cx} {pins : List (Addr × Obj)} {σ : St} {H : Hp} {s : Shared}
mutual
theorem DatV.reads (I : Inv X pins σ H s) : ∀ {v : V} {d : PyData} {u : Value}, DatV X.K H v d → RelV v u → ∃ as, Reads s.heap u d as
  | _, _, u, .non, r => by cases (show u = Value.none from r); exact ⟨_, .none⟩
  | _, _, u, .bl b, r => by cases (show u = Value.bool b from r); exact ⟨_, .bool b⟩
  | _, _, u, .int i, r => by obtain ⟨t, rfl⟩ := (show ∃ t, u = Value.int i t from r); exact ⟨_, .int i t⟩
  | _, _, u, .str x, r => by obtain ⟨t, rfl⟩ := (show ∃ t, u = Value.str x t from r); exact ⟨_, .str x t⟩
  | _, _, u, .lst (a := a) h rs, r => by
    cases (show u = Value.ref a from r)
    obtain ⟨its, rv, ⟨o, n, e, c, _, d⟩, _⟩ := I.list h
    obtain ⟨as, q⟩ := DatVs.reads I rs rv
    exact ⟨_, .list e c d (by simpa using q)⟩
  | _, _, u, .tup (a := a) h rs, r => by
    cases (show u = Value.ref a from r)
    obtain ⟨its, rv, ⟨o, e, c, n, d⟩, _⟩ := I.tuple h
    obtain ⟨as, q⟩ := DatVs.reads I rs rv
    exact ⟨_, .tuple e c d (by simpa using q)⟩
theorem DatVs.reads (I : Inv X pins σ H s) : ∀ {vs : List V} {ds : List PyData} {us : List Value}, DatVs X.K H vs ds → Vals vs us → ∃ as, ReadsAll s.heap us ds as
  | _, _, _, .nil, .nil => ⟨_, .nil⟩
  | _, _, _, .cons h r, .cons rv rr => by
    obtain ⟨as, q⟩ := DatV.reads I h rv
    obtain ⟨bs, q2⟩ := DatVs.reads I r rr
    exact ⟨_, .cons q q2⟩
end
end
section
variable {X : Cx}
def rEqD (K : PySem.W.Frag) : R2 := fun x y H Q => ∃ d e, DatV K H x d ∧ DatV K H y e ∧ SeqAt.shaped d = true ∧ SeqAt.shaped e = true ∧ Q (.bl (PyData.eqv d e)) H
theorem op_eqD (hu : X.A.units + 64 < cLine) : OpR X (compareOp .Eq) (rEqD X.K) := by
  intro pins s σ H x y v u Q I rx ry h
  obtain ⟨d, e, h1, h2, s1, s2, q⟩ := h
  obtain ⟨as, ra⟩ := h1.reads I rx
  obtain ⟨bs, rb⟩ := h2.reads I ry
  exact eq_dataH ra rb s1 s2 hu ⟨.bl _, H, I, rfl, q⟩
theorem mt_bits : MtR X "int.bit_length" (fun x xs H Q => ∃ i, x = .int i ∧ xs = [] ∧ Q (.int (Builtin.Int.intBits i)) H) := by
  intro pins s σ H x xs v us Q I rx rs h
  obtain ⟨i, rfl, rfl, q⟩ := h
  obtain ⟨t, rfl⟩ := rx
  cases rs
  exact call_int_bit_length ⟨.int _, H, I.tok _, ⟨_, rfl⟩, q⟩
end
theorem dl {n : Nat} (h : Nat.ble n 1000 = true) : n ≤ sizeLine := Nat.le_of_lt (small1000 (Nat.le_of_ble_eq_true h))
theorem modC {j : Int} (h : decide (0 < j) = true) : 0 < j := of_decide_eq_true h
theorem iteD {c A B : Prop} [Decidable c] (h : ¬ c) (hb : B) : if decide c = true then A else B := by
  rw [decide_eq_false h]
  exact iteF hb
theorem iteP {c A B : Prop} [Decidable c] (h : c) (ha : A) : if decide c = true then A else B := by
  rw [decide_eq_true h]
  exact iteT ha
theorem Same.new {H : Hp} {p : Addr} {o : HO} (h : H p = none) : Same H (upd H p o) := fun b u e => by
  rw [upd_ne (ne_of_none e h)]
  exact e
theorem Same.put {H H2 : Hp} {D : Addr} {o : HO} (s : Same H H2) (h : H D = none) : Same H (upd H2 D o) := fun b u e => by
  rw [upd_ne (ne_of_none e h)]
  exact s b u e
def Tups (H H' : Hp) : Prop := ∀ b xs, H b = some (.tup xs) → H' b = some (.tup xs)
theorem Same.tups {H H' : Hp} (s : Same H H') : Tups H H' := fun b xs e => s b _ e
theorem Tups.trans {H H1 H2 : Hp} (a : Tups H H1) (b : Tups H1 H2) : Tups H H2 := fun c xs e => b c xs (a c xs e)
theorem Tups.put {H : Hp} {D : Addr} {o : HO} {ys : List V} (h : H D = some (.lst ys)) : Tups H (upd H D o) := fun b xs e => by
  rw [upd_ne (ne_of e h (by intro z; cases z))]
  exact e
theorem Paired.getP {α β : Type} {F : α → β → Prop} : ∀ {l : List α} {r : List β} {i : Nat} {x : α}, Paired F l r → l[i]? = some x → ∃ y, r[i]? = some y ∧ F x y
  | _, _, _, _, .nil, e => by simp at e
  | _, _, 0, _, .cons h _, e => by
    simp at e
    subst e
    exact ⟨_, rfl, h⟩
  | _, _, i + 1, x, .cons _ t, e => by
    obtain ⟨y, h1, h2⟩ := Paired.getP (i := i) (x := x) t (by simpa using e)
    exact ⟨y, by simpa using h1, h2⟩
section
variable {X : Cx} {l : Expr} {tl : TE} {tg a b o e : Expr} {ta tb to : TE} {es : List Expr}
theorem op_eqK (K : PySem.W.Frag) (hu : X.A.units + 64 < cLine) (h : X.K = K := by rfl) : OpR X (compareOp .Eq) (rEqD K) := by subst h; exact op_eqD hu
def rLen (K : PySem.W.Frag) : List V → Hp → VK → Prop := fun xs H Q => ∃ p ys, xs = [.ref p] ∧ (SqL K H p ys ∨ SqT K H p ys) ∧ Q (.int ys.length) H
theorem lenK (K : PySem.W.Frag) (h : X.K = K := by rfl) : CallR X (.builtin "len") (rLen K) := by subst h; exact call_len_seq
def rList (K : PySem.W.Frag) : List V → Hp → VK → Prop := fun xs H Q => ∃ p ys, xs = [.ref p] ∧ (SqL K H p ys ∨ SqT K H p ys) ∧ ∀ l, H l = none → Q (.ref l) (upd H l (.lst ys))
theorem listK (K : PySem.W.Frag) (h : X.K = K := by rfl) : CallR X (.type "list") (rList K) := by subst h; exact call_list_of
def rTupl (K : PySem.W.Frag) : List V → Hp → VK → Prop := fun xs H Q => ∃ p ys, xs = [.ref p] ∧ ((SqL K H p ys ∧ ∀ l, H l = none → Q (.ref l) (upd H l (.tup ys))) ∨ (SqT K H p ys ∧ Q (.ref p) H))
theorem tuplK (K : PySem.W.Frag) (h : X.K = K := by rfl) : CallR X (.type "tuple") (rTupl K) := by subst h; exact call_tuple_of
theorem ixL (K : PySem.W.Frag) (h : X.K = K := by rfl) : IxR X (rIxL K) := by subst h; exact ix_list
theorem ixT (K : PySem.W.Frag) (h : X.K = K := by rfl) : IxR X (rIxT K) := by subst h; exact ix_tup
theorem slL (K : PySem.W.Frag) (h : X.K = K := by rfl) : SlR X (rSlL K) := by subst h; exact sl_list
theorem slT (K : PySem.W.Frag) (h : X.K = K := by rfl) : SlR X (rSlT K) := by subst h; exact sl_tup
theorem inK (K : PySem.W.Frag) (h : X.K = K := by rfl) : OpR X (compareOp .In) (rIn K false) := by subst h; exact op_in_seq
theorem piL (K : PySem.W.Frag) (hl : PE X l tl) (h : X.K = K := by rfl) : PI X tg l (iList K tl) := by subst h; exact pi_list hl
theorem piT (K : PySem.W.Frag) (hl : PE X l tl) (h : X.K = K := by rfl) : PI X tg l (iTup K tl) := by subst h; exact pi_tup hl
theorem pgT (K : PySem.W.Frag) {k : Nat} {t : TGs} {n : Nat} {pos : Pos} (hc : X.calm = true) (hp : PGs X es t) (hn : (assignEach es X.env).length = n := by rfl) (hst : (assignEach es X.env).findIdx? (·.1) = none := by rfl) (h : X.K = K := by rfl) :
    PG X (.Tuple es k pos) (gTup K n t) := by subst h; exact pg_tup hc hp hn hst
end
def SecD (od : Option Addr) (c : Value) (e : Addr) (h : Heap) : Prop := ∃ oe vs, h.get? e = some oe ∧ oe.data = .fields vs ∧ vs[2]? = some c ∧ oe.dict = od
theorem dict_map (o : Obj) (f) : (o.mapFields f).dict = o.dict := by
  obtain ⟨c, d, dt, sl⟩ := o
  cases dt <;> rfl
section
variable {M : Model} {A : Around} {E : Value → Shared → Prop} {s : Shared} {B : Heap} {env : Env} {outer l : List Env} {L e : Addr} {cls a0 : Value} {Q : Unit → Shared → Prop} {od : Option Addr} {c : Value}
theorem upd_rec {h : Heap} {T : Addr} {oT : Obj} {ts : Array Value} (f : Obj → Obj) (hT : h.get? T = some oT) (hd : oT.data = .fields ts) : h.UpToSlots (h.update T f) := fun b o hb hn => by
  have ne : T ≠ b := fun z => by
    rw [← z, hT] at hb
    cases hb
    exact hn ts hd
  exact ⟨o.slots, (Heap.get?_update_other h f ne).trans hb⟩
theorem stays_rec {h : Heap} {T : Addr} (f : Obj → Obj) (k : B.StaysIn h) (n : B.get? T = none) : B.StaysIn (h.update T f) := fun b o hb => by
  have ne : T ≠ b := fun z => by
    rw [← z, n] at hb
    cases hb
  exact (Heap.get?_update_other h f ne).trans (k b o hb)
theorem FunFrames_up {h h' : Heap} (x : h.FunFrames B l) (u : h.UpToSlots h') : h'.FunFrames B l := x.of_keeps fun b o hb hn =>
  let ⟨_, q⟩ := u b o hb hn
  ⟨_, q, rfl⟩
theorem land2 {fl : Value} (hk : B.StaysIn s.heap) (hn : B.get? e = none) (hl : s.heap.FunFrames B l) (ht : s.heap.TracedAtW B e cls a0 fl) (h2 : SecD od c e s.heap)
    (q : ∀ h', Heap.FlyingW B l e cls a0 h' → SecD od c e h' → s.heap.UpToSlots h' → Q () { s with heap := h' }) : wpAny M A (setFlight (.ref e) none) Q E s := by
  obtain ⟨oe, vs, T, oT, ts, ge, hc, de, f1, nT, Te, gT, dT, f3⟩ := ht
  have z3 : 3 < ts.size := (Array.getElem?_eq_some_iff.mp f3).1
  rw [setFlight]
  refine wpAny_bind (wpAny_field ge de f1 ?_)
  rw [if_pos (by simp)]
  refine wpAny_setField gT dT z3 ?_
  have up := upd_rec (Obj.mapFields (·.setIfInBounds 3 ((none : Option Addr).elim Value.none fun f => rawInt f))) gT dT
  have ge' := (Heap.get?_update_other s.heap (Obj.mapFields (·.setIfInBounds 3 ((none : Option Addr).elim Value.none fun f => rawInt f))) Te).trans ge
  have dT' := Obj.data_mapFields dT (·.setIfInBounds 3 ((none : Option Addr).elim Value.none fun f => rawInt f))
  refine q _ ⟨stays_rec _ hk nT, hn, FunFrames_up hl up, oe, vs, T, _, _, ge', hc, de, f1, nT, Te, Heap.get?_update_self _ gT (Obj.isFreed_of_fields dT'), dT', by simp [z3]⟩ ?_ up
  obtain ⟨o2, v2, g2, d2, k2, z2⟩ := h2
  rw [ge] at g2
  cases g2
  exact ⟨oe, v2, ge', d2, k2, z2⟩
theorem entry2 {oe : Obj} {vs : Array Value} {head : Value} {hadNext : Bool} (hfr : A.frames = some (env :: outer)) (hl : s.heap.FunFrames B (env :: outer)) (hf : env.frame = some L) (ge : s.heap.get? e = some oe) (hk : B.StaysIn s.heap) (hn : B.get? e = none)
    (de : oe.data = .fields vs) (hz : 1 < vs.size) (h0 : vs[0]? = some a0) (h2 : vs[2]? = some c) (hz2 : oe.dict = od)
    (q : ∀ h', Heap.HeldW B (env :: outer) e oe.cls a0 L h' → SecD od c e h' → s.heap.UpToSlots h' → Q () { s with heap := h' }) :
    wpAny M A (do let a ← frameOf env; let pl ← entryPlaceOf L hadNext; let b ← EntryCells.newEntry head a .none (rawInt L) .none pl; setField (.ref e) 1 b) Q E s := by
  have noFr : e ∉ (env :: outer).filterMap (·.frame) := fun z => by
    obtain ⟨_, o, ho, nf⟩ := hl.mem z
    rw [ge] at ho
    cases ho
    exact nf vs de
  refine wpAny_bind (wpAny_frameOf_fun hfr hl hf fun h1 so => wpAny_bind (wpAny_entryPlaceOf fun pl ip => ?_))
  rw [EntryCells.newEntry, newFields]
  refine wpAny_bind (wpAny_newObj_type ?_ (ip.sizeOk5 _ _ _ _ _))
  generalize hnw : ({ cls := .type "traceback", dict := none, data := .fields ([head, .ref L, .none, rawInt L, .none] ++ (if pl.isEmpty then List.replicate 6 Value.none else pl)).toArray } : Obj) = nw
  have dn : nw.data = .fields ([head, .ref L, .none, rawInt L, .none] ++ (if pl.isEmpty then List.replicate 6 Value.none else pl)).toArray := by rw [← hnw]
  have ge1 : h1.get? e = some oe := (so.2.1 e noFr).trans ge
  have ge2 := Heap.get?_push_of_some (h := h1) nw ge1
  have Te : h1.objs.size ≠ e := Nat.ne_of_gt (Heap.lt_size ge1)
  refine wpAny_setField ge2 de hz ?_
  have de3 := Obj.data_mapFields de (·.setIfInBounds 1 (Value.ref h1.objs.size))
  have ge3 := Heap.get?_update_self (Obj.mapFields (·.setIfInBounds 1 (Value.ref h1.objs.size))) ge2 (Obj.isFreed_of_fields de3)
  have gT3 := (Heap.get?_update_other (h1.push nw) (Obj.mapFields (·.setIfInBounds 1 (Value.ref h1.objs.size))) (Ne.symm Te)).trans (Heap.get?_push_size h1 (by rw [← hnw]; rfl))
  have up : s.heap.UpToSlots ((h1.push nw).update e (Obj.mapFields (·.setIfInBounds 1 (Value.ref h1.objs.size)))) := by
    have u1 : s.heap.UpToSlots h1 := fun b o hb _ => so.2.2 b o hb
    exact (u1.trans (.of_keeps fun b o hb => Heap.get?_push_of_some nw hb)).trans (upd_rec _ ge2 de)
  have k1 : B.StaysIn h1 := fun b o hb => (so.2.1 b fun z => by rw [(hl.mem z).1] at hb; cases hb).trans (hk b o hb)
  have k2 : B.StaysIn (h1.push nw) := fun b o hb => Heap.get?_push_of_some nw (k1 b o hb)
  refine q _ ⟨stays_rec _ k2 hn, hn, FunFrames_up hl up, _, _, h1.objs.size, nw, _, ge3, ⟨Obj.cls_mapFields _ _, by rw [Array.getElem?_setIfInBounds_ne (by decide)]; exact h0⟩, de3, by simp [hz], k1.fresh, Te, gT3, dn, ?_⟩ ?_ up
  · first | (simp; done) | (rcases ip with rfl | ⟨_, _, _, _, _, _, _, rfl⟩ <;> simp)
  · exact ⟨_, _, ge3, de3, by rw [Array.getElem?_setIfInBounds_ne (by decide)]; exact h2, (dict_map _ _).trans hz2⟩
theorem note2 (hfr : A.frames = some (env :: outer)) (hf : env.frame = some L) (fl : Heap.FlyingW B (env :: outer) e cls a0 s.heap) (h2 : SecD od c e s.heap)
    (q : ∀ h', Heap.HeldW B (env :: outer) e cls a0 L h' → SecD od c e h' → s.heap.UpToSlots h' → Q () { s with heap := h' }) : wpAny M A (noteFrame (.ref e) env) Q E s := by
  obtain ⟨hk, hn, hl, oe, vs, T, oT, ts, ge, ⟨hc, h0⟩, de, f1, nT, Te, gT, dT, f3⟩ := fl
  obtain ⟨o2, v2, g2, d2, k2, z2⟩ := h2
  rw [ge] at g2
  cases g2
  rw [de] at d2
  cases d2
  cases hc
  rw [noteFrame]
  simp only [hf]
  refine wpAny_bind (wpAny_field ge de f1 ?_)
  rw [if_pos (by simp)]
  refine wpAny_bind (wpAny_field gT dT f3 ?_)
  rw [if_neg (by simp [rawInt])]
  refine wpAny_bind (wpAny_setField gT dT (Array.getElem?_eq_some_iff.mp f3).1 ?_)
  have up := upd_rec (Obj.mapFields (·.setIfInBounds 3 Value.none)) gT dT
  have ge' := (Heap.get?_update_other s.heap (Obj.mapFields (·.setIfInBounds 3 Value.none)) Te).trans ge
  exact entry2 (s := { s with heap := s.heap.update T (Obj.mapFields (·.setIfInBounds 3 Value.none)) }) hfr (FunFrames_up hl up) hf ge' (stays_rec _ hk nT) hn de (Array.getElem?_eq_some_iff.mp f1).1 h0 k2 z2 fun h' x1 x2 x3 => q h' x1 x2 (up.trans x3)
theorem fly2 (x : Heap.FlyingW B (env :: outer) e cls a0 s.heap) : Heap.FlyingW B outer e cls a0 s.heap :=
  let ⟨k1, k2, ⟨_, _, k3⟩, k4⟩ := x
  ⟨k1, k2, k3, k4⟩
theorem leave_on2 (hfr : A.frames = some (env :: outer)) (hf : env.frame = some L) (fl : Heap.FlyingW B (env :: outer) e cls a0 s.heap) (h2 : SecD od c e s.heap)
    (q : ∀ h', Heap.FlyingW B outer e cls a0 h' → SecD od c e h' → s.heap.UpToSlots h' → Q () { s with heap := h' }) : wpAny M A (leaving env (.ref e)) Q E s := by
  rw [leaving]
  refine wpAny_bind (note2 hfr hf fl h2 fun h' x1 x2 x3 => ?_)
  obtain ⟨y1, y2, y3, y4⟩ := x1
  exact land2 (s := { s with heap := h' }) y1 y2 y3 y4 x2 fun h'' z1 z2 z3 => q h'' (fly2 (s := { s with heap := h'' }) z1) z2 (x3.trans z3)
theorem leave_new {oe : Obj} {vs : Array Value} (hfr : A.frames = some (env :: outer)) (hf : env.frame = some L) (hk : B.StaysIn s.heap) (hn : B.get? e = none) (hl : s.heap.FunFrames B (env :: outer)) (ge : s.heap.get? e = some oe) (de : oe.data = .fields vs)
    (h0 : vs[0]? = some a0) (h1 : vs[1]? = some .none) (h2 : vs[2]? = some c) (hz2 : oe.dict = od)
    (q : ∀ h', Heap.FlyingW B outer e oe.cls a0 h' → SecD od c e h' → s.heap.UpToSlots h' → Q () { s with heap := h' }) : wpAny M A (leaving env (.ref e)) Q E s := by
  rw [leaving, noteFrame]
  simp only [hf]
  refine wpAny_bind (wpAny_bind (wpAny_field ge de h1 ?_))
  rw [if_neg (by decide)]
  refine entry2 (a0 := a0) hfr hl hf ge hk hn de (Array.getElem?_eq_some_iff.mp h1).1 h0 h2 hz2 fun h' x1 x2 x3 => ?_
  obtain ⟨y1, y2, y3, y4⟩ := x1
  exact land2 (s := { s with heap := h' }) y1 y2 y3 y4 x2 fun h'' z1 z2 z3 => q h'' (fly2 (s := { s with heap := h'' }) z1) z2 (x3.trans z3)
end
section
variable {P : Program} {w : World} {H H0 H1 : Hp} {h h0 h1 h2 : Heap} {a : Addr} {o : HO} {fs : List Addr} {B : Heap}
theorem ObjOk.thing (x : ObjOk P w H h a o) : ∃ ob, h.get? a = some ob := by
  cases o with
  | lst xs => obtain ⟨_, _, _, _, e⟩ := x; exact ⟨_, e⟩
  | tup xs => obtain ⟨_, _, _, ob, e, _⟩ := x; exact ⟨ob, e⟩
  | dK kvs => obtain ⟨_, _, _, _, ob, _, _, e, _⟩ := x; exact ⟨ob, e⟩
  | dT kvs => obtain ⟨_, _, _, _, ob, _, _, e, _⟩ := x; exact ⟨ob, e⟩
  | set S n => obtain ⟨ob, _, _, _, e, _⟩ := x; exact ⟨ob, e⟩
  | ins C dx fs => obtain ⟨_, _, _, e, _⟩ := x; exact ⟨_, e⟩
  | own y => exact x
  | xd fs => obtain ⟨_, ⟨ob, _, _, e, _⟩, _⟩ := x; exact ⟨ob, e⟩
  | rng lo hi => obtain ⟨_, _, _, e⟩ := x; exact ⟨_, e⟩
  | frz ob u => obtain ⟨e, _⟩ := x; exact ⟨_, e⟩
  | tbl ps => obtain ⟨_, e, _⟩ := x; exact ⟨_, e⟩
  | met f y => exact ⟨_, (show h.get? a = some _ from x)⟩
  | ext φ => obtain ⟨_, e, _⟩ := x; exact e
def Cov (B : Heap) (fs : List Addr) (h0 : Heap) (H : Hp) (h : Heap) : Prop := ∀ b o, h.get? b = some o → (H b ≠ none ∨ ∃ o', h0.get? b = some o') → b ∉ fs → B.get? b = some o
theorem stays_un (un : Un fs [] H0 H1 h0 h1) (hok : HOk P w H1 h1) (nof : ∀ b ∈ fs, H1 b = none) (fr : ∀ b ∈ fs, ∀ ob, h1.get? b = some ob → ∀ vs, ob.data ≠ .fields vs) (cov : Cov B fs h0 H1 h1)
    (hB : B.StaysIn h2) (up : h1.UpToSlots h2) : Un fs [] H0 H1 h0 h2 ∧ HOk P w H1 h2 ∧ Cov B fs h0 H1 h2 := by
  have inB : ∀ b ob, h1.get? b = some ob → (H1 b ≠ none ∨ ∃ o', h0.get? b = some o') → b ∉ fs → h2.get? b = some ob := fun b ob e c n => hB b ob (cov b ob e c n)
  have trk : ∀ b u, H1 b = some u → b ∉ fs := fun b u e z => by
    rw [nof b z] at e
    cases e
  refine ⟨⟨fun b ob e n hb hx => inB b ob (un.keep b ob e n hb hx) (.inr ⟨ob, e⟩) hb, fun b ob e n hb hx => ?_, un.free, fun b ob e hx => ?_, un.tups, un.frzs, un.tbls⟩, fun b u e => ?_, fun b ob e c n => ?_⟩
  · obtain ⟨sl, q⟩ := un.slot b ob e n hb hx
    obtain ⟨sl', q'⟩ := up b _ q (fr b hb _ q)
    exact ⟨sl', q'⟩
  · obtain ⟨o', q⟩ := un.there b ob e hx
    by_cases hb : b ∈ fs
    · obtain ⟨sl', q'⟩ := up b _ q (fr b hb _ q)
      exact ⟨_, q'⟩
    · exact ⟨o', inB b o' q (.inr ⟨ob, e⟩) hb⟩
  · refine (hok b u e).stay (fun c v hc q => ?_) (fun _ q => q) fun _ _ q => q
    have hct : ∃ z, H1 c = some z := by
      rcases hc with hc | hc
      · rw [hc]
        exact ⟨u, e⟩
      · exact ⟨_, hc⟩
    obtain ⟨z, hz⟩ := hct
    exact inB c v q (.inl (by rw [hz]; simp)) (trk c z hz)
  · have ht : ∃ o1, h1.get? b = some o1 := by
      rcases c with c | ⟨o', c⟩
      · cases hz : H1 b with
        | none => exact absurd hz c
        | some z => exact (hok b z hz).thing
      · exact un.there b o' c (by simp)
    obtain ⟨o1, q⟩ := ht
    have q2 := cov b o1 q c n
    have q3 := hB b o1 q2
    rw [e] at q3
    rw [Option.some.inj q3]
    exact q2
end
def ExcO (ea : Addr) (cls : Value) : HO := .ext fun h => ∃ oe vs, h.get? ea = some oe ∧ oe.cls = cls ∧ oe.data = .fields vs ∧ vs[2]? = some .none
def CtxE (E : XK) (cls : Value) (od : Option Addr) (c : Value) (H : Hp) : Prop := (c = .none ∧ (∃ C0 : Addr, cls = .ref C0) ∧ E cls od H) ∨ ∃ C e' C', cls = .ref C ∧ od = none ∧ c = .ref e' ∧ H e' = some (ExcO e' C') ∧ E (.int (C : Int) e') none H
def CX1 (P : Program) (w : World) : CXT := fun outer H s E e s' => ∃ (ea : Addr) (cls a0 : Value) (od : Option Addr) (c : Value) (H' : Hp) (B : Heap), e = .ref ea ∧ s'.os = s.os ∧ AllBare s'.gens ∧ Un (frs outer) [] H H' s.heap s'.heap ∧ HOk P w H' s'.heap ∧ H' ea = none ∧
  Cov B (frs outer) s.heap H' s'.heap ∧ Heap.FlyingW B outer ea cls a0 s'.heap ∧ SecD od c ea s'.heap ∧ CtxE E cls od c H'
structure Out (X : Cx) (E : XK) : Prop where
  stk : X.stack = X.env :: X.outer
  fr : X.env.frame = some X.env.locals
  ex : X.ex = []
  xe : ∀ e s', wpAny (model X.prog X.w) X.A (leaving X.env e) (fun _ s'' => CX1 X.prog X.w X.outer X.H₀ X.s₀ E e s'') (fun e' s'' => CX1 X.prog X.w X.outer X.H₀ X.s₀ E e' s'') s' → X.xe e s'
def Thr (X : Cx) (E : XK) : Prop := ∀ (pins : List (Addr × Obj)) (σ : St) (H : Hp) (s : Shared) (h1 : Heap) (ea C0 : Addr) (vs : List Value), Inv X pins σ H s → Heap.MadeExcOf s.heap h1 ea (.ref C0) vs → E (.ref C0) none H → X.xe (.ref ea) { s with heap := h1 }
section
variable {X : Cx} {E : XK} {pins : List (Addr × Obj)} {σ : St} {H : Hp} {s : Shared}
theorem Inv.fsData (I : Inv X pins σ H s) : ∀ b ∈ X.fs, ∀ ob, s.heap.get? b = some ob → ∀ vs, ob.data ≠ .fields vs := fun b hb ob e => by
  obtain ⟨_, o, ho, hnf⟩ := I.funs.mem hb
  rw [e] at ho
  cases ho
  exact hnf
theorem Inv.fsFree (I : Inv X pins σ H s) (hx : X.ex = []) : ∀ b ∈ X.fs, H b = none := fun b hb => by
  obtain ⟨_, o, ho, _⟩ := I.ok.funs.mem hb
  exact I.base.free b o ho (I.ok.frf b hb) (by rw [hx]; simp)
theorem Cov.outer {B h0 : Heap} {h : Heap} (I : Inv X pins σ H s) (cov : Cov B (frs X.stack) h0 H h) (k : ∀ b o, X.s₀.heap.get? b = some o → ∃ o', h0.get? b = some o') : Cov B X.fs X.s₀.heap H h := fun b o e c n => by
  refine cov b o e (c.imp id fun ⟨o', q⟩ => k b o' q) fun z => ?_
  rcases List.mem_cons.mp (I.stkSub b z) with q | q
  · subst q
    rcases c with c | ⟨o', c⟩
    · exact c I.free
    · exact absurd (Nat.lt_of_lt_of_le (Heap.lt_size c) I.ok.above) (Nat.lt_irrefl _)
  · exact n q
theorem fly_out (O : Out X E) (I : Inv X pins σ H s) {B : Heap} {ea : Addr} {cls a0 : Value} {od : Option Addr} {c : Value} {h2 : Heap} (cov : Cov B X.fs X.s₀.heap H s.heap) (fl : Heap.FlyingW B X.outer ea cls a0 h2) (sc : SecD od c ea h2) (up : s.heap.UpToSlots h2) (hn : H ea = none) (q : CtxE E cls od c H) :
    CX1 X.prog X.w X.outer X.H₀ X.s₀ E (.ref ea) { s with heap := h2 } := by
  have un : Un X.fs [] X.H₀ H X.s₀.heap s.heap := by
    have u := I.base
    rw [O.ex] at u
    exact u
  obtain ⟨u2, ok2, c2⟩ := stays_un un I.hok (I.fsFree O.ex) I.fsData cov fl.1 up
  exact ⟨ea, cls, a0, od, c, H, B, rfl, I.os, I.bare, u2, ok2, hn, c2, fl, sc, q⟩
theorem Out.thrC (O : Out X E) {ea : Addr} {oe : Obj} {vs : Array Value} {a0 c : Value} (I : Inv X pins σ H s) (ge : s.heap.get? ea = some oe) (de : oe.data = .fields vs) (h0 : vs[0]? = some a0) (h1 : vs[1]? = some .none) (h2 : vs[2]? = some c)
    (hn : H ea = none) (new : X.s₀.heap.get? ea = none) (q : CtxE E oe.cls oe.dict c H) : X.xe (.ref ea) s := by
  refine O.xe _ _ ?_
  have hfr : X.A.frames = some (X.env :: X.outer) := by rw [I.ok.frames, O.stk]
  have hl : s.heap.FunFrames (PySem.W.hideAll s.heap (ea :: frs X.stack)) (X.env :: X.outer) := by
    have z := PySem.W.funFrames_hide (as := ea :: frs X.stack) I.stack fun env he b hb => List.mem_cons_of_mem _ (List.mem_filterMap.mpr ⟨env, he, hb⟩)
    rw [O.stk] at z ⊢
    exact z
  refine leave_new hfr O.fr (fun b o e => PySem.W.of_hideAll _ e) (PySem.W.hideAll_none _ (List.mem_cons_self ..)) hl ge de h0 h1 h2 rfl fun h3 fl sc up => ?_
  refine fly_out O I (Cov.outer I (h0 := X.s₀.heap) (fun b o e c n => ?_) fun b o e => ⟨o, e⟩) fl sc up hn q
  refine PySem.W.hideAll_get _ e fun z => ?_
  rcases List.mem_cons.mp z with z | z
  · subst z
    rcases c with c | ⟨o', c⟩
    · exact c hn
    · rw [new] at c
      cases c
  · exact n z
theorem Out.thrG (O : Out X E) {ea : Addr} {oe : Obj} {vs : Array Value} {a0 : Value} (I : Inv X pins σ H s) (ge : s.heap.get? ea = some oe) (de : oe.data = .fields vs) (h0 : vs[0]? = some a0) (h1 : vs[1]? = some .none) (h2 : vs[2]? = some .none)
    (hn : H ea = none) (new : X.s₀.heap.get? ea = none) (hcl : ∃ C0 : Addr, oe.cls = .ref C0) (q : E oe.cls oe.dict H) : X.xe (.ref ea) s := O.thrC I ge de h0 h1 h2 hn new (.inl ⟨rfl, hcl, q⟩)
theorem Out.thr (O : Out X E) : Thr X E := by
  intro pins σ H s h1 ea C0 vs I mk q
  have I1 : Inv X pins σ H { s with heap := h1 } := I.kept (t' := s.toks) mk.keeps
  have hn : H ea = none := by
    cases hz : H ea with
    | none => rfl
    | some z =>
      obtain ⟨ob, e⟩ := (I.hok ea z hz).thing
      rw [mk.new] at e
      cases e
  obtain ⟨t, ge, _, _⟩ := mk.there
  refine O.thrG I1 (a0 := .ref t) ge rfl rfl rfl rfl hn ?_ ⟨_, rfl⟩ q
  cases hz : X.s₀.heap.get? ea with
  | none => rfl
  | some o =>
    obtain ⟨o', e⟩ := I.base.there ea o hz (by rw [O.ex]; simp)
    rw [mk.new] at e
    cases e
theorem Inv.threw {H' : Hp} {s' : Shared} (I : Inv X pins σ H s) (os : s'.os = s.os) (bare : AllBare s'.gens) (un : Un (frs X.stack) [] H H' s.heap s'.heap) (hok : HOk X.prog X.w H' s'.heap) : Inv X pins σ H' s' :=
  I.call' (ch := []) os un hok bare fun b z => absurd z (by simp)
theorem Out.passes (O : Out X E) : Passes (CX1 X.prog X.w) X E := by
  intro pins σ H s e s' I q
  obtain ⟨ea, cls, a0, od, c, H', B, rfl, os, bare, un, hok, hn, cov, fl, sc, qE⟩ := q
  have I1 := I.threw os bare un hok
  refine O.xe _ _ ?_
  have hfr : X.A.frames = some (X.env :: X.outer) := by rw [I.ok.frames, O.stk]
  rw [O.stk] at fl
  refine leave_on2 hfr O.fr fl sc fun h2 fl2 sc2 up => ?_
  exact fly_out O I1 (Cov.outer I1 cov fun b o e => I.base.there b o e (by rw [O.ex]; simp)) fl2 sc2 up hn qE
end
theorem out_of {P : Program} {w : World} {K : PySem.W.Frag} {mg : Str → Option Value} {base : Heap} {N : List Str} {qual : Str} {scope : Scope} {f : Addr} {cd : Value} {A : Around} {outer : List Env} {s : Shared} {H : Hp} {E : XK} :
    Out (cxOf (CX1 P w) P w K mg base N qual scope f cd A outer s H E) E := ⟨rfl, rfl, rfl, fun _ _ h => h⟩
theorem Fun.ok1 {P : Program} {w : World} {K : PySem.W.Frag} {mg : Str → Option Value} {base : Heap} {x qual : Str} {st : Stmt} {f : Addr} {fd : FuncData} {N ps : List Str} {k : Nat} {sp : Sp} (F : Fun K x qual st f fd) (S : FnScope N ps (defScope st))
    (len : ∀ vs H Q E, sp vs H Q E → vs.length = ps.length)
    (hbody : ∀ (cdv : Value) (A : Around) (outer : List Env) (s : Shared) (H : Hp) (vs : List V) (Q : VK) (E : XK), Room k (A.deeper (envOfC qual (defScope st) s.heap.objs.size f cdv)) → sp vs H Q E →
      ∃ t, PSs (cxOf (CX1 P w) P w K mg base N qual (defScope st) f cdv A outer s H E) (defBody st) t ∧ t { nx := fun _ H' => Q .non H', rt := Q } (start N vs) H) : FnOk P w K mg base (CX1 P w) (k + 1) f fd ps sp := by
  obtain ⟨oc, od, kV, doc, pm, an, cdv, ct, osl, rfl, lk, hcd⟩ := F.ex
  exact fn_of lk hcd S len fun A outer s H vs Q E hr hsp => hbody cdv A outer s H vs Q E hr hsp
section
variable {X : Cx} {E : XK}
def tRaise (C : Addr) (E : XK) (t : TA) : TS := fun _ σ H => t σ H fun vs H1 => vs.length ≤ sizeLine ∧ E (.ref C) none H1
theorem ps_raise {x : Str} {C : Addr} {bm : List Value} {B newId initId : String} {e : Expr} {es : List Expr} {ta : TA} {np cpos pos : Pos} (th : Thr X E) (hc : X.calm = true) (hg : Gl X x) (O : ∀ h, X.K.In h → h.Ns mainGlobals X.mg → OwnCls x C bm newId X.mg h)
    (FB : ExcBaseFacts B newId initId bm) (ha : PA X (e :: es) ta) (he : starEach (e :: es) X.env = (false, eval e X.env) :: starEach es X.env := by rfl) (hpl : (backTo cpos (starEach es X.env)).any (·.1) = false := by rfl)
    (hd : (x == ("__debug__" : Str)) = false := by decide) : PS X (.Raise (some (.Call (.Name x np) (e :: es) [] cpos)) none pos) (tRaise C E ta) := by
  intro pins s σ H D I h
  have OC := O _ I.mod.kin I.mod.glob
  obtain ⟨tl, N, nm, q, bs, hdct, sn, sub, ab, col, dd, k0, k1, k2, k3, k5, mN, hC, hN, hni, T⟩ := OC.obj
  refine wpAny_Raise_call_subT (C := C) (nm := nm) (q := q) (N := N) (bs := bs) (bm := tl) (hdct := hdct) (sn := sn) (sub := sub) (ab := ab) (col := col) (dd := dd) (k0 := k0) (k1 := k1) (k2 := k2) (k3 := k3) (k5 := k5)
    FB (mN := mN) (T.hasType FB.hasBase) (I.ok.hd hc) (by rw [he]; show (false || (backTo cpos (starEach es X.env)).any (·.1)) = false; rw [hpl]; rfl) hni (ld_glob I hg OC.bound ⟨rfl, ?_⟩ hd)
  have hA := ha cpos pins s σ H _ I h
  rw [he] at hA ⊢
  refine Calls.evalArgs_plain (wpAny_mono hA (fun us s1 ⟨vs, H1, I1, r1, z, q1⟩ => ?_) fun _ _ y => y)
  exact ⟨rfl, by rw [← r1.length]; exact z, I1.bk _ _ hC, hN.keeps I1.bk, T.keeps I1.bk, fun h' ea hm => th pins σ H1 s1 h' ea _ us I1 hm q1⟩
end
open PySem PySem.Spec PySem.Calls PyProof.Rows PySem.W PySem.Builtin PySem.Builtin.ObjectAttr PySem.Builtin.Getset_descriptor
section
variable {X : Cx}
theorem op_mulB : OpR X (binaryOp .Mult) (rI IntMulOk fun i j => .int (i * j)) := opI fun _ _ _ _ _ _ _ hc q => mul_int q hc
theorem mulOk_of {i j : Int} (hi : i.natAbs < 2 ^ 1000) (hj : j.natAbs < 2 ^ 1000) : IntMulOk i j := by
  have bits : ∀ k : Int, k.natAbs < 2 ^ 1000 → Builtin.Int.intBits k ≤ 2 ^ 20 := fun k hk => by
    unfold Builtin.Int.intBits
    by_cases h0 : k.natAbs = 0
    · simp only [h0]
      split <;> decide
    · have h1 : k.natAbs.log2 < 1000 := (Nat.log2_lt h0).mpr hk
      split <;> (first | lia | omega)
  exact IntMulOk.of_bits (bits i hi) (bits j hj)
def rGetL (K : PySem.W.Frag) : V → V → Hp → VK → Prop := fun o i H Q => ∃ p xs j v, o = .ref p ∧ i = .int ((j : Nat) : Int) ∧ SqL K H p xs ∧ xs[j]? = some v ∧ Q v H
theorem getL (K : PySem.W.Frag) (hK : X.K = K := by rfl) : PGet X (rGetL K) := by
  subst hK
  intro pins s σ H o i ov iv Q I ro ri h
  obtain ⟨p, xs, j, v, rfl, rfl, hq, e, q⟩ := h
  cases ro
  obtain ⟨t, rfl⟩ := ri
  obtain ⟨its, r, pl, hz⟩ := I.list hq
  obtain ⟨u, eu, ru⟩ := r.get e
  have hj : j < xs.length := (List.getElem?_eq_some_iff.mp e).1
  have hn := line63
  exact wpAny_getItem_list pl.isList (by (first | lia | omega)) (by (first | lia | omega)) (by simpa using eu) ⟨v, H, I, ru, q⟩
def rCatL (K : PySem.W.Frag) : R2 := fun x y H Q => ∃ l b xs zs, x = .ref l ∧ y = .ref b ∧ SqL K H l xs ∧ SqL K H b zs ∧ xs.length + zs.length ≤ sizeLine ∧ ∀ p, H p = none → Q (.ref p) (upd H p (.lst (xs ++ zs)))
theorem catL (K : PySem.W.Frag) (hK : X.K = K := by rfl) : OpR X (binaryOp .Add) (rCatL K) := by
  subst hK
  intro pins s σ H x y v u Q I rx ry h
  obtain ⟨l, b, xs, zs, rfl, rfl, hH, hB, hz, q⟩ := h
  cases rx
  cases ry
  obtain ⟨its, r, pl, _⟩ := I.list hH
  obtain ⟨its2, r2, pl2, _⟩ := I.list hB
  obtain ⟨⟨cls, dd, data, sl⟩, n, e, hc, _, hd⟩ := pl
  obtain ⟨⟨cls2, dd2, data2, sl2⟩, n2, e2, hc2, _, hd2⟩ := pl2
  simp only at hc hd hc2 hd2
  subst hc hd hc2 hd2
  have l1 := r.length
  have l2 := r2.length
  have ea : its.toArray ++ its2.toArray = (its ++ its2).toArray := by simp
  refine concat_meets ⟨_, e, rfl⟩ ⟨_, e2, rfl⟩ noFill_list_add seq_list_add PySem.F.slot_list_add PySem.F.entry_list_add (PySem.F.args_list_add_2 _ _)
    (list_addW l b its.toArray its2.toArray n n2 dd dd2 sl sl2 (by rw [List.size_toArray, List.size_toArray]; (first | lia | omega))) ⟨e, e2, ?_⟩
  rw [ea]
  exact ⟨.ref _, _, I.lnew (t' := s.toks) (r.append r2) (by rw [List.length_append]; (first | lia | omega)), rfl, q _ I.fresh⟩
theorem mt_index : MtM X "list.index" (fun x vs H Q => ∃ l xs y j, x = .ref l ∧ vs = [y] ∧ H l = some (.lst xs) ∧ flatV y = true ∧ xs.all flatV = true ∧ j < xs.length ∧ (∀ m z, xs[m]? = some z → m ≤ j → eqV z y = decide (m = j)) ∧ Q (.int (j : Nat)) H) := by
  intro pins s σ H x vs v us Q I rx rv h
  obtain ⟨l, xs, y, j, rfl, rfl, hH, fy, fx, hj, hit, q⟩ := h
  cases rx
  obtain ⟨u, rfl, ru⟩ := rv.one
  obtain ⟨z, its, n, r, hl, e⟩ := I.lstM hH
  have hn := line63
  have at_ : ∀ m (hm : m < its.toArray.size), m ≤ j → eqU y its.toArray[m] = decide (m = j) := fun m hm hmj => by
    have hm' : m < xs.length := by rw [hl]; simpa using hm
    have ez : xs[m]? = some xs[m] := by simp [hm']
    obtain ⟨u', eu, ru'⟩ := r.get ez
    have e2 : its.toArray[m] = u' := by
      have := (List.getElem?_eq_some_iff.mp eu).2
      simpa using this
    have fz : flatV xs[m] = true := List.all_eq_true.mp fx _ (List.getElem_mem hm')
    rw [e2, eqU_of ru' fz]
    exact hit m _ ez hmj
  have hsz : j < its.toArray.size := by rw [List.size_toArray]; (first | lia | omega)
  refine call_meets PySem.F.slot_list_index ⟨_, e, rfl⟩ PySem.F.entry_list_index (PySem.F.args_list_index_2 _ _) (SeqAt.list_indexAt l its.toArray n none #[] u (eqU y) j hsz (by (first | lia | omega)) ?_ ?_) ⟨e, fun w hw => mem_eqAt ru fy r fx w (by simpa using hw), ?_⟩
  · rw [at_ j hsz (Nat.le_refl _)]
    simp
  · intro m hm hmj
    rw [at_ m hm (by (first | lia | omega))]
    exact decide_eq_false (by (first | lia | omega))
  · exact ⟨.int _, H, I.tok _, ⟨s.toks, rfl⟩, q⟩
end
section
variable {X : Cx} {tg : Expr}
theorem ps_for1 {iter : Expr} {body : List Stmt} {wi : TI} {g : TG} {tb : TS} {pos : Pos} (hc : X.calm = true) (hi : PI X tg iter wi) (hg : PG X.nox tg g) (hb : PSs X.nox body tb) (hs : ∀ x, foldedSetIterable iter X.env x = pure x := by intro _; rfl) :
    PS X (.For tg iter body [] pos) (tFor wi g tb) := by
  intro pins s σ H D I h
  refine wpAny_For (thn (hi pins s σ H _ I h) fun v s1 h1 => thn h1 fun itv s2 h2 => ?_) hs
  obtain ⟨it, fp, tn, J, H2, e, I2, T, st2, f2, W, ⟨m0, w0⟩, turn⟩ := h2
  subst e
  have stat : ∀ {H' : Hp}, (∀ b ∈ fp, H' b = none) → ∀ b ∈ fp, FpOk X.nox pins H' b := fun hn b hb => ⟨hn b hb, (f2 b hb).2⟩
  refine codeAny_forLoop_any (fun n s' => ∃ i σ' H', Inv X.nox pins σ' H' s' ∧ tn i s'.heap ∧ (∀ b ∈ fp, H' b = none) ∧ W i n σ' H') ?_ m0 ⟨0, σ, H2, I2.wish _, st2, fun b hb => (f2 b hb).1, w0⟩
  rintro n s3 ⟨i, σ3, H3, I3, st3, fr3, w3⟩
  rcases turn i n σ3 H3 w3 with ⟨stop, qn⟩ | ⟨go, N, hN, step⟩
  · refine wpAny_mono (T.done X.nox rfl rfl rfl hc i pins s3 σ3 H3 (fun _ _ => False) I3 (stat fr3) st3 stop) (fun r s4 ⟨hr, I4⟩ => ?_) fun _ _ z => z.elim
    subst hr
    exact wpAny_execs_nil ⟨σ3, H3, I4.unwish, qn⟩
  · refine wpAny_mono (T.item X.nox rfl rfl rfl hc i pins s3 σ3 H3 (fun _ _ => False) I3 (stat fr3) st3 go) (fun r s4 ⟨u, hr, h4⟩ => ?_) fun _ _ z => z.elim
    subst hr
    refine wpAny_mono h4 (fun _ s5 ⟨x, H5, I5, r5, y5, st5, fr5⟩ => ?_) fun _ _ z => z.elim
    have I5' := I5.pinned (stat fr5) (T.obj _ _ st5)
    refine wpAny_mono (hg _ s5 σ3 H5 x u _ I5' r5 (step x H5 y5)) (fun _ s6 ⟨σ6, H6, I6, q6⟩ => ?_) fun _ _ z => z.elim
    refine wpAny_mono (hb _ s6 σ6 H6 _ I6 q6) (fun f s7 q7 => ?_) fun _ _ z => z.elim
    have again : ∀ {σ7 : St} {H7 : Hp}, Inv X.nox (pins ++ pinsAt fp s5.heap) σ7 H7 s7 → N σ7 H7 → ∃ m, m < n ∧ ∃ i σ' H', Inv X.nox pins σ' H' s7 ∧ tn i s7.heap ∧ (∀ b ∈ fp, H' b = none) ∧ W i m σ' H' := fun {σ7 H7} I7 n7 => by
      obtain ⟨m', hm, w7⟩ := hN σ7 H7 n7
      refine ⟨m', hm, i + 1, σ7, H7, I7.unpinned, T.keep _ _ _ st5 fun b hb o e => (I7.pin (b, o) (List.mem_append_right _ (List.mem_append_right _ (mem_pinsAt hb e)))).1, fun b hb => ?_, w7⟩
      obtain ⟨o, e, d⟩ := T.obj _ _ st5 b hb
      exact (I7.pin (b, o) (List.mem_append_right _ (List.mem_append_right _ (mem_pinsAt hb e)))).2.1
    cases f with
    | next => obtain ⟨σ7, H7, I7, n7⟩ := q7; exact again I7 n7
    | cont => obtain ⟨σ7, H7, I7, n7⟩ := q7; exact again I7 n7
    | brk => obtain ⟨σ7, H7, I7, q7⟩ := q7; exact ⟨σ7, H7, I7.unpinned.unwish, q7⟩
    | ret v => obtain ⟨x7, σ7, H7, I7, r7, q7⟩ := q7; exact ⟨x7, σ7, H7, I7.unpinned.unwish, r7, q7⟩
theorem passN {P : Program} {w : World} {X : Cx} : Passes (CX1 P w) X (fun _ _ _ => False) := by
  intro pins σ H s e s' I q
  obtain ⟨_, _, _, _, _, _, _, _, _, _, _, _, _, _, _, _, z⟩ := q
  rcases z with ⟨_, _, z⟩ | ⟨_, _, _, _, _, _, _, z⟩
  · exact z.elim
  · exact z.elim
end
theorem own_of {K : PySem.W.Frag} {h : Heap} {mg : Str → Option Value} {x : Str} {C : Addr} {bmB : List Value} {newId : String} (X : K.In h) (G : h.Ns mainGlobals mg) (e : PySem.W.nsIn K mainGlobals x = some (some (.ref C))) (q : PySem.W.excIn K C bmB newId = true) :
    OwnCls x C bmB newId mg h := by
  refine ⟨PySem.W.mg_of X G e, ?_⟩
  unfold PySem.W.excIn at q
  split at q
  · rename_i od cd sl look
    split at q
    · rename_i Cx bm j0 j1 j2 j3 nw j5 hmro hsl
      simp only [Bool.and_eq_true, beq_iff_eq, Bool.not_eq_true'] at q
      obtain ⟨⟨⟨⟨⟨rfl, rfl⟩, hdel⟩, ht⟩, hok⟩, hni⟩ := q
      obtain ⟨nm, bs, mro, ns, qn, hd, sn, sub, ab, col, del⟩ := cd
      (dsimp only at hmro hdel hok hni; subst hmro hdel)
      have hs2 : sl = #[j0, j1, j2, j3, some (.builtin nw), j5] := by
        obtain ⟨l⟩ := sl
        simp only at hsl
        rw [hsl]
      subst hs2
      exact ⟨bm, ns, nm, qn, bs, hd, sn, sub, ab, col, od, j0, j1, j2, j3, j5, _, X _ _ look, .of_isNs (PySem.W.isNs_of_in X hok), PySem.W.nsMap_none_of_in X hok hni, PySem.W.tail_of_in X ht⟩
    · cases q
  · cases q
theorem len1 {α : Type} : ∀ us : List α, us.length = 1 → ∃ a, us = [a]
  | [_], _ => ⟨_, rfl⟩
theorem len2 {α : Type} : ∀ us : List α, us.length = 2 → ∃ a b, us = [a, b]
  | [_, _], _ => ⟨_, _, rfl⟩
theorem len3 {α : Type} : ∀ us : List α, us.length = 3 → ∃ a b c, us = [a, b, c]
  | [_, _, _], _ => ⟨_, _, _, rfl⟩
theorem len4 {α : Type} : ∀ us : List α, us.length = 4 → ∃ a b c d, us = [a, b, c, d]
  | [_, _, _, _], _ => ⟨_, _, _, _, rfl⟩
section
variable {X : Cx} {pins : List (Addr × Obj)} {σ : St} {H : Hp} {s : Shared} {h' : Heap}
theorem Inv.yields {t' : Nat} {wr : List Addr} {T : Addr} {o : HO} (I : Inv X pins σ H s) (k : ∀ b u, b ∉ wr → s.heap.get? b = some u → h'.get? b = some u) (hf : ∀ b ∈ wr, FpOk X pins H b) (hT : s.heap.objs.size ≤ T)
    (new : ObjOk X.prog X.w (upd H T o) h' T o) : Inv X pins σ (upd H T o) { s with heap := h', toks := t' } := by
  have hTn : H T = none := I.hok.fresh hT
  have nT : ∀ b u, H b = some u → b ≠ T := fun b u e => ne_of_none e hTn
  have nw : ∀ b u, H b = some u → b ∉ wr := fun b u e hb => by rw [(hf b hb).1] at e; cases e
  refine I.step (g' := s.gens) (d' := s.drawn) (ch := wr) (fun b hb => ?_) (fun b o _ _ hc e _ => k b o hc e) (fun b o _ _ hc e _ => ⟨o.slots, k b o hc e⟩) (fun b u hc e n => ?_)
    (fun b o hc e => ⟨o, k b o hc e⟩) (fun b xs e => ?_) (fun b ob xs e => ?_) (fun b ps e => ⟨#[], ?_⟩) (fun m hm => ?_) (fun b u e => ?_) I.bare
  · obtain ⟨_, f1, _, f3, f4, f5⟩ := hf b hb
    exact ⟨f3, f1, f4, f5⟩
  · rw [upd_ne (Nat.ne_of_lt (Nat.lt_of_lt_of_le (Heap.lt_size e) hT))]; exact n
  · rw [upd_ne (nT b _ e)]; exact e
  · rw [upd_ne (nT b _ e)]; exact e
  · rw [upd_ne (nT b _ e), e]; simp
  · obtain ⟨o, es, ep, ho, r⟩ := hm
    exact ⟨o, es, ep, k _ o (fun hb => (hf _ hb).2.1 rfl) ho, r⟩
  · by_cases hb : b = T
    · subst hb; rw [upd_same] at e; cases e; exact new
    · rw [upd_ne hb] at e
      refine (I.hok b u e).stay (fun c v hc q => k c v ?_ q) (fun c q => by rw [upd_ne (nT c _ q)]; exact q) fun c xs q => by rw [upd_ne (nT c _ q)]; exact q
      rcases hc with z | z
      · rw [z]; exact nw b u e
      · exact nw c _ z
theorem Inv.turnedL {t' : Nat} {wr : List Addr} (I : Inv X pins σ H s) (k : ∀ b u, b ∉ wr → s.heap.get? b = some u → h'.get? b = some u) (hf : ∀ b ∈ wr, FpOk X pins H b) : Inv X pins σ H { s with heap := h', toks := t' } := by
  have nw : ∀ b u, H b = some u → b ∉ wr := fun b u e hb => by rw [(hf b hb).1] at e; cases e
  refine I.step (g' := s.gens) (d' := s.drawn) (ch := wr) (fun b hb => ?_) (fun b o _ _ hc e _ => k b o hc e) (fun b o _ _ hc e _ => ⟨o.slots, k b o hc e⟩) (fun _ _ _ _ n => n)
    (fun b o hc e => ⟨o, k b o hc e⟩) (fun _ _ e => e) (fun _ _ _ e => e) (fun b ps e => ⟨#[], by rw [e]; simp⟩) (fun m hm => ?_) (fun b u e => ?_) I.bare
  · obtain ⟨_, f1, _, f3, f4, f5⟩ := hf b hb
    exact ⟨f3, f1, f4, f5⟩
  · obtain ⟨o, es, ep, ho, r⟩ := hm
    exact ⟨o, es, ep, k _ o (fun hb => (hf _ hb).2.1 rfl) ho, r⟩
  · refine (I.hok b u e).stay (fun c v hc q => k c v ?_ q) (fun _ q => q) fun _ _ q => q
    rcases hc with z | z
    · rw [z]; exact nw b u e
    · exact nw c _ z
end
def Itz (K : PySem.W.Frag) (a b : Addr) : It :=
  ⟨fun i H => ∃ xs ys x y, SqL K H a xs ∧ SqL K H b ys ∧ xs[i]? = some x ∧ ys[i]? = some y,
   fun i H v H' => ∃ T x y, v = .ref T ∧ H T = none ∧ H' = upd H T (.tup [x, y]) ∧ (∀ xs, SqL K H a xs → xs[i]? = some x) ∧ ∀ ys, SqL K H b ys → ys[i]? = some y,
   fun i H => ∃ xs ys, SqL K H a xs ∧ SqL K H b ys ∧ (xs.length ≤ i ∨ ys.length ≤ i)⟩
theorem turn_zip {P : Program} {w : World} {K : PySem.W.Frag} {elts : List Expr} {k : Nat} {pos : Pos} (a b z TI TO i1 i2 : Addr) (D : ZipApart z TI TO i1 i2 a b) :
    Turn P w K (.Tuple elts k pos) (Itz K a b) [z, TI, TO, i1, i2] z (fun i h => IsZip h z TI TO .none ∧ IsPair h TI (.ref i1) (.ref i2) ∧ (∃ u v, IsPair h TO u v) ∧ h.IsListIter i1 a i ∧ h.IsListIter i2 b i) where
  mem := by simp
  obj := fun i h st c hc => by
    obtain ⟨hz, hI, ⟨u, v, hO⟩, ⟨o1, ho1, _, d1⟩, o2, ho2, _, d2⟩ := st
    have hc' : c = z ∨ c = TI ∨ c = TO ∨ c = i1 ∨ c = i2 := by simpa using hc
    rcases hc' with rfl | rfl | rfl | rfl | rfl
    · exact ⟨_, hz, fun v z => by cases z⟩
    · exact ⟨_, hI, fun v z => by cases z⟩
    · exact ⟨_, hO, fun v z => by cases z⟩
    · exact ⟨o1, ho1, fun v z => by rw [d1] at z; cases z⟩
    · exact ⟨o2, ho2, fun v z => by rw [d2] at z; cases z⟩
  keep := fun i h h' st k => by
    obtain ⟨hz, hI, ⟨u, v, hO⟩, h1, h2⟩ := st
    exact ⟨k z (by simp) _ hz, k TI (by simp) _ hI, ⟨u, v, k TO (by simp) _ hO⟩, h1.at fun o e => k i1 (by simp) o e, h2.at fun o e => k i2 (by simp) o e⟩
  item := by
    intro X hP hw hK hc i pins s σ H E I hf st hg
    subst hP hw hK
    obtain ⟨xs, ys, x, y, hq, hq2, hx, hy⟩ := hg
    obtain ⟨its, rv, p, hzl⟩ := I.list hq
    obtain ⟨its2, rv2, p2, hzl2⟩ := I.list hq2
    obtain ⟨u, hu, ru⟩ := rv.get hx
    obtain ⟨u2, hu2, ru2⟩ := rv2.get hy
    obtain ⟨hz, hI, ⟨v1, v2, hO⟩, h1, h2⟩ := st
    refine wpAny_pyNext_zip_item D hz hI hO h1 h2 p.isList p2.isList (x := u) (y := u2) (by simpa using hu) (by simpa using hu2) fun h3 hz3 hO3 h13 h23 hT hsz hk => ?_
    refine ⟨_, rfl, wpAny_letOwnedTupleGo_zip hz3 fun h4 hz4 hs4 => ?_⟩
    have lt : ∀ {c o}, s.heap.get? c = some o → s.heap.objs.size ≠ c := fun e => Nat.ne_of_gt (Heap.lt_size e)
    have hT4 : h4.get? s.heap.objs.size = some { cls := .type "tuple", data := .seq #[u, u2] } := (hs4.2 _ (lt hz)).trans hT
    have kk : ∀ c o, c ∉ [z, TO, i1, i2] → s.heap.get? c = some o → h4.get? c = some o := fun c o hc q => by
      have c1 : c ≠ z := fun e => hc (by simp [e])
      exact (hs4.2 c c1).trans (hk c o c1 (fun e => hc (by simp [e])) (fun e => hc (by simp [e])) (fun e => hc (by simp [e])) q)
    have hsub : ∀ c ∈ [z, TO, i1, i2], c ∈ [z, TI, TO, i1, i2] := fun c hc => by
      have hc' : c = z ∨ c = TO ∨ c = i1 ∨ c = i2 := by simpa using hc
      rcases hc' with rfl | rfl | rfl | rfl <;> simp
    refine ⟨.ref s.heap.objs.size, upd H s.heap.objs.size (.tup [x, y]), I.yields (wr := [z, TO, i1, i2]) (t' := s.toks) kk (fun c hc => hf c (hsub c hc)) (Nat.le_refl _) ?_, rfl,
      ⟨_, x, y, rfl, I.fresh, rfl, fun zs hy => by rw [I.list_inj hy hq]; exact hx, fun zs hz => by rw [I.list_inj hz hq2]; exact hy⟩, ⟨hz4, (hs4.2 _ D.TIz).trans (hk _ _ D.TIz D.TITO D.TIi1 D.TIi2 hI), ⟨u, u2, (hs4.2 _ D.TOz).trans hO3⟩, ?_, ?_⟩, fun c hc => ?_⟩
    · exact ⟨dl rfl, [u, u2], .cons ru (.cons ru2 .nil), ⟨_, hT4, rfl, _, rfl⟩⟩
    · exact h13.at fun o q => (hs4.2 _ D.i1z).trans q
    · exact h23.at fun o q => (hs4.2 _ D.i2z).trans q
    · rw [upd_ne]
      · exact (hf c hc).1
      · have hc' : c = z ∨ c = TI ∨ c = TO ∨ c = i1 ∨ c = i2 := by simpa using hc
        rcases hc' with rfl | rfl | rfl | rfl | rfl
        · exact Ne.symm (lt hz)
        · exact Ne.symm (lt hI)
        · exact Ne.symm (lt hO)
        · obtain ⟨o, q, _⟩ := h1
          exact Ne.symm (lt q)
        · obtain ⟨o, q, _⟩ := h2
          exact Ne.symm (lt q)
  done := by
    intro X hP hw hK hc i pins s σ H E I hf st hg
    subst hP hw hK
    obtain ⟨xs, ys, hq, hq2, hx⟩ := hg
    obtain ⟨its, rv, p, hzl⟩ := I.list hq
    obtain ⟨its2, rv2, p2, hzl2⟩ := I.list hq2
    obtain ⟨hz, hI, ⟨v1, v2, hO⟩, h1, h2⟩ := st
    have hl := rv.length
    have hl2 := rv2.length
    have hsub : ∀ c ∈ [z, TO, i1, i2], c ∈ [z, TI, TO, i1, i2] := fun c hc => by
      have hc' : c = z ∨ c = TO ∨ c = i1 ∨ c = i2 := by simpa using hc
      rcases hc' with rfl | rfl | rfl | rfl <;> simp
    refine wpAny_pyNext_zip_end (I.ok.hd hc) D hz hI hO h1 h2 p.isList p2.isList (hx.imp (fun q => by simp; (first | lia | omega)) fun q => by simp; (first | lia | omega)) fun h' kk => ⟨rfl, I.turnedL (wr := [z, TO, i1, i2]) (t' := s.toks) (fun c o hc q => ?_) fun c hc => hf c (hsub c hc)⟩
    exact kk c o (fun e => hc (by simp [e])) (fun e => hc (by simp [e])) (fun e => hc (by simp [e])) (fun e => hc (by simp [e])) q
  self := fun _ _ _ _ _ st h => wpAny_pyIter_zip st.1 h
theorem zip_apart {n a b : Nat} (la : a < n) (lb : b < n) : ZipApart (n + 4) (n + 2) (n + 3) n (n + 1) a b := by
  have k : ∀ {x y : Nat}, x < y ∨ y < x → x ≠ y := fun h => by (first | lia | omega)
  constructor <;> exact k (by (first | lia | omega))
section
variable {X : Cx} {elts : List Expr} {n : Nat} {tp : Pos}
def iZip (K : PySem.W.Frag) (ta : TA) : TI := fun σ H R => ta σ H fun vs H1 => ∃ a b, vs = [.ref a, .ref b] ∧ (∃ xs, SqL K H1 a xs) ∧ (∃ ys, SqL K H1 b ys) ∧ R (Itz K a b) H1
theorem pi_zip (K : PySem.W.Frag) {a b : Expr} {ta : TA} {p pos : Pos} (hg : Gl X "zip") (hm : X.mg "zip" = none) (ha : PA X [a, b] ta) (hs : starEach [a, b] X.env = [(false, eval a X.env), (false, eval b X.env)] := by rfl) (hs2 : starEach [b] X.env = [(false, eval b X.env)] := by rfl) (hK : X.K = K := by rfl) :
    PI X (.Tuple elts n tp) (.Call (.Name "zip" p) [a, b] [] pos) (iZip K ta) := by
  subst hK
  intro pins s σ H R I h
  refine Call_ (ld_blt I hg hm boot_zip (PyProof.Rows.callWith_type1 (thn (ha pos pins s σ H _ I h) fun us s1 ⟨vs, H1, I1, r1, q1⟩ => ?_) (by rw [hs, hs2]) (by rw [hs2]; rfl)))
  obtain ⟨a, b, e, ⟨xs, hq⟩, ⟨ys, hq2⟩, q⟩ := q1
  subst e
  cases r1 with
  | cons r rr =>
    cases rr with
    | cons r' rr =>
      cases rr
      cases r
      cases r'
      obtain ⟨its, rv, pl, hz⟩ := I1.list hq
      obtain ⟨its2, rv2, pl2, hz2⟩ := I1.list hq2
      refine call_zip_2 pl.isList pl2.isList fun h' hzz hI hO h1 h2 hsz hk => ?_
      have I2 : Inv X pins σ H1 { s1 with heap := h' } := I1.kept (t' := s1.toks) hk
      have la : a < s1.heap.objs.size := by obtain ⟨_, q, _⟩ := pl.isList; exact Heap.lt_size q
      have lb : b < s1.heap.objs.size := by obtain ⟨_, q, _⟩ := pl2.isList; exact Heap.lt_size q
      refine wpAny_pyIter_zip hzz ⟨_, [s1.heap.objs.size + 4, s1.heap.objs.size + 2, s1.heap.objs.size + 3, s1.heap.objs.size, s1.heap.objs.size + 1], _, _, H1, rfl, I2,
        turn_zip a b _ _ _ _ _ (zip_apart la lb), ⟨hzz, hI, ⟨_, _, hO⟩, h1, h2⟩, fun c hc => ?_, q⟩
      have hc' : c = s1.heap.objs.size + 4 ∨ c = s1.heap.objs.size + 2 ∨ c = s1.heap.objs.size + 3 ∨ c = s1.heap.objs.size ∨ c = s1.heap.objs.size + 1 := by simpa using hc
      have hcs : s1.heap.objs.size ≤ c := by
        rcases hc' with rfl | rfl | rfl | rfl | rfl
        · exact Nat.le_add_right _ _
        · exact Nat.le_add_right _ _
        · exact Nat.le_add_right _ _
        · exact Nat.le_refl _
        · exact Nat.le_add_right _ _
      exact I1.fpOk hcs (I1.hok.fresh hcs)
end
section
variable {K : PySem.W.Frag} {a b : Addr} {xs ys : List V} {g : TG} {tt : TT} {te : TE} {n : Nat} {fr : St} {D : Addr} {Q : Hp → Prop} {H1 : Hp}
theorem comp_zip (hxy : xs.length = ys.length) (Pv : Nat → List V → Hp → Prop) (h0 : Pv 0 [] H1) (hl : ∀ i acc H, i ≤ xs.length → Pv i acc H → SqL K H a xs ∧ SqL K H b ys ∧ H D = some (.lst acc) ∧ acc.length ≤ i) (hz : xs.length ≤ sizeLine)
    (hs : ∀ i x y T acc H, xs[i]? = some x → ys[i]? = some y → Pv i acc H → H T = none → g (.ref T) (List.replicate n none ++ fr) (upd H T (.tup [x, y])) fun σ2 H2 => σ2.drop n = fr ∧ tt σ2 H2 fun b H3 =>
      if b = true then te σ2 H3 fun v H4 => H4 D = some (.lst acc) ∧ Pv (i + 1) (acc ++ [v]) (upd H4 D (.lst (acc ++ [v]))) else Pv (i + 1) acc H3)
    (hd : ∀ acc H, Pv xs.length acc H → Q H) : CompLoop (Itz K a b) g tt te n fr D Q H1 := by
  refine ⟨fun i m acc H => m = xs.length - i ∧ i ≤ xs.length ∧ Pv i acc H, ⟨xs.length, by simp, Nat.zero_le _, h0⟩, ?_⟩
  rintro i m acc H ⟨rfl, hi, p⟩
  obtain ⟨q, q2, hD, ha⟩ := hl i acc H hi p
  refine ⟨hD, ?_⟩
  by_cases hlt : i < xs.length
  · have hlt2 : i < ys.length := by (first | lia | omega)
    refine .inr ⟨⟨xs, ys, xs[i], ys[i], q, q2, by simp [hlt], by simp [hlt2]⟩, by (first | lia | omega), Pv (i + 1), fun acc' H' p' => ⟨xs.length - (i + 1), by (first | lia | omega), rfl, hlt, p'⟩, fun v H' y => ?_⟩
    obtain ⟨T, x, z, rfl, hT, rfl, y1, y2⟩ := y
    exact hs i x z T acc _ (y1 xs q) (y2 ys q2) p hT
  · have e : i = xs.length := by (first | lia | omega)
    subst e
    exact .inl ⟨⟨xs, ys, q, q2, .inl (Nat.le_refl _)⟩, hd acc H p⟩
end
section
variable {X : Cx}
theorem call_rng : CallR X (.type "range") (fun xs H Q => ∃ j : Int, xs = [.int j] ∧ ∀ p, H p = none → Q (.ref p) (upd H p (.rng 0 j))) := by
  intro pins s σ H xs us Q I r h
  obtain ⟨j, rfl, q⟩ := h
  obtain ⟨u, rfl, t, rfl⟩ := vals1 r
  refine call_range_1 ⟨.ref s.heap.objs.size, _, I.laid (t' := s.toks + 1 + 1) (fun b o e => Heap.get?_push_of_some _ e) (Nat.le_refl _) ?_, rfl, q _ I.fresh⟩
  exact ⟨_, _, _, Heap.get?_push_size _ rfl⟩
def rngV (n : Nat) : List V := (List.range n).map fun i => V.int ((i : Nat) : Int)
theorem listR (hc : X.calm = true) : CallR X (.type "list") (fun xs H Q => ∃ p, ∃ n : Nat, xs = [.ref p] ∧ H p = some (.rng 0 (n : Int)) ∧ n ≤ 900 ∧ ∀ l, H l = none → Q (.ref l) (upd H l (.lst (rngV n)))) := by
  intro pins s σ H xs us Q I r h
  obtain ⟨p, n, rfl, hp, hn, q⟩ := h
  obtain ⟨u, rfl, rx⟩ := vals1 r
  cases rx
  obtain ⟨t, u, v, e⟩ := (show ObjOk X.prog X.w H s.heap p (.rng 0 (n : Int)) from I.hok p _ hp)
  have hsz : Builtin.Range.rangeSize 0 (n : Int) 1 = (n : Int) := by rw [rangeSize_one]; split <;> (first | lia | omega)
  refine call_list_range (I.ok.hd hc) e (small_one (by (first | lia | omega)) (by (first | lia | omega)) (by (first | lia | omega)) (by (first | lia | omega))) hsz (Nat.le_trans hn (by decide)) fun h' tk acc c kp e' hacc => ?_
  refine ⟨.ref s.heap.objs.size, _, I.laid (t' := tk) kp (Nat.le_refl _) ?_, rfl, q _ I.fresh⟩
  have hl : acc.toList.length = n := by rw [Array.length_toList]; exact hacc.1
  have hz : (rngV n).length ≤ sizeLine := by
    unfold rngV
    rw [List.length_map, List.length_range]
    exact Nat.le_of_lt (small1000 (by (first | lia | omega)))
  refine ⟨hz, acc.toList, c, ?_, by simpa using e'⟩
  have key : ∀ (ys : List Value) (k : Nat), (∀ j v, ys[j]? = some v → ∃ t, v = Value.int (((k + j : Nat)) : Int) t) → Vals ((List.range' k ys.length).map fun i => V.int ((i : Nat) : Int)) ys := by
    intro ys
    induction ys with
    | nil => intro k _; exact .nil
    | cons y r ih =>
      intro k hy
      obtain ⟨t, ht⟩ := hy 0 y rfl
      refine .cons ⟨t, by simpa using ht⟩ (ih (k + 1) fun j v hv => ?_)
      obtain ⟨t', ht'⟩ := hy (j + 1) v (by simpa using hv)
      exact ⟨t', by rw [ht']; congr 2; (first | lia | omega)⟩
  have z := key acc.toList 0 fun j v hv => by
    obtain ⟨t, ht⟩ := hacc.2 j v (by simpa using hv)
    exact ⟨t, by rw [ht]; congr 1; (first | lia | omega)⟩
  rw [hl] at z
  unfold rngV
  rw [List.range_eq_range']
  exact z
theorem sumK (K : PySem.W.Frag) (hc : X.calm = true) (hK : X.K = K := by rfl) : CallR X (.builtin "sum") (fun xs H Q => ∃ (p : Addr) (ns : List Int), xs = [.ref p] ∧ SqL K H p (ns.map V.int) ∧ Q (.int ns.sum) H) := by
  subst hK
  intro pins s σ H xs us Q I r h
  obtain ⟨p, ns, rfl, hq, q⟩ := h
  obtain ⟨u, rfl, rx⟩ := vals1 r
  cases rx
  obtain ⟨its, rv, pl, hz⟩ := I.list hq
  have hi : ∀ {ns : List Int} {its : List Value}, Vals (ns.map V.int) its → ∃ xs : Array (Int × Tok), its.toArray = intItems xs ∧ xs.toList.map (·.1) = ns := by
    intro ns
    induction ns with
    | nil => intro its r; cases r; exact ⟨#[], by simp [intItems], rfl⟩
    | cons a l ih =>
      intro its r
      cases r with
      | cons r1 r2 =>
        obtain ⟨t, rfl⟩ := r1
        obtain ⟨xs, h1, h2⟩ := ih r2
        refine ⟨#[(a, t)] ++ xs, ?_, by simp [h2]⟩
        have h1' := congrArg Array.toList h1
        simp only [intItems, Array.toList_map, List.toList_toArray] at h1'
        simp [intItems, h1', Array.map_append]
  obtain ⟨ar, e1, e2⟩ := hi rv
  have hl : s.heap.IsList p (intItems ar) := e1 ▸ pl.isList
  refine sum_intListG (I.ok.hd hc) hl fun h' tk t' hk => ?_
  have e3 : preSum (numAt ar) ar.size = ns.sum := by rw [preSum_eq, List.take_of_length_le (by simp), e2]
  rw [e3]
  exact ⟨.int ns.sum, H, I.kept hk, ⟨t', rfl⟩, q⟩
end
end L2
namespace Ring
open PySem
abbrev Tie := Int × Int × Int
def bit (S : Int) (k : Nat) : Bool := decide (S / 2 ^ k % 2 = 1)
def tiesOf (S : Int) : List Nat := (List.range (Builtin.Int.intBits S)).filter (bit S)
def bump (e : List Int) (i : Int) : List Int := e.set i.toNat (e.getD i.toNat 0 + 1)
def step (ts : List Tie) (e : List Int) (k : Nat) : List Int := match ts[k]? with
  | some t => bump (bump e t.1) t.2.1
  | none => e
def endsOf (p : Nat) (ts : List Tie) (S : Int) : List Int := (tiesOf S).foldl (step ts) (List.replicate p 0)
def oddOf (p : Nat) (ts : List Tie) (S : Int) : List Nat := (List.range p).filter fun i => decide ((endsOf p ts S).getD i 0 % 2 = 1)
def deg (ts : List Tie) (k i : Nat) : Int := match ts[k]? with
  | some t => (if t.1 = (i : Int) then 1 else 0) + (if t.2.1 = (i : Int) then 1 else 0)
  | none => 0
theorem bump_len (e : List Int) (i : Int) : (bump e i).length = e.length := by unfold bump; rw [List.length_set]
theorem step_len (ts : List Tie) (e : List Int) (k : Nat) : (step ts e k).length = e.length := by
  unfold step
  split
  · rw [bump_len, bump_len]
  · rfl
theorem fold_len (ts : List Tie) : ∀ (ks : List Nat) (e : List Int), (ks.foldl (step ts) e).length = e.length
  | [], _ => rfl
  | k :: r, e => by rw [List.foldl_cons, fold_len ts r, step_len]
theorem bump_get (e : List Int) (j : Int) (i : Nat) (h0 : 0 ≤ j) (h1 : j < e.length) : (bump e j).getD i 0 = e.getD i 0 + if j = (i : Int) then 1 else 0 := by
  unfold bump
  rw [List.getD_eq_getElem?_getD, List.getD_eq_getElem?_getD, List.getD_eq_getElem?_getD]
  by_cases h : j = (i : Int)
  · have hi : j.toNat = i := by (first | lia | omega)
    rw [if_pos h, hi, List.getElem?_set_self (by (first | lia | omega))]
    rfl
  · have hi : j.toNat ≠ i := by (first | lia | omega)
    rw [if_neg h, List.getElem?_set_ne hi]
    (first | lia | omega)
structure InWeb (p : Nat) (ts : List Tie) : Prop where
  ends : ∀ t ∈ ts, 0 ≤ t.1 ∧ t.1 < (p : Int) ∧ 0 ≤ t.2.1 ∧ t.2.1 < (p : Int)
theorem step_get {p : Nat} {ts : List Tie} (W : InWeb p ts) (e : List Int) (k i : Nat) (he : e.length = p) : (step ts e k).getD i 0 = e.getD i 0 + deg ts k i := by
  unfold step deg
  cases h : ts[k]? with
  | none => simp
  | some t =>
    obtain ⟨a0, a1, b0, b1⟩ := W.ends t (List.mem_of_getElem? h)
    dsimp only
    rw [bump_get _ _ _ b0 (by rw [bump_len, he]; exact b1), bump_get _ _ _ a0 (by rw [he]; exact a1)]
    (first | lia | omega)
def sumDeg (ts : List Tie) (ks : List Nat) (i : Nat) : Int := (ks.map fun k => deg ts k i).sum
theorem fold_get {p : Nat} {ts : List Tie} (W : InWeb p ts) (i : Nat) : ∀ (ks : List Nat) (e : List Int), e.length = p → (ks.foldl (step ts) e).getD i 0 = e.getD i 0 + sumDeg ts ks i
  | [], e, _ => by simp [sumDeg]
  | k :: r, e, he => by
    rw [List.foldl_cons, fold_get W i r _ (by rw [step_len, he]), step_get W e k i he]
    unfold sumDeg
    rw [List.map_cons, List.sum_cons]
    (first | lia | omega)
theorem ends_get {p : Nat} {ts : List Tie} (W : InWeb p ts) (S : Int) (i : Nat) : (endsOf p ts S).getD i 0 = sumDeg ts (tiesOf S) i := by
  unfold endsOf
  rw [fold_get W i _ _ (by simp)]
  have e : (List.replicate p (0 : Int)).getD i 0 = 0 := by
    rw [List.getD_eq_getElem?_getD, List.getElem?_replicate]
    split <;> rfl
  rw [e]
  (first | lia | omega)
theorem bit_nat (m k : Nat) : bit (m : Int) k = m.testBit k := by
  unfold bit
  rw [Nat.testBit_eq_decide_div_mod_eq]
  have e : ((m : Int) / 2 ^ k % 2 = 1) ↔ (m / 2 ^ k % 2 = 1) := by
    have h2 : ((2 : Int) ^ k) = ((2 ^ k : Nat) : Int) := by simp
    rw [h2, ← Int.natCast_ediv]
    (first | lia | omega)
  simp only [e]
theorem bits_nat (m : Nat) : Builtin.Int.intBits (m : Int) = if m = 0 then 0 else m.log2 + 1 := by
  unfold Builtin.Int.intBits
  by_cases h : m = 0
  · simp [h]
  · simp [h]
theorem bits_le {m n : Nat} (h : m < 2 ^ n) : Builtin.Int.intBits (m : Int) ≤ n := by
  rw [bits_nat]
  split
  · exact Nat.zero_le _
  · rename_i h0
    exact (Nat.log2_lt h0).mpr h
theorem bit_high {m k : Nat} (h : Builtin.Int.intBits (m : Int) ≤ k) : bit (m : Int) k = false := by
  rw [bit_nat]
  rw [bits_nat] at h
  by_cases h0 : m = 0
  · simp [h0]
  · rw [if_neg h0] at h
    exact Nat.testBit_lt_two_pow (Nat.lt_of_lt_of_le Nat.lt_log2_self (Nat.pow_le_pow_right (by decide) h))
theorem range_filter (f : Nat → Bool) (a : Nat) : ∀ d, (∀ k, a ≤ k → f k = false) → (List.range (a + d)).filter f = (List.range a).filter f
  | 0, _ => rfl
  | d + 1, h => by
    rw [← Nat.add_assoc, List.range_succ, List.filter_append, range_filter f a d h]
    have e : [a + d].filter f = [] := by rw [List.filter_cons, if_neg (by rw [h _ (by (first | lia | omega))]; simp)]; rfl
    rw [e, List.append_nil]
theorem ties_nat {m n : Nat} (h : m < 2 ^ n) : tiesOf (m : Int) = (List.range n).filter fun k => m.testBit k := by
  unfold tiesOf
  have hb := bits_le h
  obtain ⟨d, hd⟩ := Nat.exists_eq_add_of_le hb
  have e : (fun k => m.testBit k) = bit (m : Int) := funext fun k => (bit_nat m k).symm
  rw [e]
  conv => rhs; rw [hd]
  exact (range_filter _ _ d fun k hk => bit_high hk).symm
theorem ties_lt {m n : Nat} (h : m < 2 ^ n) {k : Nat} (hk : k ∈ tiesOf (m : Int)) : k < n := by
  rw [ties_nat h] at hk
  exact List.mem_range.mp (List.mem_filter.mp hk).1
theorem sum_filter (ts : List Tie) (i : Nat) (f : Nat → Bool) : ∀ ks : List Nat, sumDeg ts (ks.filter f) i = (ks.map fun k => if f k = true then deg ts k i else 0).sum
  | [] => rfl
  | k :: r => by
    have ih := sum_filter ts i f r
    rw [List.map_cons, List.sum_cons, ← ih]
    cases h : f k with
    | true =>
      rw [List.filter_cons, if_pos h]
      unfold sumDeg
      rw [List.map_cons, List.sum_cons]
      simp
    | false =>
      rw [List.filter_cons, if_neg (by rw [h]; simp)]
      simp
theorem bits_sum {a b x y : Nat} (q : x / 2 + 2 * (y / 2) = a / 2 + b / 2) (h : x % 2 + 2 * (y % 2) = a % 2 + b % 2) : x + 2 * y = a + b := by (first | lia | omega)
theorem mod_one {u v : Nat} (hu : u = 0 ∨ u = 1) (hv : v = 0 ∨ v = 1) : (u ^^^ v) + 2 * (u &&& v) = u + v := by
  rcases hu with rfl | rfl <;> rcases hv with rfl | rfl <;> rfl
theorem xor_and : ∀ a b : Nat, (a ^^^ b) + 2 * (a &&& b) = a + b := by
  intro a
  induction a using Nat.strongRecOn with
  | ind a ih =>
    intro b
    by_cases h : a = 0
    · subst h
      simp
    · have q := ih (a / 2) (by (first | lia | omega)) (b / 2)
      rw [← Nat.xor_div_two, ← Nat.and_div_two] at q
      refine bits_sum q ?_
      have e1 : (a ^^^ b) % 2 = a % 2 ^^^ b % 2 := Nat.xor_mod_two_pow (n := 1)
      have e2 : (a &&& b) % 2 = a % 2 &&& b % 2 := Nat.and_mod_two_pow (n := 1)
      rw [e1, e2]
      exact mod_one (Nat.mod_two_eq_zero_or_one a) (Nat.mod_two_eq_zero_or_one b)
theorem xor_int (a b : Nat) : Builtin.bitXor (a : Int) (b : Int) = ((a ^^^ b : Nat) : Int) := by
  have h : (a : Int) + b - 2 * ((a &&& b : Nat) : Int) = ((a ^^^ b : Nat) : Int) := by
    have q := xor_and a b
    (first | lia | omega)
  have e := PyProof.Rows.bitXor_and (a : Int) (b : Int)
  rw [e, PyProof.Rows.bitAnd_pp (by (first | lia | omega)) (by (first | lia | omega))]
  simpa using h
open PySem L2
def tieV (t : Tie) : List V := [.int t.1, .int t.2.1, .int t.2.2]
def TupAt (H : Hp) (x : V) (t : Tie) : Prop := ∃ b, x = .ref b ∧ H b = some (.tup (tieV t))
structure WebAt (H : Hp) (w : Addr) (p : Nat) (ts : List Tie) : Prop where
  ex : ∃ b xs, H w = some (.tup [.int (p : Int), .ref b]) ∧ H b = some (.tup xs) ∧ Paired (TupAt H) xs ts
structure Web (p : Nat) (ts : List Tie) : Prop where
  inw : InWeb p ts
  len : ts.length ≤ 24
  pts : p ≤ 10
theorem TupAt.tups {H H' : Hp} (s : Tups H H') {x : V} {t : Tie} (h : TupAt H x t) : TupAt H' x t := by
  obtain ⟨b, e, h⟩ := h
  exact ⟨b, e, s _ _ h⟩
theorem WebAt.tups {H H' : Hp} {w : Addr} {p : Nat} {ts : List Tie} (s : Tups H H') (h : WebAt H w p ts) : WebAt H' w p ts := by
  obtain ⟨b, xs, h1, h2, h3⟩ := h.ex
  exact ⟨b, xs, s _ _ h1, s _ _ h2, Paired.imp' (fun _ _ z => z.tups s) h3⟩
theorem WebAt.same {H H' : Hp} {w : Addr} {p : Nat} {ts : List Tie} (s : Same H H') (h : WebAt H w p ts) : WebAt H' w p ts := h.tups s.tups
def natsV (l : List Nat) : List V := l.map fun k => V.int ((k : Nat) : Int)
theorem natsV_snoc (l : List Nat) (k : Nat) : natsV (l ++ [k]) = natsV l ++ [.int (k : Int)] := by unfold natsV; rw [List.map_append]; rfl
theorem natsV_len (l : List Nat) : (natsV l).length = l.length := by unfold natsV; rw [List.length_map]
theorem natsV_get {l : List Nat} {i : Nat} {x : V} (h : (natsV l)[i]? = some x) : ∃ k, l[i]? = some k ∧ x = .int (k : Int) := by
  unfold natsV at h
  rw [List.getElem?_map] at h
  obtain ⟨k, e, q⟩ := Option.map_eq_some_iff.mp h
  exact ⟨k, e, q.symm⟩
theorem filter_range_succ (f : Nat → Bool) (i : Nat) : (List.range (i + 1)).filter f = (List.range i).filter f ++ (if f i = true then [i] else []) := by
  rw [List.range_succ, List.filter_append]
  congr 1
  cases h : f i with
  | true => rw [List.filter_cons, if_pos h, if_pos rfl]; rfl
  | false => rw [List.filter_cons, if_neg (by rw [h]; simp), if_neg (by simp)]; rfl
def Pick (f : Nat → Bool) (H : Hp) (D : Addr) (i : Nat) (acc : List V) (H2 : Hp) : Prop := Same H H2 ∧ H2 D = some (.lst acc) ∧ acc = natsV ((List.range i).filter f)
section
variable {f : Nat → Bool} {H H2 H3 : Hp} {D : Addr} {i : Nat} {acc : List V}
theorem Pick.start (hD : H D = none) : Pick f H D 0 [] (upd H D (.lst [])) := ⟨Same.new hD, upd_same, rfl⟩
theorem Pick.len (p : Pick f H D i acc H2) : H2 D = some (.lst acc) ∧ acc.length ≤ i := by
  refine ⟨p.2.1, ?_⟩
  rw [p.2.2, natsV_len]
  exact Nat.le_trans (List.length_filter_le _ _) (by rw [List.length_range]; exact Nat.le_refl _)
theorem Pick.yes (p : Pick f H D i acc H2) (hD : H D = none) (s : Same H2 H3) (hf : f i = true) : H3 D = some (.lst acc) ∧ Pick f H D (i + 1) (acc ++ [.int (i : Int)]) (upd H3 D (.lst (acc ++ [.int (i : Int)]))) := by
  refine ⟨s _ _ p.2.1, (p.1.trans s).put hD, upd_same, ?_⟩
  rw [filter_range_succ, if_pos hf, natsV_snoc, ← p.2.2]
theorem Pick.no (p : Pick f H D i acc H2) (s : Same H2 H3) (hf : f i = false) : Pick f H D (i + 1) acc H3 := by
  refine ⟨p.1.trans s, s _ _ p.2.1, ?_⟩
  rw [filter_range_succ, if_neg (by rw [hf]; simp), List.append_nil]
  exact p.2.2
end
def tieAt (ts : List Tie) (k : Nat) : Tie := ts.getD k (0, 0, 0)
def stepT (e : List Int) (t : Tie) : List Int := bump (bump e t.1) t.2.1
theorem fold_ties {ts : List Tie} : ∀ (ks : List Nat) (e : List Int), (∀ k ∈ ks, k < ts.length) → (ks.map (tieAt ts)).foldl stepT e = ks.foldl (step ts) e
  | [], _, _ => rfl
  | k :: r, e, h => by
    rw [List.map_cons, List.foldl_cons, List.foldl_cons, fold_ties r _ fun j hj => h j (List.mem_cons_of_mem _ hj)]
    have hk := h k List.mem_cons_self
    have e1 : ts[k]? = some (tieAt ts k) := by
      unfold tieAt
      rw [List.getD_eq_getElem?_getD]
      simp [hk]
    have e2 : step ts e k = stepT e (tieAt ts k) := by
      unfold step stepT
      rw [e1]
    rw [e2]
theorem ends_ties {p : Nat} {ts : List Tie} {m : Nat} (h : m < 2 ^ ts.length) : endsOf p ts (m : Int) = ((tiesOf (m : Int)).map (tieAt ts)).foldl stepT (List.replicate p 0) := by
  unfold endsOf
  rw [fold_ties _ _ fun k hk => ties_lt h hk]
theorem stepT_len (e : List Int) (t : Tie) : (stepT e t).length = e.length := by unfold stepT; rw [bump_len, bump_len]
theorem foldT_len : ∀ (l : List Tie) (e : List Int), (l.foldl stepT e).length = e.length
  | [], _ => rfl
  | t :: r, e => by rw [List.foldl_cons, foldT_len r, stepT_len]
def intsV (l : List Int) : List V := l.map V.int
theorem intsV_get {l : List Int} {i : Nat} (h : i < l.length) : (intsV l)[i]? = some (.int (l.getD i 0)) := by
  unfold intsV
  rw [List.getElem?_map, List.getD_eq_getElem?_getD]
  simp [h]
theorem intsV_bump (l : List Int) (i : Nat) : (intsV l).set i (.int (l.getD i 0 + 1)) = intsV (bump l (i : Int)) := by
  unfold intsV bump
  rw [Int.toNat_natCast, List.map_set]
theorem rep_zero (p : Nat) : (List.replicate p [V.int 0]).flatten = intsV (List.replicate p 0) := by
  induction p with
  | zero => rfl
  | succ p ih => rw [List.replicate_succ, List.flatten_cons, ih, List.replicate_succ]; rfl
theorem ixN_nat {n j : Nat} (h : j < n) : ixN n (j : Int) = some j := by
  unfold ixN
  rw [if_pos (by (first | lia | omega)), if_pos (by (first | lia | omega)), Int.toNat_natCast]
def natD (k : Nat) : PyData := .int (k : Int)
theorem nats_dat {K : PySem.W.Frag} {H : Hp} : ∀ l : List Nat, DatVs K H (natsV l) (l.map natD)
  | [] => .nil
  | _ :: r => .cons (.int _) (nats_dat r)
theorem lay_nats : ∀ l : List Nat, PyData.canLayAll0 (l.map natD) = true
  | [] => rfl
  | _ :: r => by
    have ih := lay_nats r
    simp only [List.map_cons, PyData.canLayAll0, ih, Bool.and_true]
    rfl
theorem deep_nats : ∀ l : List Nat, PyData.depthAll (l.map natD) = 0
  | [] => rfl
  | _ :: r => by
    have ih := deep_nats r
    show max (PyData.depth (PyData.int _)) (PyData.depthAll (r.map _)) = 0
    rw [ih]
    rfl
theorem shaped_nats (l : List Nat) : SeqAt.shaped (.list (l.map natD)) = true := by
  unfold SeqAt.shaped
  have e : (PyData.list (l.map natD)).canLay0 = PyData.canLayAll0 (l.map natD) := by simp [PyData.canLay0]
  rw [e, lay_nats, Bool.true_and]
  refine decide_eq_true ?_
  have e2 : PyData.depth (PyData.list (l.map natD)) = PyData.depthAll (l.map natD) + 1 := by simp [PyData.depth]
  rw [e2, deep_nats]
  decide
theorem eqv_nil (l : List Nat) : PyData.eqv (.list (l.map natD)) (.list []) = decide (l = []) := by
  cases l with
  | nil => rfl
  | cons a r => rfl
theorem has_eq (S : Int) (k : Nat) : decide (V.int (Builtin.bitAnd (S / 2 ^ k) 1) = V.int 1) = bit S k := by
  unfold bit
  rw [PyProof.Rows.bitAnd_m1]
  rw [Bool.eq_iff_iff]
  simp
theorem bit_eq (S : Int) (k : Nat) : decide (V.int (S / 2 ^ k % 2) = V.int 1) = bit S k := by
  unfold bit
  rw [Bool.eq_iff_iff]
  simp
theorem dec_one (x : Int) : decide (V.int x = V.int 1) = decide (x = 1) := by
  rw [Bool.eq_iff_iff]
  simp
structure GoodTie (p : Int) (t : Tie) : Prop where
  a0 : 0 ≤ t.1
  a1 : t.1 < p
  b0 : 0 ≤ t.2.1
  b1 : t.2.1 < p
  ne : t.1 ≠ t.2.1
  l0 : 1 ≤ t.2.2
  l1 : t.2.2 ≤ 1000000000000000000000000000000
structure GoodWeb (p : Nat) (ts : List Tie) : Prop where
  p1 : 1 ≤ p
  p2 : p ≤ 10
  len : ts.length ≤ 24
  ties : ∀ t ∈ ts, GoodTie (p : Int) t
theorem GoodWeb.web {p : Nat} {ts : List Tie} (g : GoodWeb p ts) : Web p ts := ⟨⟨fun t ht => let z := g.ties t ht; ⟨z.a0, z.a1, z.b0, z.b1⟩⟩, g.len, g.p2⟩
def Ties (p : Int) (H : Hp) (D : Addr) (n : Nat) (H2 : Hp) : Prop := Same H H2 ∧ ∃ acc ts, H2 D = some (.lst acc) ∧ Paired (TupAt H2) acc ts ∧ acc.length = n ∧ ∀ t ∈ ts, GoodTie p t
section
variable {p : Int} {H H2 H3 : Hp} {D b : Addr} {n : Nat} {t : Tie}
theorem Ties.start (hD : H D = none) : Ties p H D 0 (upd H D (.lst [])) := ⟨Same.new hD, [], [], upd_same, .nil, rfl, fun t ht => nomatch ht⟩
theorem Ties.push (h : Ties p H D n H2) (hD : H D = none) (s : Same H2 H3) (g : GoodTie p t) (hb : H3 b = some (.tup (tieV t))) :
    ∃ acc, H3 D = some (.lst acc) ∧ acc.length = n ∧ Ties p H D (n + 1) (upd H3 D (.lst (acc ++ [.ref b]))) := by
  obtain ⟨s2, acc, ts, hd, pr, hn, gt⟩ := h
  have hd3 : H3 D = some (.lst acc) := s _ _ hd
  refine ⟨acc, hd3, hn, (s2.trans s).put hD, acc ++ [.ref b], ts ++ [t], upd_same, ?_, by rw [List.length_append, List.length_singleton, hn], fun u hu => ?_⟩
  · exact Paired.snoc (Paired.imp' (fun _ _ z => z.tups (s.tups.trans (Tups.put hd3))) pr) ⟨b, rfl, Tups.put hd3 _ _ hb⟩
  · rcases List.mem_append.mp hu with hu | hu
    · exact gt u hu
    · cases List.mem_singleton.mp hu
      exact g
theorem Ties.fin {q : Nat} (h : Ties (q : Int) H D n H2) : ∃ acc ts, H2 D = some (.lst acc) ∧ ts.length = n ∧ (∀ t ∈ ts, GoodTie (q : Int) t) ∧ ∀ l, H2 l = none → ∀ w, upd H2 l (.tup acc) w = none →
    Same H (upd (upd H2 l (.tup acc)) w (.tup [.int (q : Int), .ref l])) ∧ WebAt (upd (upd H2 l (.tup acc)) w (.tup [.int (q : Int), .ref l])) w q ts := by
  obtain ⟨s2, acc, ts, hd, pr, hn, gt⟩ := h
  refine ⟨acc, ts, hd, by rw [← pr.length, hn], gt, fun l hl w hw => ?_⟩
  have n1 : Same H2 (upd H2 l (.tup acc)) := Same.new hl
  have n2 := n1.trans (Same.new (o := .tup [.int (q : Int), .ref l]) hw)
  refine ⟨s2.trans n2, l, acc, upd_same, ?_, Paired.imp' (fun _ _ z => z.tups n2.tups) pr⟩
  rw [upd_ne (ne_of_none upd_same hw), upd_same]
end
theorem other_ne {p o r : Int} (h : 0 ≤ o) (h1 : o < p) (r0 : 0 ≤ r) (r1 : r < p - 1) : 0 ≤ (o + 1 + r) % p ∧ (o + 1 + r) % p < p ∧ o ≠ (o + 1 + r) % p := by
  have hp : 0 < p := by (first | lia | omega)
  refine ⟨Int.emod_nonneg _ (by (first | lia | omega)), Int.emod_lt_of_pos _ hp, ?_⟩
  by_cases hlt : o + 1 + r < p
  · rw [Int.emod_eq_of_lt (by (first | lia | omega)) hlt]
    (first | lia | omega)
  · have e : (o + 1 + r) % p = o + 1 + r - p := by
      rw [← Int.sub_emod_right, Int.emod_eq_of_lt (by (first | lia | omega)) (by (first | lia | omega))]
    rw [e]
    (first | lia | omega)
theorem small24 {n : Nat} (h : n ≤ 24) : n ≤ sizeLine := Nat.le_of_lt (small1000 (by (first | lia | omega)))
theorem smallL {n : Nat} (h : n ≤ 900) : n < sizeLine := small1000 (by (first | lia | omega))
theorem ints_at {ns : List Int} {k : Nat} (h : k < ns.length) : (ns.map V.int)[k]? = some (.int (ns.getD k 0)) := by
  rw [List.getElem?_map, List.getD_eq_getElem?_getD]
  simp [h]
theorem emod2 (x m : Int) (h : 0 < m) : 0 ≤ x % m ∧ x % m < m := ⟨Int.emod_nonneg _ (by (first | lia | omega)), Int.emod_lt_of_pos _ h⟩
end Ring
namespace RM
def xsum (f : Nat → Bool) : Nat → Bool
  | 0 => false
  | n + 1 => xsum f n ^^ f n
theorem xsum_congr {f g : Nat → Bool} : ∀ {n : Nat}, (∀ k, k < n → f k = g k) → xsum f n = xsum g n
  | 0, _ => rfl
  | n + 1, h => by
    unfold xsum
    rw [xsum_congr fun k hk => h k (by (first | lia | omega)), h n (by (first | lia | omega))]
theorem xsum_xor (f g : Nat → Bool) : ∀ n, xsum (fun k => f k ^^ g k) n = (xsum f n ^^ xsum g n)
  | 0 => rfl
  | n + 1 => by
    unfold xsum
    rw [xsum_xor f g n]
    cases xsum f n <;> cases xsum g n <;> cases f n <;> cases g n <;> rfl
theorem xsum_false : ∀ n, xsum (fun _ => false) n = false
  | 0 => rfl
  | n + 1 => by unfold xsum; rw [xsum_false n]; rfl
theorem xsum_and (c : Bool) (f : Nat → Bool) : ∀ n, xsum (fun k => c && f k) n = (c && xsum f n)
  | 0 => by cases c <;> rfl
  | n + 1 => by
    unfold xsum
    rw [xsum_and c f n]
    cases c <;> simp
theorem xsum_comm (f : Nat → Nat → Bool) (n : Nat) : ∀ m, xsum (fun x => xsum (fun k => f x k) n) m = xsum (fun k => xsum (fun x => f x k) m) n
  | 0 => by
    show false = _
    rw [← xsum_false n]
    rfl
  | m + 1 => by
    show (xsum (fun x => xsum (fun k => f x k) n) m ^^ xsum (fun k => f m k) n) = _
    rw [xsum_comm f n m, ← xsum_xor]
    rfl
theorem xsum_none {f : Nat → Bool} {n : Nat} (h : ∀ k, k < n → f k = false) : xsum f n = false := by
  rw [xsum_congr (g := fun _ => false) h, xsum_false]
theorem xsum_one {f : Nat → Bool} {a : Nat} : ∀ {n : Nat}, a < n → (∀ k, k < n → k ≠ a → f k = false) → xsum f n = f a
  | 0, h, _ => absurd h (Nat.not_lt_zero _)
  | n + 1, h, z => by
    unfold xsum
    by_cases e : a = n
    · subst e
      rw [xsum_none fun k hk => z k (by (first | lia | omega)) (by (first | lia | omega))]
      simp
    · rw [xsum_one (a := a) (by (first | lia | omega)) fun k hk hn => z k (by (first | lia | omega)) hn, z n (by (first | lia | omega)) (fun q => e q.symm)]
      simp
theorem xsum_point (C : Nat → Bool) {a m : Nat} (h : a < m) : xsum (fun x => C x && decide (a = x)) m = C a := by
  rw [xsum_one h fun k _ hk => by simp [Ne.symm hk]]
  simp
structure Net where
  p : Nat
  n : Nat
  a : Nat → Nat
  b : Nat → Nat
  al : ∀ k, k < n → a k < p
  bl : ∀ k, k < n → b k < p
  ne : ∀ k, k < n → a k ≠ b k
variable (N : Net)
def Net.inc (k x : Nat) : Bool := decide (N.a k = x) ^^ decide (N.b k = x)
def Net.bd (m x : Nat) : Bool := xsum (fun k => m.testBit k && N.inc k x) N.n
def Net.Even (m : Nat) : Prop := ∀ x, x < N.p → N.bd m x = false
variable {N}
theorem bd_xor (m q x : Nat) : N.bd (m ^^^ q) x = (N.bd m x ^^ N.bd q x) := by
  unfold Net.bd
  rw [← xsum_xor]
  refine xsum_congr fun k _ => ?_
  rw [Nat.testBit_xor]
  cases m.testBit k <;> cases q.testBit k <;> cases N.inc k x <;> rfl
theorem bd_zero (x : Nat) : N.bd 0 x = false := by
  unfold Net.bd
  exact xsum_none fun k _ => by simp
theorem bd_pow {k : Nat} (h : k < N.n) (x : Nat) : N.bd (2 ^ k) x = N.inc k x := by
  unfold Net.bd
  rw [xsum_one h fun j _ hj => by simp [Nat.testBit_two_pow, Ne.symm hj]]
  simp [Nat.testBit_two_pow]
theorem Even.xor {m q : Nat} (h : N.Even m) (h' : N.Even q) : N.Even (m ^^^ q) := fun x hx => by rw [bd_xor, h x hx, h' x hx]; rfl
theorem Even.zero : N.Even 0 := fun x _ => bd_zero x
theorem bd_class {m : Nat} (C : Nat → Bool) (h : ∀ k, k < N.n → m.testBit k = true → C (N.a k) = C (N.b k)) : xsum (fun x => C x && N.bd m x) N.p = false := by
  have e : xsum (fun x => C x && N.bd m x) N.p = xsum (fun x => xsum (fun k => C x && (m.testBit k && N.inc k x)) N.n) N.p :=
    xsum_congr fun x _ => (xsum_and (C x) _ N.n).symm
  rw [e, xsum_comm]
  refine xsum_none fun k hk => ?_
  have e2 : xsum (fun x => C x && (m.testBit k && N.inc k x)) N.p = (m.testBit k && (C (N.a k) ^^ C (N.b k))) := by
    rw [← xsum_point C (N.al k hk), ← xsum_point C (N.bl k hk), ← xsum_xor, ← xsum_and]
    refine xsum_congr fun x _ => ?_
    unfold Net.inc
    cases C x <;> cases m.testBit k <;> cases decide (N.a k = x) <;> cases decide (N.b k = x) <;> rfl
  rw [e2]
  cases hb : m.testBit k with
  | false => rfl
  | true => rw [h k hk hb]; simp
def join (L : Nat → Nat) (u v : Nat) : Nat → Nat := fun x => if L x = max (L u) (L v) then min (L u) (L v) else L x
theorem join_eq {L : Nat → Nat} {u v x y : Nat} (h : L x = L y) : join L u v x = join L u v y := by unfold join; rw [h]
theorem join_ends (L : Nat → Nat) (u v : Nat) : join L u v u = join L u v v := by
  unfold join
  split <;> split <;> (first | lia | omega)
theorem join_same {L : Nat → Nat} {u v : Nat} (h : L u = L v) : join L u v = L := by
  funext x
  unfold join
  rw [h]
  split <;> (first | lia | omega)
theorem join_apart {L : Nat → Nat} {u v x y : Nat} (h : join L u v x = join L u v y) : L x = L y ∨ (L x = L u ∧ L y = L v) ∨ (L x = L v ∧ L y = L u) := by
  unfold join at h
  have mm : (max (L u) (L v) = L u ∧ min (L u) (L v) = L v) ∨ (max (L u) (L v) = L v ∧ min (L u) (L v) = L u) := by
    rcases Nat.le_total (L u) (L v) with q | q
    · exact .inr ⟨Nat.max_eq_right q, Nat.min_eq_left q⟩
    · exact .inl ⟨Nat.max_eq_left q, Nat.min_eq_right q⟩
  rcases mm with ⟨e1, e2⟩ | ⟨e1, e2⟩
  · rw [e1, e2] at h
    split at h
    · rename_i hx
      split at h
      · rename_i hy
        exact .inl (hx.trans hy.symm)
      · exact .inr (.inl ⟨hx, h.symm⟩)
    · split at h
      · rename_i hy
        exact .inr (.inr ⟨h, hy⟩)
      · exact .inl h
  · rw [e1, e2] at h
    split at h
    · rename_i hx
      split at h
      · rename_i hy
        exact .inl (hx.trans hy.symm)
      · exact .inr (.inr ⟨hx, h.symm⟩)
    · split at h
      · rename_i hy
        exact .inr (.inl ⟨h, hy⟩)
      · exact .inl h
theorem join_le {L : Nat → Nat} {u v x : Nat} (h : L x ≤ x) : join L u v x ≤ x := by
  unfold join
  split <;> (first | lia | omega)
theorem join_root {L : Nat → Nat} {u v : Nat} (h : ∀ x, L (L x) = L x) (x : Nat) : join L u v (join L u v x) = join L u v x := by
  have hu := h u
  have hv := h v
  have hx := h x
  have hlo : L (min (L u) (L v)) = min (L u) (L v) := by
    rcases Nat.le_total (L u) (L v) with q | q
    · rw [Nat.min_eq_left q]; exact hu
    · rw [Nat.min_eq_right q]; exact hv
  unfold join
  split
  · rw [hlo]
    split <;> (first | lia | omega)
  · rw [hx]
    split <;> (first | lia | omega)
def Net.labs (N : Net) (S : Nat → Bool) : Nat → Nat → Nat
  | 0 => fun x => x
  | k + 1 => if S k = true then join (Net.labs N S k) (N.a k) (N.b k) else Net.labs N S k
variable {S : Nat → Bool}
theorem labs_le : ∀ (k x : Nat), N.labs S k x ≤ x
  | 0, _ => Nat.le_refl _
  | k + 1, x => by
    unfold Net.labs
    split
    · exact join_le (labs_le k x)
    · exact labs_le k x
theorem labs_root : ∀ (k x : Nat), N.labs S k (N.labs S k x) = N.labs S k x
  | 0, _ => rfl
  | k + 1, x => by
    by_cases hs : S k = true
    · have e : N.labs S (k + 1) = join (N.labs S k) (N.a k) (N.b k) := by
        conv => lhs; unfold Net.labs
        rw [if_pos hs]
      rw [e]
      exact join_root (labs_root k) x
    · have e : N.labs S (k + 1) = N.labs S k := by
        conv => lhs; unfold Net.labs
        rw [if_neg hs]
      rw [e]
      exact labs_root k x
theorem labs_mono {x y k : Nat} (h : N.labs S k x = N.labs S k y) : ∀ d, N.labs S (k + d) x = N.labs S (k + d) y
  | 0 => h
  | d + 1 => by
    have ih := labs_mono h d
    show N.labs S (k + d + 1) x = N.labs S (k + d + 1) y
    unfold Net.labs
    split
    · exact join_eq ih
    · exact ih
theorem labs_tie {j k : Nat} (h : j < k) (hs : S j = true) : N.labs S k (N.a j) = N.labs S k (N.b j) := by
  obtain ⟨d, rfl⟩ := Nat.exists_eq_add_of_le (Nat.succ_le_of_lt h)
  refine labs_mono ?_ d
  show N.labs S (j + 1) (N.a j) = N.labs S (j + 1) (N.b j)
  unfold Net.labs
  rw [if_pos hs]
  exact join_ends _ _ _
inductive Net.Conn (N : Net) (S : Nat → Bool) (k u : Nat) : Nat → Prop
  | refl : Net.Conn N S k u u
  | fwd {j : Nat} (h : Net.Conn N S k u (N.a j)) (hj : j < k) (hs : S j = true) : Net.Conn N S k u (N.b j)
  | bwd {j : Nat} (h : Net.Conn N S k u (N.b j)) (hj : j < k) (hs : S j = true) : Net.Conn N S k u (N.a j)
theorem Net.Conn.trans {k u v w : Nat} (h : N.Conn S k u v) (h' : N.Conn S k v w) : N.Conn S k u w := by
  induction h' with
  | refl => exact h
  | fwd _ hj hs ih => exact .fwd ih hj hs
  | bwd _ hj hs ih => exact .bwd ih hj hs
theorem Net.Conn.mono {k l u v : Nat} (h : N.Conn S k u v) (hkl : k ≤ l) : N.Conn S l u v := by
  induction h with
  | refl => exact .refl
  | fwd _ hj hs ih => exact .fwd ih (by (first | lia | omega)) hs
  | bwd _ hj hs ih => exact .bwd ih (by (first | lia | omega)) hs
theorem labs_conn : ∀ (k u v : Nat), N.labs S k u = N.labs S k v → N.Conn S k u v
  | 0, u, v, h => by
    have e : u = v := h
    subst e
    exact .refl
  | k + 1, u, v, h => by
    unfold Net.labs at h
    split at h
    · rename_i hs
      rcases join_apart h with q | ⟨q1, q2⟩ | ⟨q1, q2⟩
      · exact (labs_conn k u v q).mono (by (first | lia | omega))
      · have c1 := (labs_conn k u _ q1).mono (Nat.le_succ k)
        have c2 := (labs_conn k _ v q2.symm).mono (Nat.le_succ k)
        exact Net.Conn.trans (.fwd c1 (by (first | lia | omega)) hs) c2
      · have c1 := (labs_conn k u _ q1).mono (Nat.le_succ k)
        have c2 := (labs_conn k _ v q2.symm).mono (Nat.le_succ k)
        exact Net.Conn.trans (.bwd c1 (by (first | lia | omega)) hs) c2
    · exact (labs_conn k u v h).mono (by (first | lia | omega))
def Net.lab (N : Net) (k : Nat) : Nat → Nat := N.labs (fun _ => true) k
def Net.inF (N : Net) (k : Nat) : Bool := !decide (N.lab k (N.a k) = N.lab k (N.b k))
theorem lab_succ (k : Nat) : N.lab (k + 1) = if N.inF k = true then join (N.lab k) (N.a k) (N.b k) else N.lab k := by
  show N.labs (fun _ => true) (k + 1) = _
  unfold Net.labs
  rw [if_pos rfl]
  unfold Net.inF
  by_cases h : N.lab k (N.a k) = N.lab k (N.b k)
  · rw [if_neg (by simp [h])]
    exact join_same h
  · rw [if_pos (by simp [h])]
    rfl
theorem forest_empty {m : Nat} (hf : ∀ k, m.testBit k = true → k < N.n ∧ N.inF k = true) (he : N.Even m) : m = 0 := by
  by_cases h0 : m = 0
  · exact h0
  exfalso
  have hK : m.testBit m.log2 = true := Nat.testBit_log2 h0
  obtain ⟨hKn, hKf⟩ := hf _ hK
  generalize hKe : m.log2 = K at hK hKn hKf
  have hlt : m < 2 ^ (K + 1) := by rw [← hKe]; exact Nat.lt_log2_self
  have hcl := bd_class (N := N) (m := m ^^^ 2 ^ K) (fun x => decide (N.lab K x = N.lab K (N.a K))) fun k hk hb => by
    have hkK : k < K := by
      rw [Nat.testBit_xor, Nat.testBit_two_pow] at hb
      by_cases e : K = k
      · subst e
        simp [hK] at hb
      · have hb' : m.testBit k = true := by simpa [e] using hb
        have : k < K + 1 := by
          by_cases q : k < K + 1
          · exact q
          · have z := Nat.testBit_lt_two_pow (Nat.lt_of_lt_of_le hlt (Nat.pow_le_pow_right (by decide) (show K + 1 ≤ k by (first | lia | omega))))
            rw [hb'] at z
            cases z
        (first | lia | omega)
    have e : N.lab K (N.a k) = N.lab K (N.b k) := labs_tie (S := fun _ => true) hkK rfl
    show decide (N.lab K (N.a k) = _) = decide (N.lab K (N.b k) = _)
    rw [e]
  have e : xsum (fun x => decide (N.lab K x = N.lab K (N.a K)) && N.bd (m ^^^ 2 ^ K) x) N.p = xsum (fun x => decide (N.lab K x = N.lab K (N.a K)) && N.inc K x) N.p :=
    xsum_congr fun x hx => by rw [bd_xor, he x hx, bd_pow hKn]; simp
  rw [e] at hcl
  have e2 : xsum (fun x => decide (N.lab K x = N.lab K (N.a K)) && N.inc K x) N.p = (decide (N.lab K (N.a K) = N.lab K (N.a K)) ^^ decide (N.lab K (N.b K) = N.lab K (N.a K))) := by
    rw [← xsum_point (fun x => decide (N.lab K x = N.lab K (N.a K))) (N.al K hKn), ← xsum_point (fun x => decide (N.lab K x = N.lab K (N.a K))) (N.bl K hKn), ← xsum_xor]
    refine xsum_congr fun x _ => ?_
    unfold Net.inc
    cases decide (N.lab K x = N.lab K (N.a K)) <;> cases decide (N.a K = x) <;> cases decide (N.b K = x) <;> rfl
  rw [e2] at hcl
  unfold Net.inF at hKf
  have hne : ¬ N.lab K (N.b K) = N.lab K (N.a K) := fun q => by rw [q] at hKf; simp at hKf
  simp [hne] at hcl
def Net.trail (N : Net) : Nat → Nat → Nat
  | 0 => fun _ => 0
  | k + 1 => if N.inF k = true then fun v => if N.lab k v = max (N.lab k (N.a k)) (N.lab k (N.b k)) then Net.trail N k v ^^^ (Net.trail N k (N.a k) ^^^ Net.trail N k (N.b k) ^^^ 2 ^ k) else Net.trail N k v
    else Net.trail N k
theorem trail_in : ∀ (k v j : Nat), (N.trail k v).testBit j = true → j < k ∧ N.inF j = true
  | 0, v, j, h => by simp [Net.trail] at h
  | k + 1, v, j, h => by
    have ih := trail_in k
    unfold Net.trail at h
    split at h
    · rename_i hf
      dsimp only at h
      split at h
      · rw [Nat.testBit_xor, Nat.testBit_xor, Nat.testBit_xor, Nat.testBit_two_pow] at h
        by_cases e : k = j
        · subst e
          exact ⟨by (first | lia | omega), hf⟩
        · have z : ¬ ((N.trail k v).testBit j = false ∧ (N.trail k (N.a k)).testBit j = false ∧ (N.trail k (N.b k)).testBit j = false) := by
            rintro ⟨z1, z2, z3⟩
            simp [z1, z2, z3, e] at h
          cases h1 : (N.trail k v).testBit j with
          | true => obtain ⟨q, r⟩ := ih v j h1; exact ⟨by (first | lia | omega), r⟩
          | false => cases h2 : (N.trail k (N.a k)).testBit j with
            | true => obtain ⟨q, r⟩ := ih _ j h2; exact ⟨by (first | lia | omega), r⟩
            | false => cases h3 : (N.trail k (N.b k)).testBit j with
              | true => obtain ⟨q, r⟩ := ih _ j h3; exact ⟨by (first | lia | omega), r⟩
              | false => exact absurd ⟨h1, h2, h3⟩ z
      · obtain ⟨q, r⟩ := ih v j h; exact ⟨by (first | lia | omega), r⟩
    · obtain ⟨q, r⟩ := ih v j h; exact ⟨by (first | lia | omega), r⟩
theorem bool_six (a b c d e f g h : Bool) (hlh : (d ^^ f) = (g ^^ h)) : ((a ^^ g) ^^ (((c ^^ d) ^^ (e ^^ f)) ^^ (c ^^ e))) = (a ^^ h) := by
  have e1 : (((c ^^ d) ^^ (e ^^ f)) ^^ (c ^^ e)) = (d ^^ f) := by cases c <;> cases d <;> cases e <;> cases f <;> rfl
  rw [e1, hlh]
  cases a <;> cases g <;> cases h <;> rfl
theorem trail_bd : ∀ (k : Nat), k ≤ N.n → ∀ v x, N.bd (N.trail k v) x = (decide (v = x) ^^ decide (N.lab k v = x))
  | 0, _, v, x => by
    show N.bd 0 x = (decide (v = x) ^^ decide (v = x))
    rw [bd_zero]
    simp
  | k + 1, hk, v, x => by
    have ih := trail_bd k (by (first | lia | omega))
    rw [lab_succ]
    unfold Net.trail
    by_cases hf : N.inF k = true
    · rw [if_pos hf, if_pos hf]
      by_cases hm : N.lab k v = max (N.lab k (N.a k)) (N.lab k (N.b k))
      · have e : join (N.lab k) (N.a k) (N.b k) v = min (N.lab k (N.a k)) (N.lab k (N.b k)) := by unfold join; rw [if_pos hm]
        show N.bd (if N.lab k v = _ then _ else _) x = _
        rw [if_pos hm, e, bd_xor, bd_xor, bd_xor, bd_pow (by (first | lia | omega)), ih, ih, ih]
        unfold Net.inc
        refine bool_six _ false _ _ _ _ _ _ ?_
        rw [hm]
        rcases Nat.le_total (N.lab k (N.a k)) (N.lab k (N.b k)) with q | q
        · rw [Nat.max_eq_right q, Nat.min_eq_left q, Bool.xor_comm]
        · rw [Nat.max_eq_left q, Nat.min_eq_right q]
      · have e : join (N.lab k) (N.a k) (N.b k) v = N.lab k v := by unfold join; rw [if_neg hm]
        show N.bd (if N.lab k v = _ then _ else _) x = _
        rw [if_neg hm, e, ih]
    · rw [if_neg hf, if_neg hf]
      exact ih v x
def Net.ring (N : Net) (c : Nat) : Nat := N.trail N.n (N.a c) ^^^ N.trail N.n (N.b c) ^^^ 2 ^ c
theorem lab_ends {c : Nat} (h : c < N.n) : N.lab N.n (N.a c) = N.lab N.n (N.b c) := labs_tie (S := fun _ => true) h rfl
theorem ring_even {c : Nat} (h : c < N.n) : N.Even (N.ring c) := fun x _ => by
  unfold Net.ring
  rw [bd_xor, bd_xor, bd_pow h, trail_bd _ (Nat.le_refl _), trail_bd _ (Nat.le_refl _), lab_ends h]
  unfold Net.inc
  cases decide (N.a c = x) <;> cases decide (N.b c = x) <;> cases decide (N.lab N.n (N.b c) = x) <;> rfl
theorem ring_bit {c j : Nat} (h : (N.ring c).testBit j = true) : j = c ∨ (j < N.n ∧ N.inF j = true) := by
  unfold Net.ring at h
  rw [Nat.testBit_xor, Nat.testBit_xor, Nat.testBit_two_pow] at h
  by_cases e : c = j
  · exact .inl e.symm
  · right
    cases h1 : (N.trail N.n (N.a c)).testBit j with
    | true => exact trail_in _ _ _ h1
    | false => cases h2 : (N.trail N.n (N.b c)).testBit j with
      | true => exact trail_in _ _ _ h2
      | false => simp [h1, h2, e] at h
theorem ring_own {c : Nat} (hf : N.inF c = false) : (N.ring c).testBit c = true := by
  unfold Net.ring
  rw [Nat.testBit_xor, Nat.testBit_xor, Nat.testBit_two_pow]
  cases h1 : (N.trail N.n (N.a c)).testBit c with
  | true => obtain ⟨_, q⟩ := trail_in _ _ _ h1; rw [hf] at q; cases q
  | false => cases h2 : (N.trail N.n (N.b c)).testBit c with
    | true => obtain ⟨_, q⟩ := trail_in _ _ _ h2; rw [hf] at q; cases q
    | false => simp
theorem forest_on {j : Nat} (h : j < N.n) (hf : N.inF j = true) : (N.trail N.n (N.a j)).testBit j = true ∨ (N.trail N.n (N.b j)).testBit j = true := by
  have z : N.ring j = 0 := forest_empty (fun k hk => by
    rcases ring_bit hk with rfl | q
    · exact ⟨h, hf⟩
    · exact q) (ring_even h)
  have b : (N.ring j).testBit j = false := by rw [z]; simp
  unfold Net.ring at b
  rw [Nat.testBit_xor, Nat.testBit_xor, Nat.testBit_two_pow] at b
  cases h1 : (N.trail N.n (N.a j)).testBit j with
  | true => exact .inl rfl
  | false => cases h2 : (N.trail N.n (N.b j)).testBit j with
    | true => exact .inr rfl
    | false => simp [h1, h2] at b
def cnt (f : Nat → Bool) : Nat → Nat
  | 0 => 0
  | n + 1 => cnt f n + (if f n = true then 1 else 0)
theorem cnt_congr {f g : Nat → Bool} : ∀ {n : Nat}, (∀ k, k < n → f k = g k) → cnt f n = cnt g n
  | 0, _ => rfl
  | n + 1, h => by
    unfold cnt
    rw [cnt_congr fun k hk => h k (by (first | lia | omega)), h n (by (first | lia | omega))]
theorem cnt_drop {f g : Nat → Bool} {h : Nat} (hg : g h = true) : ∀ {p : Nat}, h < p → (∀ x, x < p → f x = (g x && !decide (x = h))) → cnt g p = cnt f p + 1
  | 0, hh, _ => absurd hh (Nat.not_lt_zero _)
  | p + 1, hh, e => by
    unfold cnt
    by_cases q : h = p
    · subst q
      have z : cnt g h = cnt f h := cnt_congr fun k hk => by rw [e k (by (first | lia | omega))]; simp [show k ≠ h by (first | lia | omega)]
      rw [z, if_pos hg, e h (by (first | lia | omega))]
      simp
    · rw [cnt_drop hg (by (first | lia | omega)) fun x hx => e x (by (first | lia | omega)), e p (by (first | lia | omega))]
      simp [Ne.symm q]
      (first | lia | omega)
theorem cnt_range (f : Nat → Bool) : ∀ n, ((List.range n).filter f).length = cnt f n
  | 0 => rfl
  | n + 1 => by
    rw [List.range_succ, List.filter_append, List.length_append, cnt_range f n]
    show _ = cnt f n + (if f n = true then 1 else 0)
    cases h : f n with
    | true => rw [List.filter_cons, if_pos h]; rfl
    | false => rw [List.filter_cons, if_neg (by rw [h]; simp)]; rfl
theorem cnt_not (f : Nat → Bool) : ∀ n, cnt f n + cnt (fun k => !f k) n = n
  | 0 => rfl
  | n + 1 => by
    have ih := cnt_not f n
    unfold cnt
    cases h : f n <;> simp <;> (first | lia | omega)
theorem cnt_all {f : Nat → Bool} : ∀ {n : Nat}, (∀ k, k < n → f k = true) → cnt f n = n
  | 0, _ => rfl
  | n + 1, h => by
    unfold cnt
    rw [cnt_all fun k hk => h k (by (first | lia | omega)), if_pos (h n (by (first | lia | omega)))]
variable {N : Net} {S : Nat → Bool}
def Net.root (N : Net) (S : Nat → Bool) (k x : Nat) : Bool := decide (N.labs S k x = x)
theorem labs_succ (k : Nat) : N.labs S (k + 1) = if S k = true then join (N.labs S k) (N.a k) (N.b k) else N.labs S k := by
  conv => lhs; unfold Net.labs
theorem labs_lt {k x : Nat} (h : x < N.p) : N.labs S k x < N.p := Nat.lt_of_le_of_lt (labs_le k x) h
theorem root_join {L : Nat → Nat} {u v : Nat} (hr : ∀ x, L (L x) = L x) (hne : L u ≠ L v) (x : Nat) : decide (join L u v x = x) = (decide (L x = x) && !decide (x = max (L u) (L v))) := by
  have hhi : L (max (L u) (L v)) = max (L u) (L v) := by
    rcases Nat.le_total (L u) (L v) with q | q
    · rw [Nat.max_eq_right q]; exact hr v
    · rw [Nat.max_eq_left q]; exact hr u
  have hlo : L (min (L u) (L v)) = min (L u) (L v) := by
    rcases Nat.le_total (L u) (L v) with q | q
    · rw [Nat.min_eq_left q]; exact hr u
    · rw [Nat.min_eq_right q]; exact hr v
  unfold join
  by_cases h : L x = max (L u) (L v)
  · rw [if_pos h]
    have h1 : ¬ min (L u) (L v) = x := fun z => by
      rw [← z, hlo] at h
      (first | lia | omega)
    by_cases h2 : x = max (L u) (L v)
    · simp [h1, h2]
      (first | lia | omega)
    · have h3 : ¬ L x = x := fun z => h2 (z.symm.trans h)
      simp [h1, h3]
  · rw [if_neg h]
    have h2 : ¬ x = max (L u) (L v) := fun z => h (by rw [z]; exact hhi)
    simp [h2]
theorem roots_step {k : Nat} (hk : k < N.n) : cnt (N.root S k) N.p = cnt (N.root S (k + 1)) N.p + (if (S k && !decide (N.labs S k (N.a k) = N.labs S k (N.b k))) = true then 1 else 0) := by
  cases hs : S k with
  | false =>
    have e : N.root S (k + 1) = N.root S k := by unfold Net.root; rw [labs_succ, if_neg (by rw [hs]; simp)]
    rw [e]; simp
  | true =>
    by_cases h : N.labs S k (N.a k) = N.labs S k (N.b k)
    · have e : N.root S (k + 1) = N.root S k := by unfold Net.root; rw [labs_succ, if_pos hs, join_same h]
      rw [e]; simp [h]
    · have hhi : N.labs S k (max (N.labs S k (N.a k)) (N.labs S k (N.b k))) = max (N.labs S k (N.a k)) (N.labs S k (N.b k)) := by
        rcases Nat.le_total (N.labs S k (N.a k)) (N.labs S k (N.b k)) with q | q
        · rw [Nat.max_eq_right q]; exact labs_root _ _
        · rw [Nat.max_eq_left q]; exact labs_root _ _
      have h1 := labs_lt (S := S) (k := k) (N.al k hk)
      have h2 := labs_lt (S := S) (k := k) (N.bl k hk)
      rw [cnt_drop (f := N.root S (k + 1)) (g := N.root S k) (h := max (N.labs S k (N.a k)) (N.labs S k (N.b k))) (decide_eq_true hhi) (by (first | lia | omega)) fun x _ => by
        unfold Net.root
        rw [labs_succ, if_pos hs]
        exact root_join (labs_root k) h x]
      simp [h]
theorem roots_forest : ∀ k, k ≤ N.n → cnt (N.root (fun _ => true) k) N.p + cnt N.inF k = N.p
  | 0, _ => by
    show cnt (N.root (fun _ => true) 0) N.p + 0 = N.p
    rw [cnt_all (f := N.root (fun _ => true) 0) fun x _ => decide_eq_true rfl]
    rfl
  | k + 1, hk => by
    have ih := roots_forest k (by (first | lia | omega))
    have st := roots_step (N := N) (S := fun _ => true) (k := k) (by (first | lia | omega))
    have e : ((fun _ => true : Nat → Bool) k && !decide (N.labs (fun _ => true) k (N.a k) = N.labs (fun _ => true) k (N.b k))) = N.inF k   := by rw [Bool.true_and]; rfl
    rw [e] at st
    show cnt (N.root (fun _ => true) (k + 1)) N.p + (cnt N.inF k + if N.inF k = true then 1 else 0) = N.p
    (first | lia | omega)
theorem rank_chords : (N.n : Int) - N.p + cnt (N.root (fun _ => true) N.n) N.p = (cnt (fun k => !N.inF k) N.n : Nat) := by
  have h := roots_forest (N := N) N.n (Nat.le_refl _)
  have h2 := cnt_not N.inF N.n
  (first | lia | omega)
def Net.chords (N : Net) : List Nat := (List.range N.n).filter fun k => !N.inF k
theorem chords_mem {c : Nat} : c ∈ N.chords ↔ c < N.n ∧ N.inF c = false := by
  unfold Net.chords
  rw [List.mem_filter, List.mem_range]
  simp
theorem chords_len : N.chords.length = cnt (fun k => !N.inF k) N.n := cnt_range _ _
theorem lt_of_bits {m n : Nat} (h : ∀ k, m.testBit k = true → k < n) : m < 2 ^ n := Nat.lt_pow_two_of_testBit m fun k hk => by
  cases q : m.testBit k with
  | false => rfl
  | true => exact absurd (h k q) (by (first | lia | omega))
theorem bits_lt {m n k : Nat} (h : m < 2 ^ n) (hb : m.testBit k = true) : k < n := by
  by_cases q : k < n
  · exact q
  · have z := Nat.testBit_lt_two_pow (Nat.lt_of_lt_of_le h (Nat.pow_le_pow_right (by decide) (show n ≤ k by (first | lia | omega))))
    rw [hb] at z
    cases z
theorem even_one {m q : Nat} (hm : m < 2 ^ N.n) (hq : q < 2 ^ N.n) (em : N.Even m) (eq : N.Even q) (h : ∀ c, c < N.n → N.inF c = false → m.testBit c = q.testBit c) : m = q := by
  have z : m ^^^ q = 0 := forest_empty (N := N) (fun k hk => by
    have hk' := bits_lt (Nat.xor_lt_two_pow hm hq) hk
    refine ⟨hk', ?_⟩
    cases hf : N.inF k with
    | true => rfl
    | false =>
      rw [Nat.testBit_xor, h k hk' hf] at hk
      simp at hk) (Even.xor em eq)
  have e : m = m ^^^ q ^^^ q := by rw [Nat.xor_assoc, Nat.xor_self, Nat.xor_zero]
  rw [e, z, Nat.zero_xor]
theorem ring_lt {c : Nat} (h : c < N.n) : N.ring c < 2 ^ N.n := lt_of_bits fun k hk => by
  rcases ring_bit hk with rfl | ⟨q, _⟩
  · exact h
  · exact q
theorem ring_chord {c d : Nat} (hc : N.inF c = false) (hd : N.inF d = false) : (N.ring c).testBit d = decide (c = d) := by
  by_cases e : c = d
  · subst e; rw [ring_own hc]; simp
  · cases q : (N.ring c).testBit d with
    | false => simp [e]
    | true => rcases ring_bit q with rfl | ⟨_, r⟩
              · exact absurd rfl e
              · rw [hd] at r; cases r
end RM
namespace Ring
open PySem L2
def maskOf (f : Nat → Bool) : Nat → Nat
  | 0 => 0
  | n + 1 => (if f n = true then 2 ^ n else 0) + maskOf f n
theorem mask_lt (f : Nat → Bool) : ∀ n, maskOf f n < 2 ^ n
  | 0 => by show 0 < 1; decide
  | n + 1 => by
    have ih := mask_lt f n
    have e : 2 ^ (n + 1) = 2 ^ n + 2 ^ n := by rw [Nat.pow_succ]; (first | lia | omega)
    unfold maskOf
    split <;> (first | lia | omega)
theorem mask_bit (f : Nat → Bool) (j : Nat) : ∀ n, (maskOf f n).testBit j = (decide (j < n) && f j)
  | 0 => by simp [maskOf]
  | n + 1 => by
    have ih := mask_bit f j n
    have hl := mask_lt f n
    unfold maskOf
    by_cases h : f n = true
    · rw [if_pos h]
      rcases Nat.lt_trichotomy j n with q | q | q
      · rw [Nat.testBit_two_pow_add_gt q, ih]
        simp [q, show j < n + 1 by (first | lia | omega)]
      · subst q
        rw [Nat.testBit_two_pow_add_eq, ih]
        simp [h]
      · have z : 2 ^ n + maskOf f n < 2 ^ j := Nat.lt_of_lt_of_le (show 2 ^ n + maskOf f n < 2 ^ (n + 1) by rw [Nat.pow_succ]; (first | lia | omega)) (Nat.pow_le_pow_right (by decide) q)
        rw [Nat.testBit_lt_two_pow z]
        simp [show ¬ j < n + 1 by (first | lia | omega)]
    · rw [if_neg h, Nat.zero_add, ih]
      by_cases q : j = n
      · subst q
        have h' : f j = false := by simpa using h
        simp [h']
      · by_cases r : j < n
        · simp [r, show j < n + 1 by (first | lia | omega)]
        · simp [r, show ¬ j < n + 1 by (first | lia | omega)]
theorem sum_mask (f : Nat → Bool) : ∀ n, (((List.range n).filter f).map fun k => 2 ^ k).sum = maskOf f n
  | 0 => rfl
  | n + 1 => by
    rw [List.range_succ, List.filter_append, List.map_append, List.sum_append, sum_mask f n]
    show _ = (if f n = true then 2 ^ n else 0) + maskOf f n
    cases h : f n with
    | true => rw [List.filter_cons, if_pos h]; simp; (first | lia | omega)
    | false => rw [List.filter_cons, if_neg (by rw [h]; simp)]; simp
theorem mask_all (n : Nat) : maskOf (fun _ => true) n = 2 ^ n - 1 := by
  induction n with
  | zero => rfl
  | succ n ih =>
    unfold maskOf
    rw [ih, if_pos rfl, Nat.pow_succ]
    have := Nat.two_pow_pos n
    (first | lia | omega)
theorem all_bit (n j : Nat) : (2 ^ n - 1).testBit j = decide (j < n) := by
  rw [← mask_all, mask_bit]
  simp
theorem or_sum {a b x y : Nat} (q : x / 2 + y / 2 = a / 2 + b / 2) (h : x % 2 + y % 2 = a % 2 + b % 2) : x + y = a + b := by (first | lia | omega)
theorem or_one {u v : Nat} (hu : u = 0 ∨ u = 1) (hv : v = 0 ∨ v = 1) : (u ||| v) + (u &&& v) = u + v := by
  rcases hu with rfl | rfl <;> rcases hv with rfl | rfl <;> rfl
theorem or_and : ∀ a b : Nat, (a ||| b) + (a &&& b) = a + b := by
  intro a
  induction a using Nat.strongRecOn with
  | ind a ih =>
    intro b
    by_cases h : a = 0
    · subst h
      simp
    · have q := ih (a / 2) (by (first | lia | omega)) (b / 2)
      rw [← Nat.or_div_two, ← Nat.and_div_two] at q
      refine or_sum q ?_
      have e1 : (a ||| b) % 2 = a % 2 ||| b % 2 := Nat.or_mod_two_pow (n := 1)
      have e2 : (a &&& b) % 2 = a % 2 &&& b % 2 := Nat.and_mod_two_pow (n := 1)
      rw [e1, e2]
      exact or_one (Nat.mod_two_eq_zero_or_one a) (Nat.mod_two_eq_zero_or_one b)
theorem or_int (a b : Nat) : Builtin.bitOr (a : Int) (b : Int) = ((a ||| b : Nat) : Int) := by
  have q := or_and a b
  rw [PyProof.Rows.bitOr_and, PyProof.Rows.bitAnd_pp (by (first | lia | omega)) (by (first | lia | omega))]
  have h : (a : Int) + b - ((a &&& b : Nat) : Int) = ((a ||| b : Nat) : Int) := by (first | lia | omega)
  simpa using h
theorem shl_int (k : Nat) : (1 : Int) * 2 ^ (k : Int).toNat = ((2 ^ k : Nat) : Int) := by
  rw [Int.toNat_natCast, Int.one_mul]
  simp
theorem tieAt_mem {ts : List Tie} {k : Nat} (h : k < ts.length) : tieAt ts k ∈ ts := by
  unfold tieAt
  rw [List.getD_eq_getElem?_getD]
  simp [h]
theorem tieAt_get {ts : List Tie} {k : Nat} (h : k < ts.length) : ts[k]? = some (tieAt ts k) := by
  unfold tieAt
  rw [List.getD_eq_getElem?_getD]
  simp [h]
def netOf (p : Nat) (ts : List Tie) (g : GoodWeb p ts) : RM.Net where
  p := p
  n := ts.length
  a := fun k => (tieAt ts k).1.toNat
  b := fun k => (tieAt ts k).2.1.toNat
  al := fun k hk => by
    have z := g.ties _ (tieAt_mem hk)
    have z0 := z.a0
    have z1 := z.a1
    (first | lia | omega)
  bl := fun k hk => by
    have z := g.ties _ (tieAt_mem hk)
    have z0 := z.b0
    have z1 := z.b1
    (first | lia | omega)
  ne := fun k hk e => by
    have z := g.ties _ (tieAt_mem hk)
    have z0 := z.a0
    have z1 := z.b0
    exact z.ne (by (first | lia | omega))
theorem net_a {p : Nat} {ts : List Tie} {g : GoodWeb p ts} {k : Nat} (h : k < ts.length) : (tieAt ts k).1 = (((netOf p ts g).a k : Nat) : Int) := by
  have z := (g.ties _ (tieAt_mem h)).a0
  show _ = (((tieAt ts k).1.toNat : Nat) : Int)
  (first | lia | omega)
theorem net_b {p : Nat} {ts : List Tie} {g : GoodWeb p ts} {k : Nat} (h : k < ts.length) : (tieAt ts k).2.1 = (((netOf p ts g).b k : Nat) : Int) := by
  have z := (g.ties _ (tieAt_mem h)).b0
  show _ = (((tieAt ts k).2.1.toNat : Nat) : Int)
  (first | lia | omega)
theorem deg_par {p : Nat} {ts : List Tie} {g : GoodWeb p ts} {k : Nat} (h : k < ts.length) (x : Nat) : deg ts k x % 2 = if (netOf p ts g).inc k x = true then 1 else 0 := by
  unfold deg RM.Net.inc
  rw [tieAt_get h]
  dsimp only
  rw [net_a (g := g) h, net_b (g := g) h]
  generalize (netOf p ts g).a k = u
  generalize (netOf p ts g).b k = v
  by_cases h1 : u = x
  · by_cases h2 : v = x
    · simp [h1, h2]
    · have h2' : ¬ ((v : Int) = (x : Int)) := by (first | lia | omega)
      simp [h1, h2, h2']
  · have h1' : ¬ ((u : Int) = (x : Int)) := by (first | lia | omega)
    by_cases h2 : v = x
    · simp [h1, h2, h1']
    · have h2' : ¬ ((v : Int) = (x : Int)) := by (first | lia | omega)
      simp [h1, h2, h1', h2']
theorem bd_par {p : Nat} {ts : List Tie} {g : GoodWeb p ts} (m x : Nat) : ∀ n, n ≤ ts.length → ((List.range n).map fun k => if m.testBit k = true then deg ts k x else 0).sum % 2 = if RM.xsum (fun k => m.testBit k && (netOf p ts g).inc k x) n = true then 1 else 0
  | 0, _ => rfl
  | n + 1, h => by
    have ih := bd_par (g := g) m x n (by (first | lia | omega))
    have hd := deg_par (g := g) (k := n) (by (first | lia | omega)) x
    rw [List.range_succ, List.map_append, List.sum_append]
    show (_ + ((if m.testBit n = true then deg ts n x else 0) + 0)) % 2 = if (RM.xsum _ n ^^ (m.testBit n && (netOf p ts g).inc n x)) = true then 1 else 0
    generalize ((List.range n).map fun k => if m.testBit k = true then deg ts k x else 0).sum = u at ih ⊢
    generalize RM.xsum (fun k => m.testBit k && (netOf p ts g).inc k x) n = v at ih ⊢
    generalize (netOf p ts g).inc n x = i at hd ⊢
    generalize deg ts n x = d at hd ⊢
    cases m.testBit n <;> cases v <;> cases i <;> simp at ih hd ⊢ <;> (first | lia | omega)
theorem odd_iff {p : Nat} {ts : List Tie} (g : GoodWeb p ts) {m : Nat} (hm : m < 2 ^ ts.length) {x : Nat} : decide ((endsOf p ts (m : Int)).getD x 0 % 2 = 1) = (netOf p ts g).bd m x := by
  rw [ends_get g.web.inw, ties_nat hm, sum_filter]
  have h := bd_par (g := g) m x ts.length (Nat.le_refl _)
  rw [h]
  show _ = RM.xsum _ ts.length
  generalize RM.xsum (fun k => m.testBit k && (netOf p ts g).inc k x) ts.length = v
  cases v <;> simp
theorem even_net {p : Nat} {ts : List Tie} (g : GoodWeb p ts) {m : Nat} (hm : m < 2 ^ ts.length) : oddOf p ts (m : Int) = [] ↔ (netOf p ts g).Even m := by
  unfold oddOf
  rw [List.filter_eq_nil_iff]
  constructor
  · intro h x hx
    have q := h x (List.mem_range.mpr hx)
    rw [odd_iff g hm] at q
    simpa using q
  · intro h x hx
    rw [odd_iff g hm, h x (List.mem_range.mp hx)]
    simp
def mapV (f : Nat → Nat) (n : Nat) : List V := (List.range n).map fun x => V.int ((f x : Nat) : Int)
theorem mapV_len (f : Nat → Nat) (n : Nat) : (mapV f n).length = n := by unfold mapV; rw [List.length_map, List.length_range]
theorem mapV_get {f : Nat → Nat} {n x : Nat} (h : x < n) : (mapV f n)[x]? = some (.int ((f x : Nat) : Int)) := by
  unfold mapV
  rw [List.getElem?_map, List.getElem?_range h]
  rfl
theorem mapV_of {f : Nat → Nat} {n x : Nat} {v : V} (h : (mapV f n)[x]? = some v) : x < n ∧ v = .int ((f x : Nat) : Int) := by
  have hx : x < n := by
    have := (List.getElem?_eq_some_iff.mp h).1
    rwa [mapV_len] at this
  rw [mapV_get hx] at h
  exact ⟨hx, (Option.some.inj h).symm⟩
theorem mapV_succ (f : Nat → Nat) (n : Nat) : mapV f (n + 1) = mapV f n ++ [.int ((f n : Nat) : Int)] := by
  unfold mapV
  rw [List.range_succ, List.map_append]
  rfl
theorem rep_mapV (p : Nat) : (List.replicate p [V.int 0]).flatten = mapV (fun _ => 0) p := by
  induction p with
  | zero => rfl
  | succ p ih =>
    rw [mapV_succ, ← ih, List.replicate_succ', List.flatten_append]
    rfl
def Mapd (f : Nat → Nat) (H : Hp) (D : Addr) (i : Nat) (acc : List V) (H2 : Hp) : Prop := Same H H2 ∧ H2 D = some (.lst acc) ∧ acc = mapV f i
section
variable {f : Nat → Nat} {H H2 H3 : Hp} {D : Addr} {i : Nat} {acc : List V} {v : V}
theorem Mapd.start (hD : H D = none) : Mapd f H D 0 [] (upd H D (.lst [])) := ⟨Same.new hD, upd_same, rfl⟩
theorem Mapd.len (p : Mapd f H D i acc H2) : H2 D = some (.lst acc) ∧ acc.length ≤ i := ⟨p.2.1, by rw [p.2.2, mapV_len]; exact Nat.le_refl _⟩
theorem Mapd.next (p : Mapd f H D i acc H2) (hD : H D = none) (s : Same H2 H3) (hv : v = .int ((f i : Nat) : Int)) : H3 D = some (.lst acc) ∧ Mapd f H D (i + 1) (acc ++ [v]) (upd H3 D (.lst (acc ++ [v]))) := by
  refine ⟨s _ _ p.2.1, (p.1.trans s).put hD, upd_same, ?_⟩
  rw [mapV_succ, ← p.2.2, hv]
end
theorem labs_fold {N : RM.Net} {m : Nat} : ∀ n, ((List.range n).filter fun k => m.testBit k).foldl (fun L k => RM.join L (N.a k) (N.b k)) (fun x => x) = N.labs (fun k => m.testBit k) n
  | 0 => rfl
  | n + 1 => by
    rw [filter_range_succ, List.foldl_append, labs_fold n, RM.labs_succ]
    split <;> rfl
end Ring
namespace RM
theorem labs_congr {N : Net} {S S' : Nat → Bool} : ∀ {n : Nat}, (∀ k, k < n → S k = S' k) → N.labs S n = N.labs S' n
  | 0, _ => rfl
  | n + 1, h => by rw [labs_succ, labs_succ, labs_congr fun k hk => h k (by (first | lia | omega)), h n (by (first | lia | omega))]
end RM
namespace Ring
open PySem L2
def pieceOf (L : Nat → Nat) (p s : Nat) : List Nat := (List.range p).filter fun x => decide (L x = s)
def rootsOf (L : Nat → Nat) (p : Nat) : List Nat := (List.range p).filter fun x => decide (L x = x)
def LstFr (D : Addr) (H0 H : Hp) (y : V) (l : List Nat) : Prop := ∃ b, y = .ref b ∧ b ≠ D ∧ H0 b = none ∧ H b = some (.lst (natsV l))
def Gath (L : Nat → Nat) (p : Nat) (H : Hp) (D : Addr) (i : Nat) (H2 : Hp) : Prop := Same H H2 ∧ ∃ ys, H2 D = some (.lst ys) ∧ Paired (LstFr D H H2) ys ((rootsOf L i).map (pieceOf L p)) ∧ ys.length ≤ i
section
variable {L : Nat → Nat} {p i : Nat} {H H2 H3 : Hp} {D b : Addr}
theorem Gath.start (hD : H D = none) : Gath L p H D 0 (upd H D (.lst [])) := ⟨Same.new hD, [], upd_same, .nil, Nat.le_refl _⟩
theorem roots_succ : rootsOf L (i + 1) = rootsOf L i ++ (if L i = i then [i] else []) := by
  unfold rootsOf
  rw [filter_range_succ]
  by_cases h : L i = i <;> simp [h]
theorem Gath.skip (h : Gath L p H D i H2) (hn : ¬ L i = i) : Gath L p H D (i + 1) H2 := by
  obtain ⟨s, ys, hd, pr, hl⟩ := h
  refine ⟨s, ys, hd, ?_, by (first | lia | omega)⟩
  rw [roots_succ, if_neg hn, List.append_nil]
  exact pr
theorem Gath.push (h : Gath L p H D i H2) (hD : H D = none) (hr : L i = i) (s : Same H2 H3) (hb : H2 b = none) (hb3 : H3 b = some (.lst (natsV (pieceOf L p i)))) :
    ∃ ys, H3 D = some (.lst ys) ∧ ys.length ≤ i ∧ Gath L p H D (i + 1) (upd H3 D (.lst (ys ++ [.ref b]))) := by
  obtain ⟨s2, ys, hd, pr, hl⟩ := h
  have hd3 := s _ _ hd
  have hbD : b ≠ D := fun e => by rw [e, hd] at hb; cases hb
  refine ⟨ys, hd3, hl, (s2.trans s).put hD, ys ++ [.ref b], upd_same, ?_, by rw [List.length_append, List.length_singleton]; (first | lia | omega)⟩
  rw [roots_succ, if_pos hr, List.map_append]
  refine Paired.snoc (Paired.imp' (fun _ _ ⟨e, he, hn, h0, q⟩ => ⟨e, he, hn, h0, by rw [upd_ne hn]; exact s _ _ q⟩) pr) ?_
  exact ⟨b, rfl, hbD, s2.free hb, by rw [upd_ne hbD]; exact hb3⟩
end
def foldJ (p : Nat) (ts : List Tie) (g : GoodWeb p ts) (ks : List Nat) : Nat → Nat := ks.foldl (fun L k => RM.join L ((netOf p ts g).a k) ((netOf p ts g).b k)) fun x => x
theorem foldJ_snoc {p : Nat} {ts : List Tie} {g : GoodWeb p ts} {ks : List Nat} {k : Nat} : foldJ p ts g (ks ++ [k]) = RM.join (foldJ p ts g ks) ((netOf p ts g).a k) ((netOf p ts g).b k) := by
  unfold foldJ
  rw [List.foldl_append]
  rfl
def labOf (p : Nat) (ts : List Tie) (g : GoodWeb p ts) (m : Nat) : Nat → Nat := (netOf p ts g).labs (fun k => m.testBit k) ts.length
theorem foldJ_ties {p : Nat} {ts : List Tie} {g : GoodWeb p ts} {m : Nat} (hm : m < 2 ^ ts.length) : foldJ p ts g (tiesOf (m : Int)) = labOf p ts g m := by
  unfold foldJ labOf
  rw [ties_nat hm]
  exact labs_fold _
theorem lab_all {p : Nat} {ts : List Tie} {g : GoodWeb p ts} : labOf p ts g (2 ^ ts.length - 1) = (netOf p ts g).lab ts.length := by
  unfold labOf RM.Net.lab
  exact RM.labs_congr fun k hk => by rw [all_bit]; simp [hk]
theorem rank_is {p : Nat} {ts : List Tie} {g : GoodWeb p ts} : (ts.length : Int) - (p : Int) + (rootsOf (labOf p ts g (2 ^ ts.length - 1)) p).length = ((netOf p ts g).chords.length : Int) := by
  have h := RM.rank_chords (N := netOf p ts g)
  rw [RM.chords_len]
  unfold rootsOf
  rw [RM.cnt_range, lab_all]
  exact h
theorem min_int (a b : Nat) : (if (b : Int) < (a : Int) then (b : Int) else (a : Int)) = ((min a b : Nat) : Int) := by
  split <;> (first | lia | omega)
theorem max_int (a b : Nat) : (if (b : Int) > (a : Int) then (b : Int) else (a : Int)) = ((max a b : Nat) : Int) := by
  split <;> (first | lia | omega)
theorem dec_nat (a b : Nat) : decide (V.int (a : Int) = V.int (b : Int)) = decide (a = b) := by
  rw [Bool.eq_iff_iff]
  simp
  (first | lia | omega)
end Ring
namespace RM
variable {N : Net} {S : Nat → Bool}
variable {pt r j : Nat} {l : List Nat}
theorem nodup_le {l : List Nat} : ∀ {p : Nat}, l.Nodup → (∀ x ∈ l, x < p) → l.length ≤ p := by
  intro p hn hl
  have hp : l.Perm ((List.range p).filter fun x => decide (x ∈ l)) := by
    refine (List.perm_ext_iff_of_nodup hn (List.Pairwise.filter _ List.nodup_range)).mpr fun a => ?_
    rw [List.mem_filter, List.mem_range]
    simp
    exact fun h => hl a h
  rw [hp.length_eq]
  have := List.length_filter_le (fun x => decide (x ∈ l)) (List.range p)
  rwa [List.length_range] at this
end RM
namespace Ring
open PySem L2
theorem inV_nats (u : Nat) (l : List Nat) : inV (.int (u : Int)) (natsV l) = decide (u ∈ l) := by
  unfold inV natsV
  rw [List.any_map, Bool.eq_iff_iff, List.any_eq_true]
  simp only [Function.comp, decide_eq_true_eq]
  constructor
  · rintro ⟨x, hx, h⟩
    have e : ((x : Nat) : Int) = (u : Int) := eq_of_beq h
    have : x = u := by (first | lia | omega)
    exact this ▸ hx
  · intro h
    exact ⟨u, h, by simp [eqV]⟩
theorem flat_nats (l : List Nat) : (natsV l).all flatV = true := by
  unfold natsV
  rw [List.all_map, List.all_eq_true]
  intro x _
  rfl
theorem and_int (a b : Nat) : Builtin.bitAnd (a : Int) (b : Int) = ((a &&& b : Nat) : Int) := by
  rw [PyProof.Rows.bitAnd_pp (by (first | lia | omega)) (by (first | lia | omega))]
  simp
def orT (T : Nat → Nat) : Nat → Nat
  | 0 => 0
  | n + 1 => orT T n ||| T n
theorem orT_bit (T : Nat → Nat) (j : Nat) : ∀ n, (orT T n).testBit j = true ↔ ∃ x, x < n ∧ (T x).testBit j = true
  | 0 => by simp [orT]
  | n + 1 => by
    unfold orT
    rw [Nat.testBit_or, Bool.or_eq_true, orT_bit T j n]
    constructor
    · rintro (⟨x, hx, h⟩ | h)
      · exact ⟨x, by (first | lia | omega), h⟩
      · exact ⟨n, by (first | lia | omega), h⟩
    · rintro ⟨x, hx, h⟩
      by_cases e : x = n
      · subst e; exact .inr h
      · exact .inl ⟨x, by (first | lia | omega), h⟩
section
variable {p : Nat} {ts : List Tie} {g : GoodWeb p ts}
def forestN (p : Nat) (ts : List Tie) (g : GoodWeb p ts) : Nat := maskOf (netOf p ts g).inF ts.length
theorem orT_forest : orT ((netOf p ts g).trail ts.length) p = forestN p ts g := by
  refine Nat.eq_of_testBit_eq fun j => ?_
  unfold forestN
  rw [mask_bit, Bool.eq_iff_iff, orT_bit]
  simp only [Bool.and_eq_true, decide_eq_true_eq]
  constructor
  · rintro ⟨x, _, h⟩
    exact RM.trail_in _ _ _ h
  · rintro ⟨h1, h2⟩
    rcases RM.forest_on (N := netOf p ts g) h1 h2 with h | h
    · exact ⟨_, (netOf p ts g).al j h1, h⟩
    · exact ⟨_, (netOf p ts g).bl j h1, h⟩
theorem chordM_bit (j : Nat) : ((2 ^ ts.length - 1) ^^^ forestN p ts g).testBit j = (decide (j < ts.length) && !(netOf p ts g).inF j) := by
  unfold forestN
  rw [Nat.testBit_xor, all_bit, mask_bit]
  cases decide (j < ts.length) <;> cases (netOf p ts g).inF j <;> rfl
theorem chordM_lt : (2 ^ ts.length - 1) ^^^ forestN p ts g < 2 ^ ts.length := Nat.xor_lt_two_pow (by have := Nat.two_pow_pos ts.length; (first | lia | omega)) (mask_lt _ _)
theorem chordM_ties : tiesOf (((2 ^ ts.length - 1) ^^^ forestN p ts g : Nat) : Int) = (netOf p ts g).chords := by
  rw [ties_nat chordM_lt]
  unfold RM.Net.chords
  refine List.filter_congr fun k hk => ?_
  have := List.mem_range.mp hk
  rw [chordM_bit]
  simp [this]
end
theorem pow_sub (n : Nat) : ((2 : Int) ^ n - 1) = ((2 ^ n - 1 : Nat) : Int) := by
  have h : ((2 : Int) ^ n) = ((2 ^ n : Nat) : Int) := by simp
  have := Nat.two_pow_pos n
  (first | lia | omega)
theorem filter_single {c : Nat} : ∀ {n : Nat}, c < n → (List.range n).filter (fun k => decide (k = c)) = [c]
  | 0, h => absurd h (Nat.not_lt_zero _)
  | n + 1, h => by
    rw [filter_range_succ]
    by_cases e : c = n
    · subst e
      have z : (List.range c).filter (fun k => decide (k = c)) = [] := by
        rw [List.filter_eq_nil_iff]
        intro x hx
        have := List.mem_range.mp hx
        simp
        (first | lia | omega)
      rw [z]
      simp
    · rw [filter_single (by (first | lia | omega))]
      simp [Ne.symm e]
theorem nats_at {l : List Nat} {i : Nat} {k : Nat} (h : l[i]? = some k) : (natsV l)[i]? = some (.int (k : Int)) := by
  unfold natsV
  rw [List.getElem?_map, h]
  rfl
def Filt (f : Nat → Bool) (l : List Nat) (H : Hp) (D : Addr) (i : Nat) (acc : List V) (H2 : Hp) : Prop := Same H H2 ∧ H2 D = some (.lst acc) ∧ acc = natsV ((l.take i).filter f)
section
variable {f : Nat → Bool} {l : List Nat} {H H2 H3 : Hp} {D : Addr} {i k : Nat} {acc : List V}
theorem Filt.start (hD : H D = none) : Filt f l H D 0 [] (upd H D (.lst [])) := ⟨Same.new hD, upd_same, rfl⟩
theorem Filt.len (p : Filt f l H D i acc H2) : H2 D = some (.lst acc) ∧ acc.length ≤ i := by
  refine ⟨p.2.1, ?_⟩
  rw [p.2.2, natsV_len]
  exact Nat.le_trans (List.length_filter_le _ _) (by rw [List.length_take]; (first | lia | omega))
theorem Filt.yes (p : Filt f l H D i acc H2) (hD : H D = none) (s : Same H2 H3) (hk : l[i]? = some k) (hf : f k = true) : H3 D = some (.lst acc) ∧ Filt f l H D (i + 1) (acc ++ [.int (k : Int)]) (upd H3 D (.lst (acc ++ [.int (k : Int)]))) := by
  refine ⟨s _ _ p.2.1, (p.1.trans s).put hD, upd_same, ?_⟩
  rw [List.take_add_one, hk, List.filter_append]
  show _ = natsV (_ ++ [k].filter f)
  rw [List.filter_cons, if_pos hf, List.filter_nil, natsV_snoc, ← p.2.2]
theorem Filt.no (p : Filt f l H D i acc H2) (s : Same H2 H3) (hk : l[i]? = some k) (hf : f k = false) : Filt f l H D (i + 1) acc H3 := by
  refine ⟨p.1.trans s, s _ _ p.2.1, ?_⟩
  rw [List.take_add_one, hk, List.filter_append]
  show _ = natsV (_ ++ [k].filter f)
  rw [List.filter_cons, if_neg (by rw [hf]; simp), List.filter_nil, List.append_nil]
  exact p.2.2
theorem Filt.fin (p : Filt f l H D l.length acc H2) : H2 D = some (.lst (natsV (l.filter f))) := by rw [p.2.1, p.2.2, List.take_length]
end
def Mapl (f : Nat → Int) (l : List Nat) (H : Hp) (D : Addr) (i : Nat) (acc : List V) (H2 : Hp) : Prop := Same H H2 ∧ H2 D = some (.lst acc) ∧ acc = ((l.take i).map f).map V.int
section
variable {f : Nat → Int} {l : List Nat} {H H2 H3 : Hp} {D : Addr} {i k : Nat} {acc : List V} {v : V}
theorem Mapl.start (hD : H D = none) : Mapl f l H D 0 [] (upd H D (.lst [])) := ⟨Same.new hD, upd_same, rfl⟩
theorem Mapl.len (p : Mapl f l H D i acc H2) : H2 D = some (.lst acc) ∧ acc.length ≤ i := by
  refine ⟨p.2.1, ?_⟩
  rw [p.2.2, List.length_map, List.length_map, List.length_take]
  (first | lia | omega)
theorem Mapl.next (p : Mapl f l H D i acc H2) (hD : H D = none) (s : Same H2 H3) (hk : l[i]? = some k) (hv : v = .int (f k)) : H3 D = some (.lst acc) ∧ Mapl f l H D (i + 1) (acc ++ [v]) (upd H3 D (.lst (acc ++ [v]))) := by
  refine ⟨s _ _ p.2.1, (p.1.trans s).put hD, upd_same, ?_⟩
  rw [List.take_add_one, hk, List.map_append, List.map_append, ← p.2.2, hv]
  rfl
theorem Mapl.fin (p : Mapl f l H D l.length acc H2) : H2 D = some (.lst ((l.map f).map V.int)) := by rw [p.2.1, p.2.2, List.take_length]
end
theorem sum_cast (l : List Nat) : (l.map fun k => ((2 ^ k : Nat) : Int)).sum = (((l.map fun k => 2 ^ k).sum : Nat) : Int) := by
  induction l with
  | nil => rfl
  | cons a r ih =>
    rw [List.map_cons, List.sum_cons, ih, List.map_cons, List.sum_cons]
    (first | lia | omega)
end Ring
namespace RM
theorem xsum_cnt (f : Nat → Bool) : ∀ n, xsum f n = decide (cnt f n % 2 = 1)
  | 0 => rfl
  | n + 1 => by
    unfold xsum cnt
    rw [xsum_cnt f n]
    by_cases h : f n = true
    · rw [h, if_pos rfl]
      by_cases q : cnt f n % 2 = 1
      · have q' : ¬ (cnt f n + 1) % 2 = 1 := by (first | lia | omega)
        simp [q, q']
      · have q' : (cnt f n + 1) % 2 = 1 := by (first | lia | omega)
        simp [q, q']
    · have h' : f n = false := by simpa using h
      rw [h', if_neg (by decide)]
      simp
end RM
namespace Ring
open PySem L2
section
variable {p : Nat} {ts : List Tie} (g : GoodWeb p ts)
include g
end
end Ring
namespace L2
open PySem PySem.Spec PyProof.Rows
theorem pair_take {α β : Type} {F : α → β → Prop} : ∀ {l : List α} {r : List β} (k : Nat), Paired F l r → Paired F (l.take k) (r.take k)
  | _, _, 0, _ => by rw [List.take_zero, List.take_zero]; exact .nil
  | _, _, _ + 1, .nil => .nil
  | _, _, k + 1, .cons h t => .cons h (pair_take k t)
theorem pair_drop {α β : Type} {F : α → β → Prop} : ∀ {l : List α} {r : List β} (k : Nat), Paired F l r → Paired F (l.drop k) (r.drop k)
  | _, _, 0, h => h
  | _, _, _ + 1, .nil => .nil
  | _, _, k + 1, .cons _ t => pair_drop k t
def rInsert : V → List V → Hp → VK → Prop := fun x vs H Q => ∃ (l : Addr) (xs : List V) (k : Nat) (y : V), x = .ref l ∧ vs = [.int (k : Int), y] ∧ H l = some (.lst xs) ∧ k ≤ xs.length ∧ xs.length < sizeLine ∧ Q .non (upd H l (.lst (xs.take k ++ y :: xs.drop k)))
theorem mt_insert {X : Cx} : MtM X "list.insert" rInsert := by
  intro pins s σ H x vs v us Q I rx rv h
  obtain ⟨l, xs, k, y, rfl, rfl, hH, hk, hz, q⟩ := h
  cases rx
  cases rv with
  | cons r1 r2 =>
    obtain ⟨u, rfl, ru⟩ := Vals.one r2
    obtain ⟨t, rfl⟩ := r1
    obtain ⟨z, its, n, r, hl, e⟩ := I.lstM hH
    have hsz : sizeLine < 2 ^ 63 := line63
    have hk63 : ((k : Nat) : Int) < 2 ^ 63 := by
      have : k < 2 ^ 63 := by (first | lia | omega)
      (first | lia | omega)
    have hfit : ¬ (!Builtin.List.listFitsIndex (k : Int)) = true := by
      rw [fitsIndex_both (by (first | lia | omega)) hk63]
      decide
    obtain ⟨i, hi⟩ : ∃ i : Int, i = (k : Int) := ⟨_, rfl⟩
    rw [← hi] at hfit ⊢
    have hz2 : its.toArray.size ≤ sizeLine := by rw [List.size_toArray, ← hl]; exact z
    refine call_meets F.slot_list_insert ⟨_, e, rfl⟩ F.entry_list_insert (F.args_list_insert_3 _ _ _) (AutoSeq1.list_insert_list_int_val_1 l its.toArray n i t u hfit hz2) ⟨e, ?_⟩
    refine ⟨.non, _, I.lset (its' := its.take k ++ u :: its.drop k) hH e ?_ (Vals.append (pair_take k r) (.cons ru (pair_drop k r))) ?_, rfl, q⟩
    · have hc : (if i < 0 then (i + (its.toArray.size : Int)).toNat else min i.toNat its.toArray.size) = k := by
        rw [if_neg (by (first | lia | omega)), List.size_toArray, hi, Int.toNat_natCast]
        (first | lia | omega)
      show (its.toArray.extract 0 (if i < 0 then (i + (its.toArray.size : Int)).toNat else min i.toNat its.toArray.size)).push u ++ its.toArray.extract (if i < 0 then (i + (its.toArray.size : Int)).toNat else min i.toNat its.toArray.size) = _
      rw [hc]
      simp [List.extract_toArray]
      exact List.take_of_length_le (by rw [List.length_drop]; (first | lia | omega))
    · rw [List.length_append, List.length_take, List.length_cons, List.length_drop]
      (first | lia | omega)
end L2
namespace RM
def sm (f : Nat → Nat) : Nat → Nat
  | 0 => 0
  | n + 1 => sm f n + f n
theorem sm_congr {f g : Nat → Nat} : ∀ {n : Nat}, (∀ k, k < n → f k = g k) → sm f n = sm g n
  | 0, _ => rfl
  | n + 1, h => by
    show sm f n + f n = sm g n + g n
    rw [sm_congr fun k hk => h k (by (first | lia | omega)), h n (by (first | lia | omega))]
theorem sm_add (f g : Nat → Nat) : ∀ n, sm (fun k => f k + g k) n = sm f n + sm g n
  | 0 => rfl
  | n + 1 => by
    show sm (fun k => f k + g k) n + (f n + g n) = sm f n + f n + (sm g n + g n)
    rw [sm_add f g n]
    (first | lia | omega)
theorem sm_zero : ∀ n, sm (fun _ => 0) n = 0
  | 0 => rfl
  | n + 1 => by
    show sm (fun _ => 0) n + 0 = 0
    rw [sm_zero n]
theorem sm_comm (f : Nat → Nat → Nat) (n : Nat) : ∀ p, sm (fun x => sm (fun k => f x k) n) p = sm (fun k => sm (fun x => f x k) p) n
  | 0 => (sm_zero n).symm
  | p + 1 => by
    show sm (fun x => sm (fun k => f x k) n) p + sm (fun k => f p k) n = sm (fun k => sm (fun x => f x k) p + f p k) n
    rw [sm_comm f n p, sm_add]
theorem cnt_sm (f : Nat → Bool) : ∀ n, cnt f n = sm (fun k => if f k = true then 1 else 0) n
  | 0 => rfl
  | n + 1 => by
    show cnt f n + (if f n = true then 1 else 0) = sm (fun k => if f k = true then 1 else 0) n + (if f n = true then 1 else 0)
    rw [cnt_sm f n]
theorem sm_le {f g : Nat → Nat} : ∀ {n : Nat}, (∀ k, k < n → f k ≤ g k) → sm f n ≤ sm g n
  | 0, _ => Nat.le_refl _
  | n + 1, h => by
    have h1 := sm_le (f := f) (g := g) (n := n) fun k hk => h k (by (first | lia | omega))
    have h2 := h n (by (first | lia | omega))
    show sm f n + f n ≤ sm g n + g n
    (first | lia | omega)
theorem sm_eq {f g : Nat → Nat} {n : Nat} (h : ∀ k, k < n → f k ≤ g k) (e : sm f n = sm g n) : ∀ k, k < n → f k = g k := by
  induction n with
  | zero => exact fun k hk => absurd hk (Nat.not_lt_zero _)
  | succ n ih =>
    intro k hk
    have h1 := sm_le (f := f) (g := g) (n := n) fun k hk => h k (by (first | lia | omega))
    have h2 := h n (by (first | lia | omega))
    have e : sm f n + f n = sm g n + g n := e
    by_cases hkn : k = n
    · subst hkn
      (first | lia | omega)
    · exact ih (fun j hj => h j (by (first | lia | omega))) (by (first | lia | omega)) k (by (first | lia | omega))
theorem cnt_le {f g : Nat → Bool} {n : Nat} (h : ∀ k, k < n → f k = true → g k = true) : cnt f n ≤ cnt g n := by
  rw [cnt_sm, cnt_sm]
  refine sm_le fun k hk => ?_
  by_cases hf : f k = true
  · rw [if_pos hf, if_pos (h k hk hf)]
    exact Nat.le_refl _
  · rw [if_neg hf]
    exact Nat.zero_le _
theorem cnt_same {f g : Nat → Bool} {n : Nat} (h : ∀ k, k < n → f k = true → g k = true) (e : cnt f n = cnt g n) : ∀ k, k < n → g k = true → f k = true := fun k hk hg => by
  rw [cnt_sm, cnt_sm] at e
  have q := sm_eq (n := n) (fun k hk => by
    by_cases hf : f k = true
    · rw [if_pos hf, if_pos (h k hk hf)]
      exact Nat.le_refl _
    · rw [if_neg hf]
      exact Nat.zero_le _) e k hk
  rw [if_pos hg] at q
  by_cases hf : f k = true
  · exact hf
  · rw [if_neg hf] at q
    (first | lia | omega)
theorem cnt_some {f : Nat → Bool} : ∀ {n : Nat}, 0 < cnt f n → ∃ k, k < n ∧ f k = true
  | 0, h => absurd h (Nat.lt_irrefl _)
  | n + 1, h => by
    by_cases hf : f n = true
    · exact ⟨n, by (first | lia | omega), hf⟩
    · have h : 0 < cnt f n + (if f n = true then 1 else 0) := h
      rw [if_neg hf] at h
      obtain ⟨k, hk, q⟩ := cnt_some (f := f) (n := n) (by (first | lia | omega))
      exact ⟨k, by (first | lia | omega), q⟩
theorem cnt_pos {f : Nat → Bool} {k : Nat} (hf : f k = true) : ∀ {n : Nat}, k < n → 0 < cnt f n
  | 0, h => absurd h (Nat.not_lt_zero _)
  | n + 1, h => by
    show 0 < cnt f n + (if f n = true then 1 else 0)
    by_cases hk : k = n
    · subst hk
      rw [if_pos hf]
      (first | lia | omega)
    · have := cnt_pos hf (n := n) (by (first | lia | omega))
      (first | lia | omega)
theorem cnt_two {f : Nat → Bool} : ∀ {n : Nat}, 2 ≤ cnt f n → ∃ c d, c < d ∧ d < n ∧ f c = true ∧ f d = true
  | 0, h => absurd h (by show ¬ 2 ≤ 0; (first | lia | omega))
  | n + 1, h => by
    have h : 2 ≤ cnt f n + (if f n = true then 1 else 0) := h
    by_cases hf : f n = true
    · rw [if_pos hf] at h
      obtain ⟨k, hk, q⟩ := cnt_some (f := f) (n := n) (by (first | lia | omega))
      exact ⟨k, n, hk, by (first | lia | omega), q, hf⟩
    · rw [if_neg hf] at h
      obtain ⟨c, d, h1, h2, h3, h4⟩ := cnt_two (f := f) (n := n) (by (first | lia | omega))
      exact ⟨c, d, h1, by (first | lia | omega), h3, h4⟩
theorem two_cnt {f : Nat → Bool} {u v : Nat} (hu : f u = true) (hv : f v = true) (ne : u ≠ v) : ∀ {n : Nat}, u < n → v < n → 2 ≤ cnt f n
  | 0, h, _ => absurd h (Nat.not_lt_zero _)
  | n + 1, h1, h2 => by
    show 2 ≤ cnt f n + (if f n = true then 1 else 0)
    by_cases e1 : u = n
    · subst e1
      have := cnt_pos hv (n := u) (by (first | lia | omega))
      rw [if_pos hu]
      (first | lia | omega)
    · by_cases e2 : v = n
      · subst e2
        have := cnt_pos hu (n := v) (by (first | lia | omega))
        rw [if_pos hv]
        (first | lia | omega)
      · have := two_cnt hu hv ne (n := n) (by (first | lia | omega)) (by (first | lia | omega))
        (first | lia | omega)
theorem cnt_eq (a : Nat) : ∀ n, cnt (fun x => decide (a = x)) n = if a < n then 1 else 0
  | 0 => rfl
  | n + 1 => by
    show cnt (fun x => decide (a = x)) n + (if decide (a = n) = true then 1 else 0) = _
    rw [cnt_eq a n]
    by_cases e : a = n
    · subst e
      simp
    · have d : (if decide (a = n) = true then 1 else 0) = 0 := if_neg (by simpa using e)
      rw [d]
      by_cases h : a < n
      · rw [if_pos h, if_pos (by (first | lia | omega))]
      · rw [if_neg h, if_neg (by (first | lia | omega))]
theorem cnt_or {f g : Nat → Bool} : ∀ {n : Nat}, (∀ x, x < n → ¬ (f x = true ∧ g x = true)) → cnt (fun x => f x ^^ g x) n = cnt f n + cnt g n
  | 0, _ => rfl
  | n + 1, h => by
    show cnt (fun x => f x ^^ g x) n + (if (f n ^^ g n) = true then 1 else 0) = cnt f n + (if f n = true then 1 else 0) + (cnt g n + (if g n = true then 1 else 0))
    rw [cnt_or fun x hx => h x (by (first | lia | omega))]
    have q := h n (by (first | lia | omega))
    cases hf : f n <;> cases hg : g n
    · simp
    · simp
      (first | lia | omega)
    · simp
      (first | lia | omega)
    · exact absurd ⟨hf, hg⟩ q
variable {N : Net}
def Net.dg (N : Net) (m x : Nat) : Nat := cnt (fun k => m.testBit k && N.inc k x) N.n
theorem bd_dg (m x : Nat) : N.bd m x = decide (N.dg m x % 2 = 1) := xsum_cnt _ _
theorem even_dg {m x : Nat} (e : N.Even m) (hx : x < N.p) : N.dg m x % 2 = 0 := by
  have h := e x hx
  rw [bd_dg] at h
  have := of_decide_eq_false h
  (first | lia | omega)
theorem inc_iff {k x : Nat} (hk : k < N.n) : N.inc k x = true ↔ (N.a k = x ∨ N.b k = x) := by
  have ne := N.ne k hk
  unfold Net.inc
  by_cases h1 : N.a k = x
  · have h2 : ¬ N.b k = x := fun z => ne (h1.trans z.symm)
    simp [h1, h2]
  · by_cases h2 : N.b k = x
    · simp [h1, h2]
    · simp [h1, h2]
theorem inc_two {k : Nat} (hk : k < N.n) : cnt (N.inc k) N.p = 2 := by
  have ne := N.ne k hk
  have e : cnt (N.inc k) N.p = cnt (fun x => decide (N.a k = x) ^^ decide (N.b k = x)) N.p := rfl
  rw [e, cnt_or fun x _ ⟨h1, h2⟩ => ne ((of_decide_eq_true h1).trans (of_decide_eq_true h2).symm), cnt_eq, cnt_eq, if_pos (N.al k hk), if_pos (N.bl k hk)]
theorem dg_sum (m : Nat) : sm (fun x => N.dg m x) N.p = 2 * cnt (fun k => m.testBit k) N.n := by
  have e : sm (fun x => N.dg m x) N.p = sm (fun x => sm (fun k => if (m.testBit k && N.inc k x) = true then 1 else 0) N.n) N.p := sm_congr fun x _ => cnt_sm _ _
  rw [e, sm_comm, cnt_sm]
  have d : ∀ n, 2 * sm (fun k => if m.testBit k = true then 1 else 0) n = sm (fun k => (if m.testBit k = true then 1 else 0) + (if m.testBit k = true then 1 else 0)) n := fun n => by
    rw [sm_add]
    (first | lia | omega)
  rw [d]
  refine sm_congr fun k hk => ?_
  by_cases h : m.testBit k = true
  · rw [if_pos h]
    have q := inc_two hk
    rw [cnt_sm] at q
    show _ = 2
    exact (sm_congr fun x _ => by rw [h, Bool.true_and]).trans q
  · rw [if_neg h]
    have h' : m.testBit k = false := by simpa using h
    have : sm (fun x => if (m.testBit k && N.inc k x) = true then 1 else 0) N.p = sm (fun _ => 0) N.p := sm_congr fun x _ => by rw [h']; rfl
    rw [this, sm_zero]
theorem dg_le {q m : Nat} (h : ∀ k, q.testBit k = true → m.testBit k = true) (x : Nat) : N.dg q x ≤ N.dg m x := cnt_le fun k _ hq => by
  rw [Bool.and_eq_true] at hq ⊢
  exact ⟨h k hq.1, hq.2⟩
theorem dg_at {m k x : Nat} (hk : k < N.n) (hb : m.testBit k = true) (hx : N.a k = x ∨ N.b k = x) : 0 < N.dg m x := cnt_pos (k := k) (by rw [hb, Bool.true_and]; exact (inc_iff hk).mpr hx) hk
theorem dg_some {m x : Nat} (h : 0 < N.dg m x) : ∃ k, k < N.n ∧ m.testBit k = true ∧ (N.a k = x ∨ N.b k = x) := by
  obtain ⟨k, hk, q⟩ := cnt_some h
  rw [Bool.and_eq_true] at q
  exact ⟨k, hk, q.1, (inc_iff hk).mp q.2⟩
theorem alone {m x y : Nat} (h : N.dg m x = 0) (c : N.Conn (fun k => m.testBit k) N.n x y) : y = x := by
  induction c with
  | refl => rfl
  | fwd _ hj hs ih => exact absurd (dg_at hj hs (.inl ih)) (by (first | lia | omega))
  | bwd _ hj hs ih => exact absurd (dg_at hj hs (.inr ih)) (by (first | lia | omega))
theorem conn_path {S : Nat → Bool} {k u v : Nat} (hk : k ≤ N.n) (c : N.Conn S k u v) : ∃ t, (∀ j, t.testBit j = true → j < k ∧ S j = true) ∧ ∀ x, N.bd t x = (decide (u = x) ^^ decide (v = x)) := by
  induction c with
  | refl => exact ⟨0, fun j hj => by simp at hj, fun x => by rw [bd_zero]; simp⟩
  | fwd _ hj hs ih =>
    rename_i j _
    obtain ⟨t, h1, h2⟩ := ih
    refine ⟨t ^^^ 2 ^ j, fun i hi => ?_, fun x => ?_⟩
    · rw [Nat.testBit_xor, Nat.testBit_two_pow] at hi
      by_cases e : j = i
      · subst e
        exact ⟨hj, hs⟩
      · rw [decide_eq_false e, Bool.xor_false] at hi
        exact h1 i hi
    · rw [bd_xor, h2, bd_pow (by (first | lia | omega))]
      unfold Net.inc
      cases decide (u = x) <;> cases decide (N.a j = x) <;> cases decide (N.b j = x) <;> rfl
  | bwd _ hj hs ih =>
    rename_i j _
    obtain ⟨t, h1, h2⟩ := ih
    refine ⟨t ^^^ 2 ^ j, fun i hi => ?_, fun x => ?_⟩
    · rw [Nat.testBit_xor, Nat.testBit_two_pow] at hi
      by_cases e : j = i
      · subst e
        exact ⟨hj, hs⟩
      · rw [decide_eq_false e, Bool.xor_false] at hi
        exact h1 i hi
    · rw [bd_xor, h2, bd_pow (by (first | lia | omega))]
      unfold Net.inc
      cases decide (u = x) <;> cases decide (N.a j = x) <;> cases decide (N.b j = x) <;> rfl
def Net.Ring (N : Net) (m : Nat) : Prop := m ≠ 0 ∧ N.Even m ∧ ∀ q, (∀ k, q.testBit k = true → m.testBit k = true) → N.Even q → q = 0 ∨ q = m
section
variable {m s : Nat}
theorem ring_of (hm : m < 2 ^ N.n) (ev : N.Even m) (C : Nat → Bool) (hC : ∀ x, x < N.p → C x = decide (N.labs (fun k => m.testBit k) N.n x = s)) (h2 : 2 ≤ cnt C N.p)
    (tie : ∀ k, k < N.n → m.testBit k = true → C (N.a k) = true) (hl : cnt C N.p = cnt (fun k => m.testBit k) N.n) : N.Ring m := by
  have inC : ∀ k, k < N.n → m.testBit k = true → C (N.a k) = true ∧ C (N.b k) = true := fun k hk hb => by
    have h := tie k hk hb
    refine ⟨h, ?_⟩
    rw [hC _ (N.al k hk)] at h
    rw [hC _ (N.bl k hk)]
    rw [labs_tie (S := fun k => m.testBit k) hk hb] at h
    exact h
  have pos : ∀ x, x < N.p → C x = true → 0 < N.dg m x := fun x hx hc => by
    cases hz : N.dg m x with
    | succ d => (first | lia | omega)
    | zero =>
      exfalso
      obtain ⟨y, hy, hcy, hne⟩ : ∃ y, y < N.p ∧ C y = true ∧ y ≠ x := by
        obtain ⟨c, d, h1, h3, h4, h5⟩ := cnt_two h2
        by_cases e : c = x
        · exact ⟨d, h3, h5, by (first | lia | omega)⟩
        · exact ⟨c, by (first | lia | omega), h4, e⟩
      rw [hC x hx] at hc
      rw [hC y hy] at hcy
      exact hne (alone hz (labs_conn _ _ _ ((of_decide_eq_true hc).trans (of_decide_eq_true hcy).symm)))
  have two : ∀ x, x < N.p → (if C x = true then 2 else 0) = N.dg m x := by
    refine sm_eq (fun x hx => ?_) ?_
    · by_cases hc : C x = true
      · rw [if_pos hc]
        have h1 := pos x hx hc
        have h3 := even_dg ev hx
        (first | lia | omega)
      · rw [if_neg hc]
        exact Nat.zero_le _
    · rw [dg_sum, ← hl, cnt_sm]
      have d : ∀ n, 2 * sm (fun k => if C k = true then 1 else 0) n = sm (fun k => (if C k = true then 1 else 0) + (if C k = true then 1 else 0)) n := fun n => by
        rw [sm_add]
        (first | lia | omega)
      rw [d]
      exact sm_congr fun x _ => by split <;> rfl
  obtain ⟨c0, hc0, hcc⟩ := cnt_some (f := C) (n := N.p) (by (first | lia | omega))
  refine ⟨fun z => ?_, ev, fun q hq eq => ?_⟩
  · have h := pos c0 hc0 hcc
    obtain ⟨k, _, hb, _⟩ := dg_some h
    rw [z] at hb
    simp at hb
  · by_cases hq0 : q = 0
    · exact .inl hq0
    · right
      have full : ∀ x, x < N.p → 0 < N.dg q x → ∀ k, k < N.n → m.testBit k = true → (N.a k = x ∨ N.b k = x) → q.testBit k = true := fun x hx h k hk hb hx2 => by
        have h1 := dg_le (N := N) hq x
        have h3 := even_dg eq hx
        have h4 := two x hx
        have h5 : N.dg q x = N.dg m x := by
          by_cases hc : C x = true
          · rw [if_pos hc] at h4
            (first | lia | omega)
          · rw [if_neg hc] at h4
            (first | lia | omega)
        have h6 := cnt_same (f := fun k => q.testBit k && N.inc k x) (g := fun k => m.testBit k && N.inc k x) (n := N.n) (fun k _ z => by
          rw [Bool.and_eq_true] at z ⊢
          exact ⟨hq k z.1, z.2⟩) h5 k hk (by rw [hb, Bool.true_and]; exact (inc_iff hk).mpr hx2)
        rw [Bool.and_eq_true] at h6
        exact h6.1
      obtain ⟨k0, hb0⟩ : ∃ k, q.testBit k = true := Nat.exists_testBit_of_ne_zero hq0
      have hk0 : k0 < N.n := bits_lt hm (hq k0 hb0)
      have spread : ∀ {y}, N.Conn (fun k => m.testBit k) N.n (N.a k0) y → 0 < N.dg q y := fun {y} c => by
        induction c with
        | refl => exact dg_at hk0 hb0 (.inl rfl)
        | fwd _ hj hs ih => exact dg_at hj (full _ (N.al _ hj) ih _ hj hs (.inl rfl)) (.inr rfl)
        | bwd _ hj hs ih => exact dg_at hj (full _ (N.bl _ hj) ih _ hj hs (.inr rfl)) (.inl rfl)
      refine Nat.eq_of_testBit_eq fun k => ?_
      cases hb : m.testBit k with
      | false =>
        cases hz : q.testBit k with
        | false => rfl
        | true =>
          have := hq k hz
          rw [hb] at this
          cases this
      | true =>
        have hk := bits_lt hm hb
        have e1 := (inC k hk hb).1
        have e2 := (inC k0 hk0 (hq k0 hb0)).1
        rw [hC _ (N.al k hk)] at e1
        rw [hC _ (N.al k0 hk0)] at e2
        exact full _ (N.al k hk) (spread (labs_conn _ _ _ ((of_decide_eq_true e2).trans (of_decide_eq_true e1).symm))) k hk hb (.inl rfl)
theorem ring_piece (hm : m < 2 ^ N.n) (r : N.Ring m) : ∃ k0, k0 < N.n ∧ m.testBit k0 = true ∧ ∀ k, k < N.n → m.testBit k = true → N.labs (fun k => m.testBit k) N.n (N.a k) = N.labs (fun k => m.testBit k) N.n (N.a k0) := by
  obtain ⟨h0, ev, mn⟩ := r
  obtain ⟨k0, hb0⟩ := Nat.exists_testBit_of_ne_zero h0
  have hk0 := bits_lt hm hb0
  refine ⟨k0, hk0, hb0, ?_⟩
  generalize hs : N.labs (fun k => m.testBit k) N.n (N.a k0) = s
  have bit : ∀ k, (Ring.maskOf (fun k => m.testBit k && decide (N.labs (fun k => m.testBit k) N.n (N.a k) = s)) N.n).testBit k = (decide (k < N.n) && (m.testBit k && decide (N.labs (fun k => m.testBit k) N.n (N.a k) = s))) := fun k => Ring.mask_bit _ k _
  have sub : ∀ k, (Ring.maskOf (fun k => m.testBit k && decide (N.labs (fun k => m.testBit k) N.n (N.a k) = s)) N.n).testBit k = true → m.testBit k = true := fun k hk => by
    rw [bit, Bool.and_eq_true, Bool.and_eq_true] at hk
    exact hk.2.1
  have evn : N.Even (Ring.maskOf (fun k => m.testBit k && decide (N.labs (fun k => m.testBit k) N.n (N.a k) = s)) N.n) := fun x hx => by
    have e : N.bd (Ring.maskOf (fun k => m.testBit k && decide (N.labs (fun k => m.testBit k) N.n (N.a k) = s)) N.n) x = (decide (N.labs (fun k => m.testBit k) N.n x = s) && N.bd m x) := by
      unfold Net.bd
      rw [← xsum_and]
      refine xsum_congr fun k hk => ?_
      rw [bit, decide_eq_true hk, Bool.true_and]
      cases hb : m.testBit k with
      | false => simp
      | true =>
        cases hi : N.inc k x with
        | false => simp
        | true =>
          have el : N.labs (fun k => m.testBit k) N.n (N.a k) = N.labs (fun k => m.testBit k) N.n x := by
            rcases (inc_iff hk).mp hi with z | z
            · rw [z]
            · rw [← z]
              exact labs_tie (S := fun k => m.testBit k) hk hb
          rw [el]
          simp
    rw [e, ev x hx, Bool.and_false]
  rcases mn _ sub evn with q | q
  · have := bit k0
    rw [q, hb0, hs, decide_eq_true hk0] at this
    simp at this
  · intro k hk hb
    have h := bit k
    rw [q, hb, decide_eq_true hk] at h
    exact of_decide_eq_true (by simpa using h.symm)
theorem roots_set (S : Nat → Bool) : ∀ k, k ≤ N.n → cnt (N.root S k) N.p + cnt (fun j => S j && !decide (N.labs S j (N.a j) = N.labs S j (N.b j))) k = N.p
  | 0, _ => by
    show cnt (N.root S 0) N.p + 0 = N.p
    rw [cnt_all (f := N.root S 0) fun x _ => decide_eq_true rfl]
    rfl
  | k + 1, hk => by
    have ih := roots_set S k (by (first | lia | omega))
    have st := roots_step (N := N) (S := S) (k := k) (by (first | lia | omega))
    show cnt (N.root S (k + 1)) N.p + (cnt (fun j => S j && !decide (N.labs S j (N.a j) = N.labs S j (N.b j))) k + if (S k && !decide (N.labs S k (N.a k) = N.labs S k (N.b k))) = true then 1 else 0) = N.p
    (first | lia | omega)
theorem ring_len (hm : m < 2 ^ N.n) (r : N.Ring m) (C : Nat → Bool) (hC : ∀ x, x < N.p → C x = decide (N.labs (fun k => m.testBit k) N.n x = s))
    (tie : ∀ k, k < N.n → m.testBit k = true → C (N.a k) = true) : 2 ≤ cnt C N.p ∧ cnt C N.p = cnt (fun k => m.testBit k) N.n ∧ ∀ x, x < N.p → C x = false → N.labs (fun k => m.testBit k) N.n x = x ∧ ∀ y, N.labs (fun k => m.testBit k) N.n y = x → y = x := by
  obtain ⟨h0, ev, mn⟩ := r
  obtain ⟨k0, hb0⟩ := Nat.exists_testBit_of_ne_zero h0
  have hk0 := bits_lt hm hb0
  have inC : ∀ k, k < N.n → m.testBit k = true → C (N.a k) = true ∧ C (N.b k) = true := fun k hk hb => by
    have h := tie k hk hb
    refine ⟨h, ?_⟩
    rw [hC _ (N.al k hk)] at h
    rw [hC _ (N.bl k hk), ← labs_tie (S := fun k => m.testBit k) hk hb]
    exact h
  have h2 : 2 ≤ cnt C N.p := two_cnt (inC k0 hk0 hb0).1 (inC k0 hk0 hb0).2 (N.ne k0 hk0) (N.al k0 hk0) (N.bl k0 hk0)
  have none : ∀ x, x < N.p → C x = false → N.dg m x = 0 := fun x hx hc => by
    cases hz : N.dg m x with
    | zero => rfl
    | succ d =>
      exfalso
      obtain ⟨k, hk, hb, hx2⟩ := dg_some (N := N) (m := m) (x := x) (by (first | lia | omega))
      rcases hx2 with e | e
      · have := (inC k hk hb).1
        rw [e, hc] at this
        cases this
      · have := (inC k hk hb).2
        rw [e, hc] at this
        cases this
  have solo : ∀ x, x < N.p → C x = false → N.labs (fun k => m.testBit k) N.n x = x ∧ ∀ y, N.labs (fun k => m.testBit k) N.n y = x → y = x := fun x hx hc => by
    have hz := none x hx hc
    have r1 : N.labs (fun k => m.testBit k) N.n x = x := alone hz (labs_conn _ _ _ (labs_root _ _).symm)
    exact ⟨r1, fun y hy => alone hz (labs_conn _ _ _ (r1.trans hy.symm))⟩
  refine ⟨h2, ?_, solo⟩
  -- no fewer ties than points
  have pos : ∀ x, x < N.p → C x = true → 0 < N.dg m x := fun x hx hc => by
    cases hz : N.dg m x with
    | succ d => (first | lia | omega)
    | zero =>
      exfalso
      obtain ⟨y, hy, hcy, hne⟩ : ∃ y, y < N.p ∧ C y = true ∧ y ≠ x := by
        obtain ⟨c, d, h1, h3, h4, h5⟩ := cnt_two h2
        by_cases e : c = x
        · exact ⟨d, h3, h5, by (first | lia | omega)⟩
        · exact ⟨c, by (first | lia | omega), h4, e⟩
      rw [hC x hx] at hc
      rw [hC y hy] at hcy
      exact hne (alone hz (labs_conn _ _ _ ((of_decide_eq_true hc).trans (of_decide_eq_true hcy).symm)))
  have ge : cnt C N.p ≤ cnt (fun k => m.testBit k) N.n := by
    have h : sm (fun x => if C x = true then 2 else 0) N.p ≤ sm (fun x => N.dg m x) N.p := sm_le fun x hx => by
      by_cases hc : C x = true
      · rw [if_pos hc]
        have h1 := pos x hx hc
        have h3 := even_dg ev hx
        (first | lia | omega)
      · rw [if_neg hc]
        exact Nat.zero_le _
    rw [dg_sum] at h
    have d : sm (fun x => if C x = true then 2 else 0) N.p = 2 * cnt C N.p := by
      rw [cnt_sm]
      have d : ∀ n, 2 * sm (fun k => if C k = true then 1 else 0) n = sm (fun k => (if C k = true then 1 else 0) + (if C k = true then 1 else 0)) n := fun n => by
        rw [sm_add]
        (first | lia | omega)
      rw [d]
      exact sm_congr fun x _ => by split <;> rfl
    (first | lia | omega)
  -- no more: two chords would be two rings
  refine Nat.le_antisymm ge (Nat.le_of_not_lt fun more => ?_)
  have hroots := roots_set (N := N) (fun k => m.testBit k) N.n (Nat.le_refl _)
  have hr : cnt (N.root (fun k => m.testBit k) N.n) N.p + cnt C N.p = N.p + 1 := by
    -- the roots: all out of C, and one in it
    have hc0 := (inC k0 hk0 hb0).1
    rw [hC _ (N.al k0 hk0)] at hc0
    have hs := of_decide_eq_true hc0
    have hsp : s < N.p := by rw [← hs]; exact labs_lt (N.al k0 hk0)
    have hss : N.labs (fun k => m.testBit k) N.n s = s := by rw [← hs]; exact labs_root _ _
    have e : cnt (N.root (fun k => m.testBit k) N.n) N.p = cnt (fun x => !C x ^^ decide (s = x)) N.p := cnt_congr fun x hx => by
      unfold Net.root
      cases hc : C x with
      | false =>
        have ne : ¬ s = x := fun z => by
          have := hC x hx
          rw [hc, ← z, hss] at this
          simp at this
        rw [decide_eq_true (solo x hx hc).1, decide_eq_false ne]
        rfl
      | true =>
        have h := hC x hx
        rw [hc] at h
        have h := of_decide_eq_true h.symm
        rw [h]
        simp
    rw [e, cnt_or fun x hx ⟨z1, z2⟩ => by
      have z2 := of_decide_eq_true z2
      have := hC x hx
      rw [← z2, hss] at this
      rw [← z2, this] at z1
      simp at z1, cnt_eq, if_pos hsp]
    have := cnt_not C N.p
    (first | lia | omega)
  have split : cnt (fun k => m.testBit k) N.n = cnt (fun j => m.testBit j && !decide (N.labs (fun k => m.testBit k) j (N.a j) = N.labs (fun k => m.testBit k) j (N.b j))) N.n + cnt (fun j => m.testBit j && decide (N.labs (fun k => m.testBit k) j (N.a j) = N.labs (fun k => m.testBit k) j (N.b j))) N.n := by
    rw [← cnt_or fun x _ ⟨z1, z2⟩ => by
      rw [Bool.and_eq_true] at z1 z2
      have := z1.2
      rw [z2.2] at this
      cases this]
    refine cnt_congr fun k _ => ?_
    cases m.testBit k <;> cases decide (N.labs (fun k => m.testBit k) k (N.a k) = N.labs (fun k => m.testBit k) k (N.b k)) <;> rfl
  obtain ⟨c, d, hcd, hd, hc1, hd1⟩ := cnt_two (f := fun j => m.testBit j && decide (N.labs (fun k => m.testBit k) j (N.a j) = N.labs (fun k => m.testBit k) j (N.b j))) (n := N.n) (by (first | lia | omega))
  have whole : ∀ j, j < N.n → (m.testBit j && decide (N.labs (fun k => m.testBit k) j (N.a j) = N.labs (fun k => m.testBit k) j (N.b j))) = true → ∀ i, m.testBit i = true → i ≤ j := fun j hj h i hi => by
    rw [Bool.and_eq_true] at h
    obtain ⟨t, t1, t2⟩ := conn_path (Nat.le_of_lt hj) (labs_conn _ _ _ (of_decide_eq_true h.2))
    have own : (t ^^^ 2 ^ j).testBit j = true := by
      rw [Nat.testBit_xor, Nat.testBit_two_pow, decide_eq_true rfl]
      cases hz : t.testBit j with
      | false => rfl
      | true => exact absurd (t1 j hz).1 (Nat.lt_irrefl _)
    have sub : ∀ k, (t ^^^ 2 ^ j).testBit k = true → m.testBit k = true := fun k hk => by
      rw [Nat.testBit_xor, Nat.testBit_two_pow] at hk
      by_cases e : j = k
      · subst e
        exact h.1
      · rw [decide_eq_false e, Bool.xor_false] at hk
        exact (t1 k hk).2
    have evn : N.Even (t ^^^ 2 ^ j) := fun x hx => by
      rw [bd_xor, t2, bd_pow hj]
      unfold Net.inc
      cases decide (N.a j = x) <;> cases decide (N.b j = x) <;> rfl
    rcases mn _ sub evn with q | q
    · rw [q] at own
      simp at own
    · rw [← q, Nat.testBit_xor, Nat.testBit_two_pow] at hi
      by_cases e : j = i
      · (first | lia | omega)
      · rw [decide_eq_false e, Bool.xor_false] at hi
        exact Nat.le_of_lt (t1 i hi).1
  have h1 : m.testBit d = true := by
    rw [Bool.and_eq_true] at hd1
    exact hd1.1
  have := whole c (by (first | lia | omega)) hc1 d h1
  (first | lia | omega)
end
end RM
namespace Ring
open PySem L2
def touchedOf (L : Nat → Nat) (p : Nat) : List Nat := (rootsOf L p).filter fun s => decide (1 < (pieceOf L p s).length)
def oneB (L : Nat → Nat) (p k : Nat) : List Nat → Bool
  | [s] => decide ((pieceOf L p s).length = k)
  | _ => false
def ringB (p : Nat) (ts : List Tie) (g : GoodWeb p ts) (m : Nat) : Bool := decide (oddOf p ts (m : Int) = []) && oneB (labOf p ts g m) p (tiesOf (m : Int)).length (touchedOf (labOf p ts g m) p)
theorem piece_cnt (L : Nat → Nat) (p s : Nat) : (pieceOf L p s).length = RM.cnt (fun x => decide (L x = s)) p := RM.cnt_range _ _
theorem ties_cnt {m n : Nat} (hm : m < 2 ^ n) : (tiesOf (m : Int)).length = RM.cnt (fun k => m.testBit k) n := by
  rw [ties_nat hm]
  exact RM.cnt_range _ _
theorem filter_is {f : Nat → Bool} {n c : Nat} (hc : c < n) (h : ∀ k, k < n → f k = decide (k = c)) : (List.range n).filter f = [c] := by
  rw [← filter_single hc]
  exact List.filter_congr fun k hk => h k (List.mem_range.mp hk)
theorem ringB_iff {p : Nat} {ts : List Tie} (g : GoodWeb p ts) {m : Nat} (hm : m < 2 ^ ts.length) : ringB p ts g m = true ↔ (netOf p ts g).Ring m := by
  have eL : labOf p ts g m = (netOf p ts g).labs (fun k => m.testBit k) (netOf p ts g).n := rfl
  have ep : (netOf p ts g).p = p := rfl
  constructor
  · intro h
    unfold ringB at h
    rw [Bool.and_eq_true] at h
    obtain ⟨h1, h2⟩ := h
    have ev := (even_net g hm).mp (of_decide_eq_true h1)
    unfold oneB at h2
    split at h2
    · rename_i s hs
      have h2 := of_decide_eq_true h2
      have hmem : s ∈ touchedOf (labOf p ts g m) p := by rw [hs]; exact List.mem_singleton.mpr rfl
      unfold touchedOf at hmem
      have hlen := of_decide_eq_true (List.mem_filter.mp hmem).2
      refine RM.ring_of (s := s) hm ev (fun x => decide (labOf p ts g m x = s)) (fun x _ => by rw [eL]) ?_ (fun k hk hb => ?_) ?_
      · rw [ep, ← piece_cnt]
        exact hlen
      · -- the piece of a tie is touched
        have hak := (netOf p ts g).al k hk
        have hbk := (netOf p ts g).bl k hk
        have e : labOf p ts g m ((netOf p ts g).b k) = labOf p ts g m ((netOf p ts g).a k) := (RM.labs_tie (S := fun k => m.testBit k) hk hb).symm
        have hr : labOf p ts g m (labOf p ts g m ((netOf p ts g).a k)) = labOf p ts g m ((netOf p ts g).a k) := RM.labs_root _ _
        have hlt : labOf p ts g m ((netOf p ts g).a k) < p := RM.labs_lt hak
        have ht : labOf p ts g m ((netOf p ts g).a k) ∈ touchedOf (labOf p ts g m) p := by
          unfold touchedOf rootsOf
          refine List.mem_filter.mpr ⟨List.mem_filter.mpr ⟨List.mem_range.mpr hlt, decide_eq_true hr⟩, decide_eq_true ?_⟩
          rw [piece_cnt]
          exact RM.two_cnt (u := (netOf p ts g).a k) (v := (netOf p ts g).b k) (decide_eq_true rfl) (decide_eq_true e) ((netOf p ts g).ne k hk) hak hbk
        rw [hs] at ht
        exact decide_eq_true (List.mem_singleton.mp ht)
      · rw [ep, ← piece_cnt, h2]
        exact ties_cnt hm
    · cases h2
  · intro r
    obtain ⟨k0, hk0, hb0, hall⟩ := RM.ring_piece hm r
    generalize hs : (netOf p ts g).labs (fun k => m.testBit k) (netOf p ts g).n ((netOf p ts g).a k0) = s at hall
    obtain ⟨h2, hl, solo⟩ := RM.ring_len (s := s) hm r (fun x => decide (labOf p ts g m x = s)) (fun x _ => by rw [eL]) (fun k hk hb => decide_eq_true (hall k hk hb))
    have hsp : s < p := by rw [← hs]; exact RM.labs_lt ((netOf p ts g).al k0 hk0)
    have hss : labOf p ts g m s = s := by rw [eL, ← hs]; exact RM.labs_root _ _
    have ht : touchedOf (labOf p ts g m) p = [s] := by
      unfold touchedOf rootsOf
      rw [List.filter_filter]
      refine filter_is hsp fun x hx => ?_
      by_cases e : x = s
      · subst e
        rw [decide_eq_true hss, piece_cnt, decide_eq_true rfl, Bool.and_true]
        exact decide_eq_true h2
      · rw [decide_eq_false e]
        by_cases hx2 : labOf p ts g m x = x
        · have hc : decide (labOf p ts g m x = s) = false := decide_eq_false (by rw [hx2]; exact e)
          obtain ⟨_, q⟩ := solo x hx hc
          have : ¬ 1 < (pieceOf (labOf p ts g m) p x).length := fun z => by
            rw [piece_cnt] at z
            obtain ⟨c, d, h1, _, h3, h4⟩ := RM.cnt_two z
            have h3 := q c (of_decide_eq_true h3)
            have h4 := q d (of_decide_eq_true h4)
            (first | lia | omega)
          rw [decide_eq_false this, Bool.false_and]
        · rw [decide_eq_false hx2, Bool.and_false]
    unfold ringB
    rw [decide_eq_true ((even_net g hm).mpr r.2.1), ht, Bool.true_and]
    refine decide_eq_true ?_
    rw [piece_cnt, ties_cnt hm]
    exact hl
theorem ringB_even {p : Nat} {ts : List Tie} {g : GoodWeb p ts} {m : Nat} (ev : oddOf p ts (m : Int) = []) : ringB p ts g m = oneB (labOf p ts g m) p (tiesOf (m : Int)).length (touchedOf (labOf p ts g m) p) := by
  unfold ringB
  rw [decide_eq_true ev, Bool.true_and]
theorem eqv_two : ∀ l l' : List Nat, PyData.eqvAll (l.map natD) (l'.map natD) = decide (l = l')
  | [], [] => rfl
  | [], _ :: _ => rfl
  | _ :: _, [] => rfl
  | x :: l, y :: l' => by
    show (((x : Int) == (y : Int)) && PyData.eqvAll (l.map natD) (l'.map natD)) = decide (x :: l = y :: l')
    rw [eqv_two l l', Bool.eq_iff_iff]
    simp
    (first | lia | omega)
theorem eqv_lists (l l' : List Nat) : PyData.eqv (.list (l.map natD)) (.list (l'.map natD)) = decide (l = l') := eqv_two l l'
theorem sub_iff {q m : Nat} : q &&& m = q ↔ ∀ k, q.testBit k = true → m.testBit k = true := by
  constructor
  · intro h k hk
    rw [← h, Nat.testBit_and, Bool.and_eq_true] at hk
    exact hk.2
  · intro h
    refine Nat.eq_of_testBit_eq fun k => ?_
    rw [Nat.testBit_and]
    cases hk : q.testBit k with
    | false => rfl
    | true => rw [h k hk]; rfl
def evensOf (p : Nat) (ts : List Tie) : List Nat := (List.range (2 ^ ts.length)).filter fun k => decide (0 < k) && decide (oddOf p ts (k : Int) = [])
theorem inside_iff {p : Nat} {ts : List Tie} (g : GoodWeb p ts) {m : Nat} (hm : m < 2 ^ ts.length) : (evensOf p ts).filter (fun k => decide (k &&& m = k)) = [m] ↔ (netOf p ts g).Ring m := by
  unfold evensOf
  rw [List.filter_filter]
  constructor
  · intro h
    have mem : ∀ k, k < 2 ^ ts.length → ((k &&& m = k ∧ 0 < k ∧ oddOf p ts (k : Int) = []) ↔ k = m) := fun k hk => by
      have q : k ∈ (List.range (2 ^ ts.length)).filter (fun k => decide (k &&& m = k) && (decide (0 < k) && decide (oddOf p ts (k : Int) = []))) ↔ k = m := by rw [h]; exact List.mem_singleton
      rw [List.mem_filter, Bool.and_eq_true, Bool.and_eq_true, decide_eq_true_eq, decide_eq_true_eq, decide_eq_true_eq, List.mem_range] at q
      exact ⟨fun z => q.mp ⟨hk, z⟩, fun z => (q.mpr z).2⟩
    obtain ⟨_, h0, he⟩ := (mem m hm).mpr rfl
    refine ⟨by (first | lia | omega), (even_net g hm).mp he, fun q hq eq => ?_⟩
    have hqs := sub_iff.mpr hq
    have hql : q < 2 ^ ts.length := by rw [← hqs]; exact Nat.and_lt_two_pow q hm
    by_cases hq0 : q = 0
    · exact .inl hq0
    · exact .inr ((mem q hql).mp ⟨hqs, by (first | lia | omega), (even_net g hql).mpr eq⟩)
  · intro r
    refine filter_is hm fun k hk => ?_
    rw [Bool.eq_iff_iff, Bool.and_eq_true, Bool.and_eq_true, decide_eq_true_eq, decide_eq_true_eq, decide_eq_true_eq, decide_eq_true_eq]
    constructor
    · rintro ⟨h1, h2, h3⟩
      rcases r.2.2 k (sub_iff.mp h1) ((even_net g hk).mp h3) with z | z
      · (first | lia | omega)
      · exact z
    · rintro rfl
      exact ⟨Nat.and_self _, Nat.pos_of_ne_zero r.1, (even_net g hk).mpr r.2.1⟩
theorem pick1_len {f : Nat → Bool} (h0 : f 0 = false) : ∀ i, ((List.range (i + 1)).filter f).length ≤ i
  | 0 => by
    show ((List.range 1).filter f).length ≤ 0
    rw [show List.range 1 = [0] from rfl]
    simp [h0]
  | i + 1 => by
    rw [filter_range_succ, List.length_append]
    have := pick1_len h0 i
    split <;> simp <;> (first | lia | omega)
def LstA (H : Hp) (y : V) (l : List Nat) : Prop := ∃ b, y = .ref b ∧ H b = some (.lst (natsV l))
def Sift (f : List Nat → Bool) (ls : List (List Nat)) (H : Hp) (D : Addr) (i : Nat) (acc : List V) (H2 : Hp) : Prop := Same H H2 ∧ H2 D = some (.lst acc) ∧ Paired (LstA H) acc ((ls.take i).filter f)
section
variable {f : List Nat → Bool} {ls : List (List Nat)} {H H2 H3 : Hp} {D : Addr} {i : Nat} {acc : List V} {y : V} {l : List Nat}
theorem Sift.start (hD : H D = none) : Sift f ls H D 0 [] (upd H D (.lst [])) := ⟨Same.new hD, upd_same, .nil⟩
theorem Sift.len (h : Sift f ls H D i acc H2) : H2 D = some (.lst acc) ∧ acc.length ≤ i := ⟨h.2.1, by
  rw [h.2.2.length]
  exact Nat.le_trans (List.length_filter_le _ _) (by rw [List.length_take]; (first | lia | omega))⟩
theorem Sift.yes (h : Sift f ls H D i acc H2) (hD : H D = none) (hl : ls[i]? = some l) (hf : f l = true) (hy : LstA H y l) : H2 D = some (.lst acc) ∧ Sift f ls H D (i + 1) (acc ++ [y]) (upd H2 D (.lst (acc ++ [y]))) := by
  refine ⟨h.2.1, h.1.put hD, upd_same, ?_⟩
  rw [List.take_add_one, hl, List.filter_append]
  show Paired _ _ (_ ++ List.filter f [l])
  rw [List.filter_cons, if_pos hf]
  exact Paired.snoc h.2.2 hy
theorem Sift.no (h : Sift f ls H D i acc H2) (hl : ls[i]? = some l) (hf : f l = false) : Sift f ls H D (i + 1) acc H2 := by
  refine ⟨h.1, h.2.1, ?_⟩
  rw [List.take_add_one, hl, List.filter_append]
  show Paired _ _ (_ ++ List.filter f [l])
  rw [List.filter_cons, if_neg (by rw [hf]; exact Bool.false_ne_true)]
  simpa using h.2.2
end
def orM (ks : List Nat) : Nat := ks.foldl (fun m k => m ||| 2 ^ k) 0
theorem orM_from (ks : List Nat) (j : Nat) : ∀ m, (ks.foldl (fun m k => m ||| 2 ^ k) m).testBit j = (m.testBit j || decide (j ∈ ks)) := by
  induction ks with
  | nil => intro m; simp
  | cons k r ih =>
    intro m
    rw [List.foldl_cons, ih, Nat.testBit_or, Nat.testBit_two_pow]
    by_cases h : k = j
    · subst h
      simp
    · have h' : ¬ j = k := fun z => h z.symm
      simp [h, h']
theorem orM_bit (ks : List Nat) (j : Nat) : (orM ks).testBit j = decide (j ∈ ks) := by
  unfold orM
  rw [orM_from]
  simp
theorem orM_snoc (ks : List Nat) {t : Nat} (h : t ∉ ks) : orM (ks ++ [t]) = orM ks ^^^ 2 ^ t := Nat.eq_of_testBit_eq fun j => by
  rw [Nat.testBit_xor, orM_bit, orM_bit, Nat.testBit_two_pow]
  by_cases e : t = j
  · subst e
    simp [h]
  · have e' : ¬ j = t := fun z => e z.symm
    simp [e, e']
end Ring
namespace RM
variable {N : Net}
inductive Net.Walk (N : Net) : List Nat → Nat → List Nat → Prop
  | one {v : Nat} : Net.Walk N [] v []
  | snoc {pre ks : List Nat} {v w t : Nat} (h : Net.Walk N pre v ks) (ht : t < N.n) (hn : t ∉ ks) (j : (N.a t = v ∧ N.b t = w) ∨ (N.b t = v ∧ N.a t = w)) : Net.Walk N (pre ++ [v]) w (ks ++ [t])
theorem Net.Walk.len {pre ks : List Nat} {v : Nat} (h : N.Walk pre v ks) : pre.length = ks.length := by
  induction h with
  | one => rfl
  | snoc _ _ _ _ ih => rw [List.length_append, List.length_append, ih]; rfl
theorem Net.Walk.lt {pre ks : List Nat} {v : Nat} (h : N.Walk pre v ks) : ∀ t ∈ ks, t < N.n := by
  induction h with
  | one => exact fun t ht => nomatch ht
  | snoc _ ht _ _ ih =>
    intro s hs
    rcases List.mem_append.mp hs with q | q
    · exact ih s q
    · have e := List.mem_singleton.mp q
      rw [e]
      exact ht
theorem Net.Walk.bd {pre ks : List Nat} {v : Nat} (h : N.Walk pre v ks) : ∀ i u, (pre ++ [v])[i]? = some u → ∀ x, N.bd (Ring.orM (ks.drop i)) x = (decide (u = x) ^^ decide (v = x)) := by
  induction h with
  | one =>
    rename_i v
    intro i u hu x
    match i, hu with
    | 0, hu =>
      have e : v = u := Option.some.inj hu
      subst e
      show N.bd 0 x = _
      rw [bd_zero]
      simp
    | i + 1, hu => simp at hu
  | snoc hw ht hn j ih =>
    rename_i pre ks v w t
    intro i u hu x
    have hl := hw.len
    by_cases hi : i < (pre ++ [v]).length
    · rw [List.getElem?_append_left hi] at hu
      have hi' : i ≤ ks.length := by rw [List.length_append] at hi; simp at hi; (first | lia | omega)
      rw [List.drop_append_of_le_length hi', Ring.orM_snoc _ (fun z => hn (List.mem_of_mem_drop z)), bd_xor, ih i u hu x, bd_pow ht]
      have e : N.inc t x = (decide (v = x) ^^ decide (w = x)) := by
        unfold Net.inc
        rcases j with ⟨j1, j2⟩ | ⟨j1, j2⟩
        · rw [j1, j2]
        · rw [j1, j2]
          exact Bool.xor_comm _ _
      rw [e]
      cases decide (u = x) <;> cases decide (v = x) <;> cases decide (w = x) <;> rfl
    · have hi2 : i = (pre ++ [v]).length := by
        have := (List.getElem?_eq_some_iff.mp hu).1
        rw [List.length_append] at this
        simp at this hi ⊢
        (first | lia | omega)
      rw [hi2, List.getElem?_append_right (Nat.le_refl _), Nat.sub_self] at hu
      have e : w = u := Option.some.inj hu
      subst e
      have : (ks ++ [t]).drop i = [] := List.drop_eq_nil_of_le (by rw [hi2, List.length_append, List.length_append]; simp; (first | lia | omega))
      rw [this]
      show N.bd 0 x = _
      rw [bd_zero]
      simp
structure Way (N : Net) (even : Nat) (pre : List Nat) (v : Nat) (ks : List Nat) (left : Nat) : Prop where
  w : N.Walk pre v ks
  lt : even < 2 ^ N.n
  ev : N.Even even
  sub : ∀ t ∈ ks, even.testBit t = true
  left_is : left = even ^^^ Ring.orM ks
  nd : pre.Nodup
  inp : ∀ x ∈ pre ++ [v], x < N.p
  st : pre = [] → ∃ t, t < N.n ∧ even.testBit t = true ∧ N.a t = v
section
variable {even left v : Nat} {pre ks : List Nat}
theorem Way.start {t : Nat} (lt : even < 2 ^ N.n) (ev : N.Even even) (hb : even.testBit t = true) : Way N even [] (N.a t) [] even := by
  have ht := bits_lt lt hb
  refine ⟨.one, lt, ev, (fun _ z => nomatch z), ?_, List.Pairwise.nil, fun x hx => ?_, fun _ => ⟨t, ht, hb, rfl⟩⟩
  · show even = even ^^^ 0
    simp
  · have e : x = N.a t := by simpa using hx
    rw [e]
    exact N.al t ht
theorem Way.left_bit (h : Way N even pre v ks left) (t : Nat) : left.testBit t = (even.testBit t && !decide (t ∈ ks)) := by
  rw [h.left_is, Nat.testBit_xor, Ring.orM_bit]
  by_cases hm : t ∈ ks
  · rw [h.sub t hm, decide_eq_true hm]
    rfl
  · rw [decide_eq_false hm]
    simp
theorem Way.left_lt (h : Way N even pre v ks left) : left < 2 ^ N.n := lt_of_bits fun k hk => by
  rw [h.left_bit, Bool.and_eq_true] at hk
  exact bits_lt h.lt hk.1
theorem Way.on (h : Way N even pre v ks left) (hv : v ∉ pre) : ∃ t, left.testBit t = true ∧ (N.a t = v ∨ N.b t = v) := by
  cases pre with
  | nil =>
    obtain ⟨t, ht, hb, e⟩ := h.st rfl
    have hk : ks = [] := List.length_eq_zero_iff.mp (by rw [← h.w.len]; rfl)
    refine ⟨t, ?_, .inl e⟩
    rw [h.left_bit, hb, hk]
    simp
  | cons u r =>
    have hb := h.w.bd 0 u rfl v
    rw [List.drop_zero] at hb
    have hu : ¬ u = v := fun z => hv (by rw [z]; exact List.mem_cons_self)
    rw [decide_eq_false hu, decide_eq_true rfl] at hb
    have hvp : v < N.p := h.inp v (List.mem_append_right _ (List.mem_singleton.mpr rfl))
    have hl : N.bd left v = true := by
      rw [h.left_is, bd_xor, h.ev v hvp, hb]
      rfl
    rw [bd_dg] at hl
    have hp := of_decide_eq_true hl
    obtain ⟨k, hk, hkb, hx⟩ := dg_some (N := N) (m := left) (x := v) (by (first | lia | omega))
    exact ⟨k, hkb, hx⟩
theorem Way.go (h : Way N even pre v ks left) (hv : v ∉ pre) {t w : Nat} (hb : left.testBit t = true) (j : (N.a t = v ∧ N.b t = w) ∨ (N.b t = v ∧ N.a t = w)) :
    Way N even (pre ++ [v]) w (ks ++ [t]) (left ^^^ 2 ^ t) := by
  rw [h.left_bit, Bool.and_eq_true] at hb
  have hn : t ∉ ks := by simpa using hb.2
  have ht := bits_lt h.lt hb.1
  refine ⟨.snoc h.w ht hn j, h.lt, h.ev, fun s hs => ?_, ?_, ?_, fun x hx => ?_, fun z => ?_⟩
  · rcases List.mem_append.mp hs with q | q
    · exact h.sub s q
    · rw [List.mem_singleton.mp q]
      exact hb.1
  · rw [Ring.orM_snoc _ hn, h.left_is, Nat.xor_assoc]
  · refine List.nodup_append.mpr ⟨h.nd, by simp, fun x hx y hy => ?_⟩
    have e : y = v := by simpa using hy
    rw [e]
    exact fun z => hv (z ▸ hx)
  · rcases List.mem_append.mp hx with q | q
    · exact h.inp x q
    · have e : x = w := by simpa using q
      rw [e]
      rcases j with ⟨_, j2⟩ | ⟨_, j2⟩
      · rw [← j2]; exact N.bl t ht
      · rw [← j2]; exact N.al t ht
  · simp at z
theorem Way.closes (h : Way N even pre v ks left) {i : Nat} (hi : pre[i]? = some v) : Ring.orM (ks.drop i) ≠ 0 ∧ N.Even (Ring.orM (ks.drop i)) ∧ Ring.orM (ks.drop i) < 2 ^ N.n ∧ ∀ k, (Ring.orM (ks.drop i)).testBit k = true → even.testBit k = true := by
  have hil := (List.getElem?_eq_some_iff.mp hi).1
  have hl := h.w.len
  have hbit : ∀ k, (Ring.orM (ks.drop i)).testBit k = true → k ∈ ks := fun k hk => by
    rw [Ring.orM_bit] at hk
    exact List.mem_of_mem_drop (of_decide_eq_true hk)
  refine ⟨fun z => ?_, fun x _ => ?_, lt_of_bits fun k hk => h.w.lt k (hbit k hk), fun k hk => h.sub k (hbit k hk)⟩
  · have hne : ks.drop i ≠ [] := fun q => by
      have := List.drop_eq_nil_iff.mp q
      (first | lia | omega)
    obtain ⟨k, hk⟩ := List.exists_mem_of_ne_nil _ hne
    have := Ring.orM_bit (ks.drop i) k
    rw [z, decide_eq_true hk] at this
    simp at this
  · rw [h.w.bd i v (by rw [List.getElem?_append_left hil]; exact hi) x]
    simp
end
end RM
namespace Ring
open PySem L2
def xorL (rs : List Nat) : Nat := rs.foldl (fun m r => m ^^^ r) 0
theorem xorL_from (rs : List Nat) : ∀ m, rs.foldl (fun m r => m ^^^ r) m = m ^^^ xorL rs := by
  induction rs with
  | nil => intro m; show m = m ^^^ 0; simp
  | cons r rs ih =>
    intro m
    show rs.foldl (fun m r => m ^^^ r) (m ^^^ r) = m ^^^ rs.foldl (fun m r => m ^^^ r) (0 ^^^ r)
    rw [ih, ih, Nat.zero_xor, Nat.xor_assoc]
theorem xorL_cons (rs : List Nat) (r : Nat) : xorL (r :: rs) = r ^^^ xorL rs := by
  show rs.foldl (fun m r => m ^^^ r) (0 ^^^ r) = _
  rw [xorL_from, Nat.zero_xor]
end Ring
namespace L2
open PySem PySem.Spec PyProof.Rows
theorem op_fdivB {X : Cx} : OpR X (binaryOp .FloorDiv) (rI (fun _ j => j ≠ 0 ∧ j.natAbs < 2 ^ 1000) fun i j => .int (i.fdiv j)) := opI fun i j _ _ _ _ _ hc q => by
  refine floordiv_int hc.1 q (.inl ?_)
  have h0 : j.natAbs ≠ 0 := by have := hc.1; (first | lia | omega)
  have h : j.natAbs.log2 < 1000 := (Nat.log2_lt h0).mpr hc.2
  exact PyProof.noPylong_of_log2 (by (first | lia | omega))
theorem fdiv_exact {x d q : Int} (hd : d ≠ 0) (h : x = d * q) : x.fdiv d = q := by
  rw [h, Int.fdiv_eq_ediv_of_dvd ⟨q, rfl⟩]
  exact Int.mul_ediv_cancel_left q hd
end L2
namespace Ring
open PySem L2
def ent (rs : List (List Int)) (i j : Nat) : Int := (rs.getD i []).getD j 0
structure Tab (n : Nat) (rs : List (List Int)) : Prop where
  len : rs.length = n
  row : ∀ r ∈ rs, r.length = n
def RowIs (H : Hp) (x : V) (r : List Int) : Prop := ∃ b, x = .ref b ∧ H b = some (.lst (intsV r))
def TabAt (H : Hp) (t : Addr) (rs : List (List Int)) : Prop := ∃ ys, H t = some (.lst ys) ∧ Paired (RowIs H) ys rs
theorem intsV_len (l : List Int) : (intsV l).length = l.length := by unfold intsV; rw [List.length_map]
theorem intsV_snoc (l : List Int) (k : Int) : intsV (l ++ [k]) = intsV l ++ [.int k] := by unfold intsV; rw [List.map_append]; rfl
theorem intsV_get' {l : List Int} {i : Nat} {x : V} (h : (intsV l)[i]? = some x) : i < l.length ∧ x = .int (l.getD i 0) := by
  unfold intsV at h
  rw [List.getElem?_map] at h
  obtain ⟨k, e, q⟩ := Option.map_eq_some_iff.mp h
  have hi : i < l.length := (List.getElem?_eq_some_iff.mp e).1
  refine ⟨hi, ?_⟩
  rw [List.getD_eq_getElem?_getD, e]
  exact q.symm
theorem paired_set {α β : Type} {F : α → β → Prop} {x : α} {y : β} (h : F x y) : ∀ {l : List α} {r : List β} (i : Nat), Paired F l r → Paired F (l.set i x) (r.set i y)
  | _, _, _, .nil => .nil
  | _, _, 0, .cons _ t => .cons h t
  | _, _, i + 1, .cons a t => .cons a (paired_set h i t)
theorem rs_get {rs : List (List Int)} {i : Nat} (h : i < rs.length) : rs[i]? = some (rs.getD i []) := by
  rw [List.getD_eq_getElem?_getD]
  simp [h]
theorem ent_set {rs : List (List Int)} {a : Nat} (ha : a < rs.length) (r : List Int) (i j : Nat) : ent (rs.set a r) i j = if i = a then r.getD j 0 else ent rs i j := by
  unfold ent
  by_cases h : i = a
  · subst h
    rw [if_pos rfl, List.getD_eq_getElem?_getD (l := rs.set i r), List.getElem?_set_self ha]
    rfl
  · rw [if_neg h, List.getD_eq_getElem?_getD (l := rs.set a r), List.getElem?_set_ne (Ne.symm h), ← List.getD_eq_getElem?_getD]
theorem Tab.set {n : Nat} {rs : List (List Int)} (T : Tab n rs) (a : Nat) {r : List Int} (h : r.length = n) : Tab n (rs.set a r) := by
  refine ⟨by rw [List.length_set, T.len], fun x hx => ?_⟩
  rcases List.mem_or_eq_of_mem_set hx with z | z
  · exact T.row x z
  · rw [z, h]
theorem Tab.rlen {n : Nat} {rs : List (List Int)} (T : Tab n rs) {i : Nat} (h : i < n) : (rs.getD i []).length = n :=
  T.row _ (List.mem_of_getElem? (rs_get (by rw [T.len]; exact h)))
theorem TabAt.get {H : Hp} {ys : List V} {rs : List (List Int)} (pr : Paired (RowIs H) ys rs) {n i : Nat} (T : Tab n rs) (h : i < n) : ∃ b, ys[i]? = some (.ref b) ∧ H b = some (.lst (intsV (rs.getD i []))) := by
  have hy : i < ys.length := by rw [pr.length, T.len]; exact h
  obtain ⟨r, hr, b, e, hb⟩ := Paired.getP pr (i := i) (x := ys[i]) (by simp [hy])
  rw [rs_get (by rw [T.len]; exact h)] at hr
  cases hr
  exact ⟨b, by rw [← e]; simp [hy], hb⟩
def RowN (R : Addr) (H : Hp) (x : V) (r : List Int) : Prop := ∃ b, x = .ref b ∧ b ≠ R ∧ H b = some (.lst (intsV r))
theorem RowN.same {R : Addr} {H H' : Hp} (s : Same H H') {x : V} {r : List Int} (h : RowN R H x r) : RowN R H' x r := by
  obtain ⟨b, e, n, h⟩ := h
  exact ⟨b, e, n, s _ _ h⟩
theorem RowN.put {R : Addr} {H : Hp} {o : HO} {x : V} {r : List Int} (h : RowN R H x r) : RowN R (upd H R o) x r := by
  obtain ⟨b, e, n, h⟩ := h
  exact ⟨b, e, n, by rw [upd_ne n]; exact h⟩
theorem RowN.is {R : Addr} {H : Hp} {x : V} {r : List Int} (h : RowN R H x r) : RowIs H x r := by
  obtain ⟨b, e, n, h⟩ := h
  exact ⟨b, e, h⟩
theorem RowN.get {R : Addr} {H : Hp} {ys : List V} {rs : List (List Int)} (pr : Paired (RowN R H) ys rs) {n i : Nat} (T : Tab n rs) (h : i < n) : ∃ b, ys[i]? = some (.ref b) ∧ b ≠ R ∧ H b = some (.lst (intsV (rs.getD i []))) := by
  have hy : i < ys.length := by rw [pr.length, T.len]; exact h
  obtain ⟨r, hr, b, e, nb, hb⟩ := Paired.getP pr (i := i) (x := ys[i]) (by simp [hy])
  rw [rs_get (by rw [T.len]; exact h)] at hr
  cases hr
  exact ⟨b, by rw [← e]; simp [hy], nb, hb⟩
def fInts (n : Nat) (f : Nat → Int) : List Int := (List.range n).map f
theorem fInts_len (n : Nat) (f : Nat → Int) : (fInts n f).length = n := by unfold fInts; rw [List.length_map, List.length_range]
theorem fInts_get {n j : Nat} (f : Nat → Int) (h : j < n) : (fInts n f).getD j 0 = f j := by
  unfold fInts
  rw [List.getD_eq_getElem?_getD, List.getElem?_map, List.getElem?_range h]
  rfl
def FMap (f : Nat → Int) (H : Hp) (D : Addr) (i : Nat) (acc : List V) (H2 : Hp) : Prop := Same H H2 ∧ H2 D = some (.lst acc) ∧ acc = intsV (fInts i f)
theorem FMap.start {f : Nat → Int} {H : Hp} {D : Addr} (hD : H D = none) : FMap f H D 0 [] (upd H D (.lst [])) := ⟨Same.new hD, upd_same, rfl⟩
theorem FMap.len {f : Nat → Int} {H H2 : Hp} {D : Addr} {i : Nat} {acc : List V} (p : FMap f H D i acc H2) : H2 D = some (.lst acc) ∧ acc.length ≤ i := by
  refine ⟨p.2.1, ?_⟩
  rw [p.2.2, intsV_len, fInts_len]
  exact Nat.le_refl _
theorem FMap.next {f : Nat → Int} {H H2 H3 : Hp} {D : Addr} {i : Nat} {acc : List V} {v : V} (p : FMap f H D i acc H2) (hD : H D = none) (s : Same H2 H3) (hv : v = .int (f i)) : H3 D = some (.lst acc) ∧ FMap f H D (i + 1) (acc ++ [v]) (upd H3 D (.lst (acc ++ [v]))) := by
  refine ⟨s _ _ p.2.1, (p.1.trans s).put hD, upd_same, ?_⟩
  rw [hv, p.2.2]
  unfold fInts
  rw [List.range_succ, List.map_append]
  show _ = intsV (_ ++ [f i])
  rw [intsV_snoc]
def IntFr (D : Addr) (H0 H : Hp) (x : V) (r : List Int) : Prop := ∃ b, x = .ref b ∧ b ≠ D ∧ H0 b = none ∧ H b = some (.lst (intsV r))
theorem IntFr.same {D : Addr} {H0 H H' : Hp} (s : Same H H') {x : V} {r : List Int} (h : IntFr D H0 H x r) : IntFr D H0 H' x r := by
  obtain ⟨b, e, n, z, h⟩ := h
  exact ⟨b, e, n, z, s _ _ h⟩
theorem IntFr.put {D : Addr} {H0 H : Hp} {o : HO} {x : V} {r : List Int} (h : IntFr D H0 H x r) : IntFr D H0 (upd H D o) x r := by
  obtain ⟨b, e, n, z, h⟩ := h
  exact ⟨b, e, n, z, by rw [upd_ne n]; exact h⟩
theorem IntFr.is {D : Addr} {H0 H : Hp} {x : V} {r : List Int} (h : IntFr D H0 H x r) : RowIs H x r := by
  obtain ⟨b, e, _, _, h⟩ := h
  exact ⟨b, e, h⟩
theorem intsV_set (l : List Int) (i : Nat) (z : Int) : (intsV l).set i (.int z) = intsV (l.set i z) := by
  unfold intsV
  rw [List.map_set]
end Ring
namespace L2
open PySem PySem.Spec PyProof.Rows
theorem cells_none {f : Str × NameKind → List (Str × Addr) → Sem (ForInStep (List (Str × Addr)))} (hf2 : ∀ n k cs, k ≠ NameKind.cell → f (n, k) cs = pure (.yield cs)) :
    ∀ (names : List (Str × NameKind)) (cs : List (Str × Addr)), names.filter (fun y => decide (y.2 = NameKind.cell)) = [] → forIn names cs f = (pure cs : Sem (List (Str × Addr)))
  | [], cs, _ => by rw [List.forIn_nil]
  | (n, k) :: r, cs, h => by
    by_cases e : k = NameKind.cell
    · rw [List.filter_cons, if_pos (decide_eq_true e)] at h
      cases h
    · rw [List.filter_cons, if_neg (by simpa using e)] at h
      rw [List.forIn_cons, hf2 n k cs e, pure_bind]
      exact cells_none hf2 r cs h
theorem cells_one {x : Str} {f : Str × NameKind → List (Str × Addr) → Sem (ForInStep (List (Str × Addr)))} (hf1 : ∀ n cs, f (n, .cell) cs = (do let a ← alloc { cls := .type "cell", data := .cell none }; pure (.yield ((n, a) :: cs))))
    (hf2 : ∀ n k cs, k ≠ NameKind.cell → f (n, k) cs = pure (.yield cs)) :
    ∀ (names : List (Str × NameKind)) (cs : List (Str × Addr)), names.filter (fun y => decide (y.2 = NameKind.cell)) = [(x, .cell)] → forIn names cs f = ((do let a ← alloc { cls := .type "cell", data := .cell none }; pure ((x, a) :: cs)) : Sem (List (Str × Addr)))
  | [], cs, h => by cases h
  | (n, k) :: r, cs, h => by
    by_cases e : k = NameKind.cell
    · subst e
      rw [List.filter_cons, if_pos (by simp)] at h
      have h1 := List.cons.inj h
      have hn : n = x := congrArg Prod.fst h1.1
      subst hn
      rw [List.forIn_cons, hf1, bind_assoc]
      congr
      funext a
      rw [pure_bind]
      exact cells_none hf2 r _ h1.2
    · rw [List.filter_cons, if_neg (by simpa using e)] at h
      rw [List.forIn_cons, hf2 n k cs e, pure_bind]
      exact cells_one hf1 hf2 r cs h
theorem wpAny_newEnvC {M : Model} {A : Around} {E : Value → Shared → Prop} {s : Shared} {scope : Scope} {x : Str} {globals : Addr} {closure : List (Str × Addr)} {qual : Str} {outer : Env} {Q : Env → Shared → Prop}
    (h1 : scope.names.filter (fun y => decide (y.2 = NameKind.cell)) = [(x, .cell)]) (hk : scope.kind = .function)
    (q : ∀ h' : Heap, (h'.Ns s.heap.objs.size fun _ => none) → Heap.SameBut s.heap.objs.size (s.heap.push { cls := .type "dict", data := .dict #[] }) h' →
      Q (newEnv scope s.heap.objs.size globals ((x, h'.objs.size) :: closure) qual none .none (some outer) builtinsNs) { s with heap := h'.push { cls := .type "cell", data := .cell none } }) :
    wpAny M A (newFunctionEnv scope globals closure [] qual none .none (some outer)) Q E s := by
  have e : newFunctionEnv scope globals closure [] qual none .none (some outer) = (do
      let env ← newFunctionEnv { scope with names := [] } globals closure [] qual none .none (some outer)
      let a ← alloc { cls := .type "cell", data := .cell none }
      pure { env with scope := scope, cells := (x, a) :: env.cells }) := by
    simp only [newFunctionEnv]
    rw [bind_assoc]
    congr
    funext L
    rw [cells_one (x := x) ?_ ?_ scope.names closure h1]
    · simp only [List.forIn_nil, pure_bind, bind_assoc]
    · intro n cs
      rfl
    · intro n k cs hk
      show (if (k == NameKind.cell) = true then _ else _) = _
      rw [if_neg (by simpa using hk)]
  rw [e]
  refine wpAny_bind (wpAny_newFunctionEnv (by intro y hy; cases hy) (by intro y hy; simp at hy) (fun h' hn sb => ?_) hk)
  refine wpAny_bind (wpAny_alloc (wpAny_pure ?_))
  exact q h' hn sb
def cxCompC (X : Cx) (N : List Str) (scope : Scope) (xe : Value → Shared → Prop) (x : Str) (cc C : Addr) (s : Shared) (H : Hp) (fp : List Addr) : Cx where
  prog := X.prog
  w := X.w
  K := X.K
  mg := X.mg
  base := X.base
  A := X.A
  N := N
  s₀ := s
  H₀ := H
  env := compEnvC scope ((x, cc) :: closOf X.env.cells scope.names []) C X.env
  outer := X.stack
  stack := X.stack
  ex := fp
  fn := fun y => decide (y = x)
  calm := X.calm
  pn := []
  xe := xe
structure CompTextC (X : Cx) (scope : Scope) (x : Str) (own frees : List Str) (js : List Nat) : Prop where
  kind : scope.kind = .function
  one : scope.names.filter (fun y => decide (y.2 = NameKind.cell)) = [(x, .cell)]
  nofr : ∀ y ∈ scope.names, y.1 = x → y.2 = .cell
  names : ∀ y ∈ scope.names, y.2 = .local → scope.names.lookup y.1 = some .local
  free : ∀ y ∈ scope.names, y.2 = .free → X.env.scope.names.lookup y.1 = some .cell ∨ X.env.scope.names.lookup y.1 = some .free
  at_ : js.map (fun j => X.N[j]?) = frees.map some
  fr : ∀ x ∈ frees, scope.names.lookup x = some .free
theorem look_cons {x y : Str} {cc c : Addr} {cl : List (Str × Addr)} (h : ((x, cc) :: cl).lookup y = some c) : (y = x ∧ c = cc) ∨ (y ≠ x ∧ cl.lookup y = some c) := by
  by_cases e : y = x
  · subst e
    rw [List.lookup_cons_self] at h
    exact .inl ⟨rfl, (Option.some.inj h).symm⟩
  · have hb : (y == x) = false := beq_eq_false_iff_ne.mpr e
    simp only [List.lookup_cons, hb] at h
    exact .inr ⟨e, h⟩
theorem look_cons_ne {x y : Str} {cc c : Addr} {cl : List (Str × Addr)} (e : y ≠ x) (h : cl.lookup y = some c) : ((x, cc) :: cl).lookup y = some c := by
  have hb : (y == x) = false := beq_eq_false_iff_ne.mpr e
  simp only [List.lookup_cons, hb]
  exact h
section
variable {X : Cx}
theorem closure_okC {pins : List (Addr × Obj)} {σ : St} {H : Hp} {s : Shared} {scope : Scope} {xc : Str} {own frees : List Str} {js : List Nat} (I : Inv X pins σ H s) (T : CompTextC X scope xc own frees js) :
    ∀ n k, (n, k) ∈ scope.names → (k == NameKind.free) = true → ∃ c, X.env.cells.lookup n = some c := fun n k hm e => by
  have hk : k = NameKind.free := eq_of_beq e
  exact I.ok.has n (T.free (n, k) hm hk)
theorem inv_compC {pins : List (Addr × Obj)} {σ : St} {H : Hp} {s : Shared} {scope : Scope} {xc : Str} {own frees : List Str} {js : List Nat} {fp : List Addr} {D C cc : Addr} {h1 : Heap} {t1 : Nat} {m : Str → Option Value} {xe : Value → Shared → Prop}
    (I : Inv X pins σ H s) (T : CompTextC X scope xc own frees js) (hf : ∀ b ∈ fp, FpOk X pins H b) (hfo : ∀ b ∈ fp, ∃ o, s.heap.get? b = some o) (hD : s.heap.objs.size ≤ D) (hC : s.heap.objs.size ≤ C) (hDC : D ≠ C) (hcc : s.heap.objs.size ≤ cc) (hDcc : D ≠ cc) (hisc : h1.IsCell cc none)
    (old : ∀ b o, s.heap.get? b = some o → h1.get? b = some o) (hl : h1.get? D = some { cls := .type "list", data := .seq ([] : List Value).toArray 0 }) (hn : h1.Ns C m) :
    Inv (cxCompC X (own ++ frees) scope xe xc cc C s H fp) [] (List.replicate own.length none ++ takeSt σ js) (upd H D (.lst [])) { s with heap := h1, toks := t1 } := by
  have cells : ∀ x c, (closOf X.env.cells scope.names []).lookup x = some c → X.env.cells.lookup x = some c := fun x c h => by
    rcases closOf_look h with q | ⟨q1, q2⟩
    · cases q
    · obtain ⟨c', hc'⟩ := closure_okC I T x .free q1 rfl
      rw [hc'] at q2
      rw [hc']
      exact congrArg some q2
  have lt_of : ∀ b o, s.heap.get? b = some o → b < s.heap.objs.size := fun b o e => Heap.lt_size e
  have hcl : ∀ x c, X.env.cells.lookup x = some c → c < s.heap.objs.size := fun x c e => by
    obtain ⟨v, q⟩ := I.cell x c e
    exact q.lt
  have frlt : ∀ b ∈ frs X.stack, b < s.heap.objs.size := fun b hb => by
    obtain ⟨_, o, ho, _⟩ := I.stack.mem hb
    exact Heap.lt_size ho
  have hHD : H D = none := I.hok.fresh hD
  have hHC : H C = none := I.hok.fresh hC
  refine ⟨⟨I.ok.mod, T.kind, I.ok.glob, I.ok.blt, hC, fun x y c a b => ?_, fun x hx => ?_, fun x c z q => ?_, I.ok.hd, I.ok.frames, .inl rfl, fun b hb => ⟨?_, fun x c e z => ?_⟩,
      fun b o e => I.bs b o e, Nat.le_trans I.ok.bsz I.sz, fun b o e hb => ?_, fun b hb z => ?_, I.stack, I.stkFree⟩,
    rfl, I.bare, Un.laid old hD hHD, ⟨m, hn, fun i x v e1 e2 e3 => ?_⟩, fun x c e => ?_, ?_, fun x c e => ?_, fun p hp => absurd (show p ∈ ([] : List (Addr × Obj)) from hp) (by simp), ?_, ?_⟩
  · -- inj
    rcases look_cons a with ⟨e1, e2⟩ | ⟨_, q1⟩
    · rcases look_cons b with ⟨e3, _⟩ | ⟨_, q2⟩
      · rw [e1, e3]
      · exact absurd (hcl y c (cells y c q2)) (by rw [e2]; exact Nat.not_lt.mpr hcc)
    · rcases look_cons b with ⟨_, e4⟩ | ⟨_, q2⟩
      · exact absurd (hcl x c (cells x c q1)) (by rw [e4]; exact Nat.not_lt.mpr hcc)
      · exact I.ok.inj x y c (cells x c q1) (cells y c q2)
  · -- has
    by_cases hxc : x = xc
    · exact ⟨cc, by rw [hxc]; exact List.lookup_cons_self⟩
    have hx : (relabel scope X.env).names.lookup x = some .cell ∨ (relabel scope X.env).names.lookup x = some .free := hx
    have hf0 : (x, NameKind.free) ∈ scope.names := by
      rcases hx with hx | hx
      · obtain ⟨k0, q, r⟩ := relabel_look hx
        have hm := PySem.mem_of_lookup q
        rcases r with r | ⟨r, _⟩
        · rw [← r] at hm
          have hmem : (x, NameKind.cell) ∈ scope.names.filter (fun y => decide (y.2 = NameKind.cell)) := List.mem_filter.mpr ⟨hm, by simp⟩
          rw [T.one] at hmem
          exact absurd (congrArg Prod.fst (List.mem_singleton.mp hmem)) hxc
        · rw [r] at hm; exact hm
      · obtain ⟨k0, q, r⟩ := relabel_look hx
        have hm := PySem.mem_of_lookup q
        rcases r with r | ⟨_, r⟩
        · rw [← r] at hm; exact hm
        · cases r
    obtain ⟨c, hc⟩ := closOf_has (cells := X.env.cells) (cs := []) (.inl hf0)
    exact ⟨c, look_cons_ne hxc hc⟩
  · -- cab
    rcases look_cons q with ⟨_, e2⟩ | ⟨n2, _⟩
    · rw [e2]
      exact hcc
    · exact absurd (of_decide_eq_true z) n2
  · -- b ≠ C
    obtain ⟨o, ho⟩ := hfo b hb
    exact Nat.ne_of_lt (Nat.lt_of_lt_of_le (lt_of b o ho) hC)
  · rcases look_cons e with ⟨_, e2⟩ | ⟨_, q⟩
    · obtain ⟨o, ho⟩ := hfo b hb
      exact absurd (lt_of b o ho) (by rw [← z, e2]; exact Nat.not_lt.mpr hcc)
    · exact (hf b hb).2.2.2.2.1 x c (cells x c q) z
  · -- noex
    obtain ⟨_, _, _, f3, _, _⟩ := hf b hb
    rcases f3 with z | z
    · exact I.ok.noex b o e z
    · exact absurd (Nat.lt_of_lt_of_le (Heap.lt_size (I.ok.bs b o e).1) z) (Nat.lt_irrefl _)
  · -- exfs
    obtain ⟨_, f1, f2, _⟩ := hf b hb
    rcases List.mem_cons.mp (I.stkSub b z) with q | q
    · exact f1 q
    · exact f2 q
  · -- loc
    by_cases hi : i < own.length
    · rw [List.getElem?_append_left (by simpa using hi), List.getElem?_replicate, if_pos hi] at e2
      cases e2
    · rw [List.getElem?_append_right (by simpa using hi), List.length_replicate] at e2
      replace e1 : (own ++ frees)[i]? = some x := e1
      rw [List.getElem?_append_right (by (first | lia | omega))] at e1
      obtain ⟨j, hj, hσ⟩ := takeSt_get e2
      have hN : X.N[j]? = some x := by
        have q := congrArg (fun l => l[i - own.length]?) T.at_
        simp only [List.getElem?_map, hj, e1, Option.map_some] at q
        exact Option.some.inj q
      have hfx := T.fr x (List.mem_of_getElem? e1)
      have hm := PySem.mem_of_lookup hfx
      have hk := T.free (x, .free) hm rfl
      obtain ⟨m0, hn0, hl0⟩ := I.loc
      obtain ⟨u, r, l⟩ := hl0 j x v hN hσ (by rcases hk with k | k; exact .inr (.inl k); exact .inr (.inr k))
      refine ⟨u, r, .inr ⟨relabel_free hfx, ?_⟩⟩
      rcases l with ⟨hkl, _⟩ | ⟨_, c, hc, hcell⟩
      · have hkl : X.env.scope.names.lookup x = some .local := hkl
        rcases hk with k | k <;> (rw [hkl] at k; cases k)
      · obtain ⟨c', hc'⟩ := closOf_has (cells := X.env.cells) (names := scope.names) (cs := []) (x := x) (.inl hm)
        have q := cells x c' hc'
        rw [hc] at q
        cases q
        have hxc : x ≠ xc := fun z => by
          have hz := T.nofr _ hm z
          cases hz
        exact ⟨c, look_cons_ne hxc hc', hcell.keeps old⟩
  · -- cell
    rcases look_cons e with ⟨_, e2⟩ | ⟨_, q⟩
    · exact ⟨none, by rw [e2]; exact hisc⟩
    · obtain ⟨v, q⟩ := I.cell x c (cells x c q)
      exact ⟨v, q.keeps old⟩
  · -- free
    show upd H D (.lst []) C = none
    rw [upd_ne (Ne.symm hDC)]
    exact hHC
  · show upd H D (.lst []) c = none
    rcases look_cons e with ⟨_, e2⟩ | ⟨_, q⟩
    · rw [e2, upd_ne (Ne.symm hDcc)]
      exact I.hok.fresh hcc
    · have e := cells x c q
      rw [upd_ne (Nat.ne_of_lt (Nat.lt_of_lt_of_le (hcl x c e) hD))]
      exact I.freeC x c e
  · exact I.hok.laid old hD ⟨Nat.zero_le _, [], 0, .nil, hl⟩
  · show _ = (own ++ frees).length
    have q := congrArg List.length T.at_
    rw [List.length_map, List.length_map] at q
    rw [List.length_append, List.length_append, List.length_replicate]
    unfold takeSt
    rw [List.length_map, q]
theorem inv_comp_backC {pins : List (Addr × Obj)} {σ σ' : St} {H H' : Hp} {s s' : Shared} {scope : Scope} {N : List Str} {fp : List Addr} {xc : Str} {cc C : Addr} {h' : Heap} {xe : Value → Shared → Prop}
    (I : Inv X pins σ H s) (hf : ∀ b ∈ fp, FpOk X pins H b) (hC : s.heap.objs.size ≤ C) (J : Inv (cxCompC X N scope xe xc cc C s H fp) [] σ' H' s') (sb : Heap.SameBut C s'.heap h') : Inv X pins σ H' { s' with heap := h' } := by
  have hHC : H' C = none := J.free
  refine I.call' (ch := fp) J.os ?_ ?_ J.bare (fun b hb => ?_)
  · have u : Un (frs X.stack) fp H H' s.heap s'.heap := J.base
    have ne : ∀ b o, s.heap.get? b = some o → b ≠ C := fun b o e => Nat.ne_of_lt (Nat.lt_of_lt_of_le (Heap.lt_size e) hC)
    refine ⟨fun b o e n hb hx => (sb.2 b (ne b o e)).trans (u.keep b o e n hb hx), fun b o e n hb hx => ?_, u.free, fun b o e hx => ?_, u.tups, u.frzs, u.tbls⟩
    · obtain ⟨sl, q⟩ := u.slot b o e n hb hx
      exact ⟨sl, (sb.2 b (ne b o e)).trans q⟩
    · obtain ⟨o', q⟩ := u.there b o e hx
      exact ⟨o', (sb.2 b (ne b o e)).trans q⟩
  · intro b ob e
    refine (J.hok b ob e).stay (fun c w' hc q => (sb.2 c ?_).trans q) (fun _ q => q) fun _ _ q => q
    rintro rfl
    rcases hc with rfl | hc
    · rw [hHC] at e; cases e
    · rw [hHC] at hc; cases hc
  · obtain ⟨_, f1, _, f3, f4, f5⟩ := hf b hb
    exact ⟨f3, f1, f4, f5⟩
end
section
variable {X : Cx} {elt iter tg : Expr} {ifs : List Expr} {scope : Scope} {xc : Str} {pos : Pos} {own frees : List Str} {js : List Nat} {wi : TI} {g : TG} {tt : TT} {te : TE}
theorem comp_blockC {pins : List (Addr × Obj)} {σ : St} {H2 : Hp} {s2 : Shared} {it : Addr} {fp : List Addr} {tn : Nat → Heap → Prop} {J : It} {E : Value → Shared → Prop} {RR : Value → Addr → Result → Shared → Prop} {QQ : Addr → Hp → Prop}
    (T : CompTextC X scope xc own frees js)
    (hg : ∀ cc C s H fp, PG (cxCompC X (own ++ frees) scope (fun _ _ => False) xc cc C s H fp) tg g)
    (ht : ∀ cc C s H fp, PTs (cxCompC X (own ++ frees) scope (fun _ _ => False) xc cc C s H fp) ifs tt)
    (he : ∀ cc C s H fp, PE (cxCompC X (own ++ frees) scope (fun _ _ => False) xc cc C s H fp) elt te)
    (I2 : Inv X pins σ H2 s2) (TT' : TurnX X.A X.calm X.prog X.w X.K tg J fp it tn) (st2 : tn 0 s2.heap) (f2 : ∀ b ∈ fp, FpOk X pins H2 b)
    (hl : ∀ D, H2 D = none → CompLoop J g tt te own.length (takeSt σ js) D (QQ D) (upd H2 D (.lst [])))
    (hRR : ∀ D cc C σ' H' s', s2.heap.objs.size ≤ C → Inv (cxCompC X (own ++ frees) scope (fun _ _ => False) xc cc C s2 H2 fp) [] σ' H' s' → QQ D H' → RR (.ref D) C (.ok .next) s') :
    wpAny (model X.prog X.w) X.A (newList []) (fun acc s₃ => wpAny (model X.prog X.w) X.A (newFunctionEnv scope X.env.globals (closOf X.env.cells scope.names []) [] X.env.qual none .none (some X.env)) (fun cenv s₄ =>
      codeAny (model X.prog X.w) X.A (.compStart (.ListComp elt [⟨tg, iter, ifs, 0⟩] scope pos) 0 (.ref it) acc { cenv with scope := relabel scope X.env }) (RR acc cenv.locals) s₄) E s₃) E s2 := by
  refine wpAny_newObj_type (wpAny_newEnvC T.one T.kind fun h₀ hns₀ hsb₀ => ?_)
  dsimp only at hns₀ hsb₀ ⊢
  generalize hH2 : s2.heap.push { cls := .type "list", dict := none, data := .seq ([] : List Value).toArray } = G2 at hns₀ hsb₀ ⊢
  have hC : G2.objs.size = s2.heap.objs.size + 1 := by rw [← hH2, Heap.size_push]
  have hDC : s2.heap.objs.size ≠ G2.objs.size := by rw [hC]; exact Nat.ne_of_lt (Nat.lt_succ_self _)
  have hCle : s2.heap.objs.size ≤ G2.objs.size := by rw [hC]; exact Nat.le_succ _
  have below : ∀ b, b < s2.heap.objs.size → b ≠ G2.objs.size := fun b hb => by rw [hC]; exact Nat.ne_of_lt (Nat.lt_succ_of_lt hb)
  have h0sz : h₀.objs.size = s2.heap.objs.size + 2 := by rw [hsb₀.1, Heap.size_push, hC]
  have hisc : (h₀.push { cls := .type "cell", data := .cell none }).IsCell h₀.objs.size none := ⟨_, Heap.get?_push_size _ rfl, rfl⟩
  have hns₁ : (h₀.push { cls := .type "cell", data := .cell none }).Ns G2.objs.size fun _ => none := hns₀.keeps fun b o e => Heap.get?_push_of_some _ e
  have old : ∀ b o, s2.heap.get? b = some o → (h₀.push { cls := .type "cell", data := .cell none }).get? b = some o := fun b o e => Heap.get?_push_of_some _ (hsb₀.extBut b o (below b (Heap.lt_size e)) (Heap.get?_push_of_some _ (hH2 ▸ Heap.get?_push_of_some _ e)))
  have hacc : (h₀.push { cls := .type "cell", data := .cell none }).get? s2.heap.objs.size = some { cls := .type "list", data := .seq ([] : List Value).toArray 0 } := Heap.get?_push_of_some _ (hsb₀.extBut _ _ hDC (Heap.get?_push_of_some _ (hH2 ▸ Heap.get?_push_size _ rfl)))
  generalize hcc0 : h₀.objs.size = cc at h0sz hisc
  generalize h₀.push { cls := .type "cell", data := .cell none } = h₁ at hisc hns₁ old hacc
  have fpo : ∀ b ∈ fp, ∃ o, s2.heap.get? b = some o := fun b hb => let ⟨o, e, _⟩ := TT'.obj _ _ st2 b hb; ⟨o, e⟩
  have st1 : tn 0 h₁ := TT'.keep _ _ _ st2 fun b _ o e => old b o e
  obtain ⟨W, ⟨m0, w0⟩, turn⟩ := hl s2.heap.objs.size (I2.hok.fresh (Nat.le_refl _))
  have hfx : ∀ {H' : Hp}, (∀ b ∈ fp, H' b = none) → ∀ b ∈ fp, FpOk (cxCompC X (own ++ frees) scope (fun _ _ => False) xc cc G2.objs.size s2 H2 fp) [] H' b := fun {H'} hn b hb => by
    obtain ⟨_, f1, f2', _, f4, _⟩ := f2 b hb
    obtain ⟨o, ho⟩ := fpo b hb
    refine ⟨hn b hb, below b (Heap.lt_size ho), fun z => ?_, .inl hb, fun x c e => ?_, fun p hp => absurd (show p ∈ ([] : List (Addr × Obj)) from hp) (by simp)⟩
    · rcases List.mem_cons.mp (I2.stkSub b z) with q | q
      · exact f1 q
      · exact f2' q
    · rcases look_cons e with ⟨_, e2⟩ | ⟨_, e⟩
      · exact fun z => absurd (Heap.lt_size ho) (by rw [← z, e2, h0sz]; exact Nat.not_lt.mpr (Nat.le_add_right _ _))
      rcases closOf_look (show (closOf X.env.cells scope.names []).lookup x = some c from e) with q | ⟨q1, q2⟩
      · cases q
      · obtain ⟨c', hc'⟩ := closure_okC I2 T x .free q1 rfl
        rw [hc'] at q2
        have q2 : c' = c := q2
        rw [← q2]
        exact f4 x c' hc'
  have fp0 : ∀ b ∈ fp, upd H2 s2.heap.objs.size (.lst []) b = none := fun b hb => by
    obtain ⟨o, ho⟩ := fpo b hb
    rw [upd_ne (Nat.ne_of_lt (Heap.lt_size ho))]
    exact (f2 b hb).1
  have back : ∀ {σ6 : St} {p6 : List (Addr × Obj)} {H6 : Hp} {s6 : Shared}, Inv (cxCompC X (own ++ frees) scope (fun _ _ => False) xc cc G2.objs.size s2 H2 fp) p6 σ6 H6 s6 → σ6.drop own.length = takeSt σ js →
      Inv (cxCompC X (own ++ frees) scope (fun _ _ => False) xc cc G2.objs.size s2 H2 fp) [] (List.replicate own.length none ++ takeSt σ js) H6 s6 := fun {σ6 p6 H6 s6} I6 hd => by
    have hl6 : σ6.length = (own ++ frees).length := I6.len
    have J6 := I6.pins_of (pins' := []) fun p hp => absurd hp (by simp)
    refine J6.weak ?_ fun i v e => ?_
    · have q := congrArg List.length hd
      rw [List.length_drop] at q
      rw [List.length_append] at hl6
      rw [List.length_append, List.length_replicate]
      (first | lia | omega)
    · by_cases hi : i < own.length
      · rw [List.getElem?_append_left (by simpa using hi), List.getElem?_replicate, if_pos hi] at e
        cases e
      · rw [List.getElem?_append_right (by simpa using hi), List.length_replicate, ← hd, List.getElem?_drop] at e
        rw [show own.length + (i - own.length) = i by (first | lia | omega)] at e
        exact e
  have loop : ∀ s₃ : Shared, s₃ = { s2 with heap := h₁ } →
      codeAny (model X.prog X.w) X.A (.compLoop (.ListComp elt [⟨tg, iter, ifs, 0⟩] scope pos) 0 (.ref it) (.ref s2.heap.objs.size) (compEnvC scope ((xc, cc) :: closOf X.env.cells scope.names []) G2.objs.size X.env))
        (RR (.ref s2.heap.objs.size) G2.objs.size) s₃ := by
    rintro s₃ rfl
    refine compLoop_any (fun n s' => ∃ i acc H', Inv (cxCompC X (own ++ frees) scope (fun _ _ => False) xc cc G2.objs.size s2 H2 fp) [] (List.replicate own.length none ++ takeSt σ js) H' s' ∧ tn i s'.heap ∧ (∀ b ∈ fp, H' b = none) ∧ W i n acc H') ?_ m0
      ⟨0, [], upd H2 s2.heap.objs.size (.lst []), inv_compC I2 T f2 fpo (Nat.le_refl _) hCle hDC (by rw [h0sz]; exact Nat.le_add_right _ _) (by rw [h0sz]; exact Nat.ne_of_lt (Nat.lt_add_of_pos_right (by decide))) hisc old hacc hns₁, st1, fp0, w0⟩
    rintro n s3 ⟨i, acc, H3, I3, st3, fr3, w3⟩
    obtain ⟨hD3, hcase⟩ := turn i n acc H3 w3
    rcases hcase with ⟨stop, qn⟩ | ⟨go, hz, NN, hNN, step⟩
    · refine wpAny_mono (TT'.done (cxCompC X (own ++ frees) scope (fun _ _ => False) xc cc G2.objs.size s2 H2 fp) rfl rfl rfl rfl rfl i [] s3 _ H3 (fun _ _ => False) I3 (hfx fr3) st3 stop) (fun r s4 ⟨hr, I4⟩ => ?_) fun _ _ z => z.elim
      subst hr
      exact hRR _ _ _ _ H3 s4 hCle I4 qn
    · refine wpAny_mono (TT'.item (cxCompC X (own ++ frees) scope (fun _ _ => False) xc cc G2.objs.size s2 H2 fp) rfl rfl rfl rfl rfl i [] s3 _ H3 (fun _ _ => False) I3 (hfx fr3) st3 go) (fun r s4 ⟨u, hr, h4⟩ => ?_) fun _ _ z => z.elim
      subst hr
      refine wpAny_mono h4 (fun _ s5 ⟨x, H5, I5, r5, y5, st5, fr5⟩ => ?_) fun _ _ z => z.elim
      have I5' := I5.pinned (hfx fr5) (TT'.obj _ _ st5)
      refine wpAny_mono (hg _ _ _ _ _ _ s5 _ H5 x u _ I5' r5 (step x H5 y5)) (fun _ s6 ⟨σ6, H6, I6, hd6, q6⟩ => ?_) fun _ _ z => z.elim
      refine wpAny_mono (ht _ _ _ _ _ _ s6 σ6 H6 _ I6 q6) (fun ok s7 ⟨H7, I7, q7⟩ => ?_) fun _ _ z => z.elim
      have again : ∀ {H8 : Hp} {s8 : Shared}, Inv (cxCompC X (own ++ frees) scope (fun _ _ => False) xc cc G2.objs.size s2 H2 fp) ([] ++ pinsAt fp s5.heap) σ6 H8 s8 → tn (i + 1) s8.heap ∧ ∀ b ∈ fp, H8 b = none := fun {H8 s8} I8 => by
        refine ⟨TT'.keep _ _ _ st5 fun b hb o e => (I8.pin (b, o) (List.mem_append_right _ (List.mem_append_right _ (mem_pinsAt hb e)))).1, fun b hb => ?_⟩
        obtain ⟨o, e, d⟩ := TT'.obj _ _ st5 b hb
        exact (I8.pin (b, o) (List.mem_append_right _ (List.mem_append_right _ (mem_pinsAt hb e)))).2.1
      cases ok with
      | false =>
        rw [if_neg Bool.false_ne_true]
        obtain ⟨m', hm, w7⟩ := hNN _ _ q7
        obtain ⟨t7, n7⟩ := again I7
        exact ⟨m', hm, i + 1, acc, H7, back I7 hd6, t7, n7, w7⟩
      | true =>
        rw [if_pos rfl]
        refine wpAny_mono (he _ _ _ _ _ _ s7 σ6 H7 _ I7 q7) (fun xv s8 ⟨v, H8, I8, r8, hD8, q8⟩ => ?_) fun _ _ z => z.elim
        obtain ⟨m', hm, w8⟩ := hNN _ _ q8
        refine wpAny_mono (mt_append (X := cxCompC X (own ++ frees) scope (fun _ _ => False) xc cc G2.objs.size s2 H2 fp) _ s8 σ6 H8 (.ref s2.heap.objs.size) [v] (.ref s2.heap.objs.size) [xv] (fun y H9 => y = .non ∧ H9 = upd H8 s2.heap.objs.size (.lst (acc ++ [v]))) I8 rfl (.cons r8 .nil) ⟨_, acc, v, rfl, rfl, hD8, hz, rfl, rfl⟩)
          (fun _ s9 ⟨y, H9, I9, _, _, e9⟩ => ?_) fun _ _ z => z.elim
        subst e9
        obtain ⟨t9, n9⟩ := again I9
        exact ⟨m', hm, i + 1, acc ++ [v], _, back I9 hd6, t9, n9, w8⟩
  exact codeAny_compStart_list (loop _ rfl) (TT'.self _ 0 _ _ _ st1 (loop _ rfl))
theorem pe_compC (T : CompTextC X scope xc own frees js) (hc : X.calm = true) (hi : PI X tg iter wi)
    (hg : ∀ cc C s H fp, PG (cxCompC X (own ++ frees) scope (fun _ _ => False) xc cc C s H fp) tg g)
    (ht : ∀ cc C s H fp, PTs (cxCompC X (own ++ frees) scope (fun _ _ => False) xc cc C s H fp) ifs tt)
    (he : ∀ cc C s H fp, PE (cxCompC X (own ++ frees) scope (fun _ _ => False) xc cc C s H fp) elt te)
    (hs : ∀ x, foldedSetIterable iter X.env x = pure x := by intro _; rfl) :
    PE X (.ListComp elt [⟨tg, iter, ifs, 0⟩] scope pos) (tComp wi g tt te own.length js) := by
  intro pins s σ H Q I h
  rw [eval_ListComp]
  refine wpAny_comprehension_free (use := none) rfl hs (closure_is (closure_okC I T)) T.kind T.names ?_
  refine wpAny_mono (hi pins s σ H _ I h) (fun v s1 h1 => wpAny_mono h1 (fun itv s2 h2 => ?_) fun _ _ z => z) fun _ _ z => z
  obtain ⟨it, fp, tn, J, H2, e, I2, TT', st2, f2, hl⟩ := h2
  subst e
  refine comp_blockC (QQ := fun D H' => Q (.ref D) H') T hg ht he I2 (TT'.x hc) st2 f2 hl fun D cc C σ' H' s' hC J' q => ?_
  obtain ⟨m, hn, _⟩ := J'.loc
  exact ⟨m, hn, fun h' sb => ⟨.ref D, H', inv_comp_backC I2 f2 hC J' sb, rfl, q⟩⟩
end
def compLookC (scope osc : Scope) (x : Str) (N frees : List Str) (js : List Nat) : Bool :=
  decide (scope.kind = .function) && decide (scope.names.filter (fun y => decide (y.2 = NameKind.cell)) = [(x, .cell)]) && scope.names.all (fun y => decide (y.1 = x → y.2 = .cell)) && scope.names.all (fun y => decide (y.2 = .local → scope.names.lookup y.1 = some .local)) &&
  scope.names.all (fun y => decide (y.2 = .free → osc.names.lookup y.1 = some .cell ∨ osc.names.lookup y.1 = some .free)) && decide (js.map (fun j => N[j]?) = frees.map some) && frees.all (fun x => decide (scope.names.lookup x = some .free))
theorem compTextC_of {X : Cx} {scope : Scope} {x : Str} {own frees : List Str} {js : List Nat} (osc : Scope) (N : List Str) (h1 : X.env.scope = osc := by rfl) (h2 : X.N = N := by rfl) (h : compLookC scope osc x N frees js = true := by decide +kernel) : CompTextC X scope x own frees js := by
  unfold compLookC at h
  simp only [Bool.and_eq_true, decide_eq_true_eq, List.all_eq_true] at h
  obtain ⟨⟨⟨⟨⟨⟨a, b⟩, b2⟩, c⟩, d⟩, e⟩, f⟩ := h
  exact ⟨a, b, b2, c, by rw [h1]; exact d, by rw [h2]; exact e, f⟩
def relabelS (scope osc : Scope) : Scope := { kind := scope.kind, names := scope.names.map (fun (n, k) => if (k == NameKind.free && osc.kind == .function && osc.names.lookup n == some .cell) then (n, NameKind.cell) else (n, k)), isGenerator := scope.isGenerator, isCoroutine := scope.isCoroutine, more := scope.more }
end L2
namespace RM
variable {N : Net} {m t0 : Nat}
def Net.far (N : Net) (t v : Nat) : Nat := if N.a t = v then N.b t else N.a t
def Net.tiesAt (N : Net) (left v : Nat) : List Nat := (List.range N.n).filter fun t => left.testBit t && (decide (N.a t = v) || decide (N.b t = v))
theorem tiesAt_mem {left v t : Nat} : t ∈ N.tiesAt left v ↔ t < N.n ∧ left.testBit t = true ∧ (N.a t = v ∨ N.b t = v) := by
  unfold Net.tiesAt
  rw [List.mem_filter, List.mem_range, Bool.and_eq_true, Bool.or_eq_true, decide_eq_true_eq, decide_eq_true_eq]
inductive Wk (N : Net) (m t0 : Nat) : List (Nat × Int) → Nat → Nat → Prop
  | start : Wk N m t0 [(t0, 1)] (N.b t0) (m ^^^ 2 ^ t0)
  | next {acc : List (Nat × Int)} {v left t : Nat} (h : Wk N m t0 acc v left) (h0 : left ≠ 0) (ht : (N.tiesAt left v)[0]? = some t) : Wk N m t0 (acc ++ [(t, if N.a t = v then 1 else -1)]) (N.far t v) (left ^^^ 2 ^ t)
theorem far_join {t v : Nat} (h : N.a t = v ∨ N.b t = v) : (N.a t = v ∧ N.b t = N.far t v) ∨ (N.b t = v ∧ N.a t = N.far t v) := by
  unfold Net.far
  by_cases e : N.a t = v
  · rw [if_pos e]
    exact .inl ⟨e, rfl⟩
  · rw [if_neg e]
    rcases h with h | h
    · exact absurd h e
    · exact .inr ⟨h, rfl⟩
theorem way_left {pre ks : List Nat} {v left : Nat} (h : Way N m pre v ks left) (hz : ∀ k, m.testBit k = true → k ∈ ks) : left = 0 := by
  apply Nat.eq_of_testBit_eq
  intro k
  rw [h.left_bit, Nat.zero_testBit]
  cases hb : m.testBit k with
  | false => rfl
  | true => rw [decide_eq_true (hz k hb)]; rfl
theorem ring_open {pre ks : List Nat} {v left : Nat} (r : N.Ring m) (h : Way N m pre v ks left) (h0 : left ≠ 0) : v ∉ pre := fun hv => by
  obtain ⟨i, hi⟩ := List.getElem?_of_mem hv
  obtain ⟨q0, qe, _, qs⟩ := h.closes hi
  rcases r.2.2 _ qs qe with z | z
  · exact q0 z
  · refine h0 (way_left h fun k hk => ?_)
    rw [← z, Ring.orM_bit] at hk
    exact List.mem_of_mem_drop (of_decide_eq_true hk)
theorem wk_way (hm : m < 2 ^ N.n) (r : N.Ring m) (hb : m.testBit t0 = true) {acc : List (Nat × Int)} {v left : Nat} (h : Wk N m t0 acc v left) : ∃ pre, Way N m pre v (acc.map (·.1)) left ∧ pre[0]? = some (N.a t0) := by
  induction h with
  | start =>
    refine ⟨[N.a t0], ?_, rfl⟩
    exact (Way.start hm r.2.1 hb).go (by simp) hb (.inl ⟨rfl, rfl⟩)
  | next h h0 ht ih =>
    obtain ⟨pre, w, p0⟩ := ih
    have hm2 := tiesAt_mem.mp (List.mem_of_getElem? ht)
    refine ⟨_, by rw [List.map_append]; exact w.go (ring_open r w h0) hm2.2.1 (far_join hm2.2.2), ?_⟩
    rw [List.getElem?_append_left (by have := (List.getElem?_eq_some_iff.mp p0).1; exact this)]
    exact p0
theorem wk_on (hm : m < 2 ^ N.n) (r : N.Ring m) (hb : m.testBit t0 = true) {acc : List (Nat × Int)} {v left : Nat} (h : Wk N m t0 acc v left) (h0 : left ≠ 0) : ∃ t, (N.tiesAt left v)[0]? = some t := by
  obtain ⟨pre, w, _⟩ := wk_way hm r hb h
  obtain ⟨t, h1, h2⟩ := w.on (ring_open r w h0)
  have ht : t < N.n := bits_lt w.left_lt h1
  have hmem : t ∈ N.tiesAt left v := tiesAt_mem.mpr ⟨ht, h1, h2⟩
  cases e : N.tiesAt left v with
  | nil => rw [e] at hmem; cases hmem
  | cons x l => exact ⟨x, rfl⟩
theorem wk_v (hm : m < 2 ^ N.n) (r : N.Ring m) (hb : m.testBit t0 = true) {acc : List (Nat × Int)} {v left : Nat} (h : Wk N m t0 acc v left) : v < N.p ∧ left < 2 ^ N.n ∧ ∀ q ∈ acc, q.1 < N.n := by
  obtain ⟨pre, w, _⟩ := wk_way hm r hb h
  refine ⟨w.inp v (by simp), w.left_lt, fun q hq => w.w.lt q.1 (List.mem_map.mpr ⟨q, hq, rfl⟩)⟩
theorem wk_round (hm : m < 2 ^ N.n) (r : N.Ring m) (hb : m.testBit t0 = true) {acc : List (Nat × Int)} {v left : Nat} (h : Wk N m t0 acc v left) : left = 0 ↔ v = N.a t0 := by
  obtain ⟨pre, w, p0⟩ := wk_way hm r hb h
  constructor
  · intro z
    apply Classical.byContradiction
    intro hne
    have hvp : v < N.p := w.inp v (by simp)
    have hb0 := w.w.bd 0 (N.a t0) (by rw [List.getElem?_append_left (List.getElem?_eq_some_iff.mp p0).1]; exact p0) v
    rw [List.drop_zero, decide_eq_false (fun e => hne e.symm), decide_eq_true rfl] at hb0
    have hx : m ^^^ Ring.orM (acc.map (·.1)) = 0 := by rw [← w.left_is]; exact z
    have e : Ring.orM (acc.map (·.1)) = m := by
      have e2 : m ^^^ (m ^^^ Ring.orM (acc.map (·.1))) = m ^^^ 0 := by rw [hx]
      rw [← Nat.xor_assoc, Nat.xor_self, Nat.zero_xor, Nat.xor_zero] at e2
      exact e2
    rw [e, r.2.1 v hvp] at hb0
    cases hb0
  · intro z
    apply Classical.byContradiction
    intro h0
    exact ring_open r w h0 (by rw [z]; exact List.mem_of_getElem? p0)
theorem cnt_less {left t n : Nat} (ht : t < n) (hb : left.testBit t = true) : cnt (fun j => left.testBit j) n = cnt (fun j => (left ^^^ 2 ^ t).testBit j) n + 1 :=
  cnt_drop (h := t) hb ht fun x _ => by
    rw [Nat.testBit_xor, Nat.testBit_two_pow]
    by_cases e : x = t
    · subst e
      simp [hb]
    · rw [decide_eq_false e, decide_eq_false (fun z => e z.symm)]
      simp
theorem wk_len (hm : m < 2 ^ N.n) (hb : m.testBit t0 = true) {acc : List (Nat × Int)} {v left : Nat} (h : Wk N m t0 acc v left) : acc.length + cnt (fun j => left.testBit j) N.n = cnt (fun j => m.testBit j) N.n := by
  induction h with
  | start =>
    have := cnt_less (bits_lt hm hb) hb
    show 1 + _ = _
    (first | lia | omega)
  | next h h0 ht ih =>
    have hm2 := tiesAt_mem.mp (List.mem_of_getElem? ht)
    have := cnt_less hm2.1 hm2.2.1
    rw [List.length_append, List.length_singleton]
    (first | lia | omega)
theorem wk_pos {acc : List (Nat × Int)} {v left : Nat} (h : Wk N m t0 acc v left) : 0 < acc.length := by
  cases h with
  | start => exact Nat.zero_lt_one
  | next _ _ _ => rw [List.length_append]; exact Nat.succ_pos _
theorem wk_same {acc acc' : List (Nat × Int)} {v v' left left' : Nat} (h : Wk N m t0 acc v left) (h' : Wk N m t0 acc' v' left') (hl : acc.length = acc'.length) : acc = acc' ∧ v = v' ∧ left = left' := by
  induction h generalizing acc' v' left' with
  | start =>
    cases h' with
    | start => exact ⟨rfl, rfl, rfl⟩
    | next h2 _ _ =>
      exfalso
      have := wk_pos h2
      rw [List.length_append] at hl
      simp at hl
      rw [hl] at this
      exact absurd this (Nat.lt_irrefl 0)
  | next h h0 ht ih =>
    cases h' with
    | start =>
      exfalso
      have := wk_pos h
      rw [List.length_append] at hl
      simp at hl
      rw [hl] at this
      exact absurd this (Nat.lt_irrefl 0)
    | next h2 h02 ht2 =>
      rw [List.length_append, List.length_append] at hl
      obtain ⟨e1, e2, e3⟩ := ih h2 (by simpa using hl)
      subst e1 e2 e3
      rw [ht] at ht2
      cases ht2
      exact ⟨rfl, rfl, rfl⟩
theorem wk_done (hm : m < 2 ^ N.n) (hb : m.testBit t0 = true) {acc acc' : List (Nat × Int)} {v v' : Nat} (h : Wk N m t0 acc v 0) (h' : Wk N m t0 acc' v' 0) : acc = acc' := by
  have l1 := wk_len hm hb h
  have l2 := wk_len hm hb h'
  exact (wk_same h h' (by (first | lia | omega))).1
variable {N : Net} {m t0 : Nat}
theorem wk_left (hb : m.testBit t0 = true) {acc : List (Nat × Int)} {v left : Nat} (h : Wk N m t0 acc v left) : ∀ k, left.testBit k = (m.testBit k && !decide (k ∈ acc.map (·.1))) := by
  induction h with
  | start =>
    intro k
    rw [Nat.testBit_xor, Nat.testBit_two_pow]
    by_cases e : t0 = k
    · subst e
      simp [hb]
    · have e' : ¬ k = t0 := fun z => e z.symm
      simp [e, e']
  | @next acc v left t h h0 ht ih =>
    intro k
    have hm2 := tiesAt_mem.mp (List.mem_of_getElem? ht)
    have hin := hm2.2.1
    rw [ih t] at hin
    rw [Nat.testBit_xor, Nat.testBit_two_pow, ih k, List.map_append]
    by_cases e : t = k
    · subst e
      rw [hin]
      simp
    · have e' : ¬ k = t := fun z => e z.symm
      have e3 : (k ∈ acc.map (·.1) ++ [(t, if N.a t = v then (1 : Int) else -1)].map (·.1)) ↔ k ∈ acc.map (·.1) := by simp [e']
      rw [show decide (k ∈ acc.map (·.1) ++ [(t, if N.a t = v then (1 : Int) else -1)].map (·.1)) = decide (k ∈ acc.map (·.1)) from decide_eq_decide.mpr e3]
      simp [e]
theorem wk_left_lt (hm : m < 2 ^ N.n) (hb : m.testBit t0 = true) {acc : List (Nat × Int)} {v left : Nat} (h : Wk N m t0 acc v left) : left < 2 ^ N.n := lt_of_bits fun k hk => by
  rw [wk_left hb h k, Bool.and_eq_true] at hk
  exact bits_lt hm hk.1
theorem cnt_zero {left n : Nat} (hl : left < 2 ^ n) : cnt (fun j => left.testBit j) n = 0 ↔ left = 0 := by
  constructor
  · intro h
    apply Classical.byContradiction
    intro h0
    obtain ⟨j, hj⟩ := Nat.exists_testBit_of_ne_zero h0
    have := cnt_pos (f := fun j => left.testBit j) hj (bits_lt hl hj)
    (first | lia | omega)
  · rintro rfl
    rw [cnt_sm]
    refine (sm_congr fun k _ => ?_).trans (sm_zero n)
    rw [if_neg (by rw [Nat.zero_testBit]; simp)]
theorem wk_full (hm : m < 2 ^ N.n) (hb : m.testBit t0 = true) {acc : List (Nat × Int)} {v left : Nat} (h : Wk N m t0 acc v left) : acc.length = cnt (fun j => m.testBit j) N.n ↔ left = 0 := by
  have := wk_len hm hb h
  rw [← cnt_zero (wk_left_lt hm hb h)]
  (first | lia | omega)
end RM
namespace Ring
open PySem L2
def PrA (H : Hp) (x : V) (q : Nat × Int) : Prop := ∃ b, x = .ref b ∧ H b = some (.tup [.int (q.1 : Int), .int q.2])
def WalkAt (H : Hp) (D : Addr) (acc : List (Nat × Int)) : Prop := ∃ xs, H D = some (.lst xs) ∧ Paired (PrA H) xs acc
theorem PrA.same {H H' : Hp} (s : Same H H') {x : V} {q : Nat × Int} (h : PrA H x q) : PrA H' x q := by
  obtain ⟨b, e, hb⟩ := h
  exact ⟨b, e, s _ _ hb⟩
theorem WalkAt.same {H H' : Hp} (s : Same H H') {D : Addr} {acc : List (Nat × Int)} (h : WalkAt H D acc) : WalkAt H' D acc := by
  obtain ⟨xs, h1, h2⟩ := h
  exact ⟨xs, s _ _ h1, Paired.imp' (fun _ _ z => PrA.same s z) h2⟩
theorem paired_snoc {α β : Type} {F : α → β → Prop} {x : α} {y : β} (h : F x y) : ∀ {l : List α} {r : List β}, Paired F l r → Paired F (l ++ [x]) (r ++ [y])
  | _, _, .nil => .cons h .nil
  | _, _, .cons h1 h2 => .cons h1 (paired_snoc h h2)
theorem PrA.put {H : Hp} {D : Addr} {xs ys : List V} (hD : H D = some (.lst xs)) {x : V} {q : Nat × Int} (h : PrA H x q) : PrA (upd H D (.lst ys)) x q := by
  obtain ⟨b, e, hb⟩ := h
  have : b ≠ D := fun z => by
    rw [z, hD] at hb
    cases hb
  exact ⟨b, e, by rw [upd_ne this]; exact hb⟩
theorem WalkAt.push {H : Hp} {D b : Addr} {acc : List (Nat × Int)} {xs : List V} {q : Nat × Int} (hD : H D = some (.lst xs)) (h : Paired (PrA H) xs acc) (hb : H b = some (.tup [.int (q.1 : Int), .int q.2])) : WalkAt (upd H D (.lst (xs ++ [.ref b]))) D (acc ++ [q]) :=
  ⟨xs ++ [.ref b], upd_same, paired_snoc (PrA.put hD ⟨b, rfl, hb⟩) (Paired.imp' (fun _ _ z => PrA.put hD z) h)⟩
theorem tie_in {H : Hp} {xs : List V} {p : Nat} {ts : List Tie} {g : GoodWeb p ts} {k : Nat} (h3 : Paired (TupAt H) xs ts) (hk : k < ts.length) : ∃ c, xs[k]? = some (.ref c) ∧ H c = some (.tup [.int (((netOf p ts g).a k : Nat) : Int), .int (((netOf p ts g).b k : Nat) : Int), .int (tieAt ts k).2.2]) := by
  have hkx : k < xs.length := by rw [h3.length]; exact hk
  obtain ⟨t, ht, c, hc, hct⟩ := Paired.getP h3 (i := k) (x := xs[k]) (by simp [hkx])
  have htt : t = tieAt ts k := by
    have z := tieAt_get hk
    rw [ht] at z
    exact Option.some.inj z
  refine ⟨c, by rw [← hc]; simp [hkx], ?_⟩
  rw [hct, ← net_a hk, ← net_b hk, htt]
  rfl
theorem first_tie {m : Nat} (h : m ≠ 0) : ∃ c, (tiesOf (m : Int))[0]? = some c ∧ m.testBit c = true := by
  obtain ⟨k, hk⟩ := Nat.exists_testBit_of_ne_zero h
  have hm : k ∈ tiesOf (m : Int) := by
    unfold tiesOf
    refine List.mem_filter.mpr ⟨List.mem_range.mpr (Nat.lt_of_not_le fun z => ?_), by rw [bit_nat]; exact hk⟩
    have := bit_high z
    rw [bit_nat, hk] at this
    cases this
  cases e : tiesOf (m : Int) with
  | nil =>
    rw [e] at hm
    cases hm
  | cons c r =>
    have hc : c ∈ tiesOf (m : Int) := by rw [e]; exact List.mem_cons_self
    unfold tiesOf at hc
    have := (List.mem_filter.mp hc).2
    rw [bit_nat] at this
    exact ⟨c, rfl, this⟩
theorem wk_way1 {N : RM.Net} {m t0 : Nat} {acc : List (Nat × Int)} {v left : Nat} (h : RM.Wk N m t0 acc v left) : ∀ q ∈ acc, q.2 = 1 ∨ q.2 = -1 := by
  induction h with
  | start =>
    intro q hq
    rw [List.mem_singleton.mp hq]
    exact .inl rfl
  | @next acc v left t h h0 ht ih =>
    intro q hq
    rcases List.mem_append.mp hq with z | z
    · exact ih q z
    · rw [List.mem_singleton.mp z]
      by_cases e : N.a t = v
      · exact .inl (if_pos e)
      · exact .inr (if_neg e)
theorem row_at {row : List Int} {t n : Nat} (h : t < n) (hl : row.length = n) : (intsV row)[t]? = some (.int (row.getD t 0)) := by
  unfold intsV
  rw [List.getElem?_map, List.getD_eq_getElem?_getD, List.getElem?_eq_getElem (by (first | lia | omega))]
  rfl
theorem int_at {l : List Int} {i : Nat} (h : i < l.length) : (intsV l)[i]? = some (.int (l.getD i 0)) := row_at h rfl
end Ring
namespace RM
variable {N : Net} {row row' : Nat → Int}
theorem wk_exists {m t0 : Nat} (hm : m < 2 ^ N.n) (r : N.Ring m) (hb : m.testBit t0 = true) : ∃ acc v, Wk N m t0 acc v 0 := by
  have key : ∀ (k : Nat) (acc : List (Nat × Int)) (v left : Nat), Wk N m t0 acc v left → cnt (fun j => left.testBit j) N.n = k → ∃ acc v, Wk N m t0 acc v 0 := by
    intro k
    induction k with
    | zero =>
      intro acc v left h e
      have hl := wk_len hm hb h
      rw [e] at hl
      have h0 := (wk_full hm hb h).mp hl
      subst h0
      exact ⟨acc, v, h⟩
    | succ k ih =>
      intro acc v left h e
      by_cases h0 : left = 0
      · subst h0
        exact ⟨acc, v, h⟩
      · obtain ⟨t, ht⟩ := wk_on hm r hb h h0
        have h' := Wk.next h h0 ht
        have l1 := wk_len hm hb h
        have l2 := wk_len hm hb h'
        rw [List.length_append] at l2
        refine ih _ _ _ h' ?_
        have e1 : [((t : Nat), (if N.a t = v then (1 : Int) else -1))].length = 1 := rfl
        (first | lia | omega)
  exact key _ _ _ _ .start rfl
variable {N' : Net}
variable {N : Net} {m t0 : Nat}
inductive Goes (N : Net) : Nat → List (Nat × Int) → Nat → List Nat → Prop
  | nil {u : Nat} : Goes N u [] u []
  | fore {t v : Nat} {acc : List (Nat × Int)} {pts : List Nat} (h : Goes N (N.b t) acc v pts) : Goes N (N.a t) ((t, 1) :: acc) v (N.a t :: pts)
  | back {t v : Nat} {acc : List (Nat × Int)} {pts : List Nat} (h : Goes N (N.a t) acc v pts) : Goes N (N.b t) ((t, -1) :: acc) v (N.b t :: pts)
theorem Goes.snoc {u v t v' : Nat} {y : Int} {acc : List (Nat × Int)} {pts : List Nat} (h : Goes N u acc v pts) (hj : (N.a t = v ∧ y = 1 ∧ v' = N.b t) ∨ (N.b t = v ∧ y = -1 ∧ v' = N.a t)) : Goes N u (acc ++ [(t, y)]) v' (pts ++ [v]) := by
  induction h with
  | nil =>
    rcases hj with ⟨rfl, rfl, rfl⟩ | ⟨rfl, rfl, rfl⟩
    · exact .fore .nil
    · exact .back .nil
  | fore h ih => exact .fore (ih hj)
  | back h ih => exact .back (ih hj)
theorem wk_goes (hm : m < 2 ^ N.n) (r : N.Ring m) (hb : m.testBit t0 = true) {acc : List (Nat × Int)} {v left : Nat} (h : Wk N m t0 acc v left) : ∃ pre, Way N m pre v (acc.map (·.1)) left ∧ Goes N (N.a t0) acc v pre := by
  induction h with
  | start =>
    refine ⟨[N.a t0], ?_, .fore .nil⟩
    exact (Way.start hm r.2.1 hb).go (by simp) hb (.inl ⟨rfl, rfl⟩)
  | @next acc v left t h h0 ht ih =>
    obtain ⟨pre, w, p0⟩ := ih
    have hm2 := tiesAt_mem.mp (List.mem_of_getElem? ht)
    refine ⟨_, by rw [List.map_append]; exact w.go (ring_open r w h0) hm2.2.1 (far_join hm2.2.2), p0.snoc ?_⟩
    unfold Net.far
    by_cases e : N.a t = v
    · exact .inl ⟨e, if_pos e, if_pos e⟩
    · exact .inr ⟨hm2.2.2.resolve_left e, if_neg e, if_neg e⟩
theorem wk_nodup (hb : m.testBit t0 = true) {acc : List (Nat × Int)} {v left : Nat} (h : Wk N m t0 acc v left) : (acc.map (·.1)).Nodup := by
  induction h with
  | start => simp
  | @next acc v left t h h0 ht ih =>
    have hm2 := tiesAt_mem.mp (List.mem_of_getElem? ht)
    rw [List.map_append]
    refine List.nodup_append.mpr ⟨ih, by simp, fun x hx y hy => ?_⟩
    have e : y = t := by simpa using hy
    rw [e]
    rintro rfl
    have := hm2.2.1
    rw [wk_left hb h, decide_eq_true hx, Bool.not_true, Bool.and_false] at this
    cases this
theorem wk_perm (hm : m < 2 ^ N.n) (r : N.Ring m) (hb : m.testBit t0 = true) {acc : List (Nat × Int)} {v : Nat} (h : Wk N m t0 acc v 0) : (acc.map (·.1)).Perm ((List.range N.n).filter fun k => m.testBit k) := by
  refine (List.perm_ext_iff_of_nodup (wk_nodup hb h) (List.Pairwise.filter _ List.nodup_range)).mpr fun k => ?_
  obtain ⟨pre, w, _⟩ := wk_goes hm r hb h
  rw [List.mem_filter, List.mem_range]
  constructor
  · exact fun z => ⟨bits_lt hm (w.sub k z), w.sub k z⟩
  · rintro ⟨_, z⟩
    have := wk_left hb h k
    rw [Nat.zero_testBit, z, Bool.true_and] at this
    cases e : decide (k ∈ acc.map (·.1)) with
    | true => exact of_decide_eq_true e
    | false => rw [e] at this; cases this
variable {N : Net}
inductive Sp (B : List Nat) : Nat → Prop
  | zero : Sp B 0
  | add {x b : Nat} (h : Sp B x) (hb : b ∈ B) : Sp B (x ^^^ b)
section
variable {B C : List Nat} {x y b : Nat}
theorem Sp.mem (h : b ∈ B) : Sp B b := by
  have := Sp.add .zero h
  rw [Nat.zero_xor] at this
  exact this
theorem Sp.xor (h : Sp B x) (h' : Sp B y) : Sp B (x ^^^ y) := by
  induction h' with
  | zero => rw [Nat.xor_zero]; exact h
  | add _ hb ih => rw [← Nat.xor_assoc]; exact .add ih hb
theorem Sp.mono (h : Sp B x) (hc : ∀ b ∈ B, Sp C b) : Sp C x := by
  induction h with
  | zero => exact .zero
  | add _ hb ih => exact ih.xor (hc _ hb)
theorem xor_twice (x b : Nat) : x ^^^ b ^^^ b = x := by rw [Nat.xor_assoc, Nat.xor_self, Nat.xor_zero]
theorem Sp.lt {n : Nat} (h : Sp B x) (hz : ∀ b ∈ B, b < 2 ^ n) : x < 2 ^ n := by
  induction h with
  | zero => exact Nat.two_pow_pos n
  | add _ hb ih => exact Nat.xor_lt_two_pow ih (hz _ hb)
end
open Ring (xorL xorL_cons maskOf)
variable {N : Net}
theorem chords_nd : N.chords.Nodup := List.Pairwise.filter _ List.nodup_range
theorem chord_at {c : Nat} (hc : c < N.n) (hf : N.inF c = false) : ∃ j : Nat, N.chords[j]? = some c := List.getElem?_of_mem (chords_mem.mpr ⟨hc, hf⟩)
theorem ring_ring {c : Nat} (hc : c < N.n) (hf : N.inF c = false) : N.Ring (N.ring c) := by
  refine ⟨fun z => ?_, ring_even hc, fun q hq ev => ?_⟩
  · have h := ring_own hf
    rw [z] at h
    simp at h
  · have hqn : q < 2 ^ N.n := lt_of_bits fun k hk => bits_lt (ring_lt hc) (hq k hk)
    cases qc : q.testBit c with
    | true =>
      refine .inr (even_one hqn (ring_lt hc) ev (ring_even hc) fun d hd hfd => ?_)
      rw [ring_chord hf hfd]
      by_cases e : c = d
      · subst e
        simp [qc]
      · rw [decide_eq_false e]
        cases qd : q.testBit d with
        | false => rfl
        | true =>
          have := hq d qd
          rw [ring_chord hf hfd, decide_eq_false e] at this
          cases this
    | false =>
      refine .inl (forest_empty (fun k hk => ?_) ev)
      rcases ring_bit (hq k hk) with e | e
      · subst e
        rw [qc] at hk
        cases hk
      · exact e
open Ring (maskOf mask_bit mask_lt)
theorem xor_zero_eq {a b : Nat} (h : a ^^^ b = 0) : a = b := by
  have := congrArg (fun y => y ^^^ b) h
  simp only [Nat.zero_xor] at this
  rwa [Nat.xor_assoc, Nat.xor_self, Nat.xor_zero] at this
def comb : List Nat → Nat → Nat
  | [], _ => 0
  | b :: B, z => (if z.testBit 0 = true then b else 0) ^^^ comb B (z / 2)
theorem xor_four (a b c d : Nat) : (a ^^^ b) ^^^ (c ^^^ d) = (a ^^^ c) ^^^ (b ^^^ d) := Nat.eq_of_testBit_eq fun i => by
  simp only [Nat.testBit_xor]
  cases a.testBit i <;> cases b.testBit i <;> cases c.testBit i <;> cases d.testBit i <;> rfl
theorem xor_half (z y : Nat) : (z ^^^ y) / 2 = z / 2 ^^^ y / 2 := Nat.eq_of_testBit_eq fun i => by
  rw [Nat.testBit_xor, ← Nat.testBit_succ, ← Nat.testBit_succ, ← Nat.testBit_succ, Nat.testBit_xor]
theorem comb_xor : ∀ (B : List Nat) (z y : Nat), comb B (z ^^^ y) = comb B z ^^^ comb B y
  | [], _, _ => by simp [comb]
  | b :: B, z, y => by
    unfold comb
    rw [xor_half, comb_xor B, Nat.testBit_xor, xor_four]
    congr 1
    cases z.testBit 0 <;> cases y.testBit 0 <;> simp
theorem comb_zero : ∀ (B : List Nat), comb B 0 = 0
  | [] => rfl
  | b :: B => by
    unfold comb
    rw [Nat.zero_testBit, show 0 / 2 = 0 from rfl, comb_zero B]
    simp
theorem pow_half (i : Nat) : 2 ^ (i + 1) / 2 = 2 ^ i := by
  rw [Nat.pow_succ, Nat.mul_div_cancel _ (by decide)]
theorem comb_pow : ∀ {B : List Nat} {i b : Nat}, B[i]? = some b → comb B (2 ^ i) = b
  | [], i, b, h => by simp at h
  | b' :: B, 0, b, h => by
    have : b' = b := by simpa using h
    subst this
    unfold comb
    rw [show (2 ^ 0 : Nat).testBit 0 = true from rfl, if_pos rfl, show (2 ^ 0 : Nat) / 2 = 0 from rfl, comb_zero, Nat.xor_zero]
  | b' :: B, i + 1, b, h => by
    unfold comb
    have h0 : (2 ^ (i + 1)).testBit 0 = false := by rw [Nat.testBit_two_pow]; simp
    rw [h0, if_neg (by decide), Nat.zero_xor, pow_half]
    exact comb_pow (B := B) h
theorem comb_snoc : ∀ (B : List Nat) (b z : Nat), comb (B ++ [b]) z = comb B z ^^^ (if z.testBit B.length = true then b else 0)
  | [], b, z => by
    show (if z.testBit 0 = true then b else 0) ^^^ 0 = 0 ^^^ _
    rw [Nat.xor_zero, Nat.zero_xor]
    rfl
  | b' :: B, b, z => by
    show (if z.testBit 0 = true then b' else 0) ^^^ comb (B ++ [b]) (z / 2) = ((if z.testBit 0 = true then b' else 0) ^^^ comb B (z / 2)) ^^^ _
    rw [comb_snoc B b (z / 2), Nat.xor_assoc, ← Nat.testBit_succ]
    rfl
theorem comb_high : ∀ (B : List Nat) {z : Nat}, (∀ i, i < B.length → z.testBit i = false) → comb B z = 0
  | [], _, _ => rfl
  | b :: B, z, h => by
    unfold comb
    rw [h 0 (by simp), if_neg (by decide), Nat.zero_xor]
    exact comb_high B fun i hi => by rw [← Nat.testBit_succ]; exact h (i + 1) (by simp; (first | lia | omega))
theorem comb_sp (B : List Nat) : ∀ z, Sp B (comb B z) := by
  induction B with
  | nil => intro z; exact .zero
  | cons b B ih =>
    intro z
    have h : Sp (b :: B) (comb B (z / 2)) := (ih (z / 2)).mono fun c hc => .mem (List.mem_cons_of_mem _ hc)
    unfold comb
    rw [Nat.xor_comm]
    by_cases e : z.testBit 0 = true
    · rw [if_pos e]; exact h.add List.mem_cons_self
    · rw [if_neg e, Nat.xor_zero]; exact h
theorem sp_comb {B : List Nat} {x : Nat} (h : Sp B x) : ∃ z, z < 2 ^ B.length ∧ comb B z = x := by
  induction h with
  | zero => exact ⟨0, Nat.two_pow_pos _, comb_zero B⟩
  | add h hb ih =>
    obtain ⟨z, hz, e⟩ := ih
    obtain ⟨i, hi⟩ := List.getElem?_of_mem hb
    have hil := (List.getElem?_eq_some_iff.mp hi).1
    exact ⟨z ^^^ 2 ^ i, Nat.xor_lt_two_pow hz (Nat.pow_lt_pow_right (by decide) hil), by rw [comb_xor, e, comb_pow hi]⟩
def Ind (B : List Nat) : Prop := ∀ z, z < 2 ^ B.length → comb B z = 0 → z = 0
theorem ind_snoc {B : List Nat} {b : Nat} : Ind (B ++ [b]) ↔ Ind B ∧ ¬ Sp B b := by
  have hl : (B ++ [b]).length = B.length + 1 := by simp
  constructor
  · intro h
    refine ⟨fun z hz e => h z ?_ ?_, fun hs => ?_⟩
    · rw [hl, Nat.pow_succ]; (first | lia | omega)
    · rw [comb_snoc, e, Nat.testBit_lt_two_pow hz]; simp
    · obtain ⟨y, hy, e⟩ := sp_comb hs
      have hlt : 2 ^ B.length < 2 ^ (B.length + 1) := Nat.pow_lt_pow_right (by decide) (by (first | lia | omega))
      have := h (y ^^^ 2 ^ B.length) (by rw [hl]; exact Nat.xor_lt_two_pow (by (first | lia | omega)) hlt) (by
        have h1 : (y ^^^ 2 ^ B.length).testBit B.length = true := by
          rw [Nat.testBit_xor, Nat.testBit_lt_two_pow hy, Nat.testBit_two_pow_self]
          rfl
        have h2 : comb B (2 ^ B.length) = 0 := comb_high B fun i hi => by
          rw [Nat.testBit_two_pow]
          exact decide_eq_false (by (first | lia | omega))
        rw [comb_snoc, h1, if_pos rfl, comb_xor, h2, e, Nat.xor_zero, Nat.xor_self])
      have h3 : (y ^^^ 2 ^ B.length).testBit B.length = false := by rw [this, Nat.zero_testBit]
      rw [Nat.testBit_xor, Nat.testBit_lt_two_pow hy, Nat.testBit_two_pow_self] at h3
      cases h3
  · rintro ⟨h, hs⟩ z hz e
    rw [comb_snoc] at e
    by_cases hb : z.testBit B.length = true
    · rw [if_pos hb] at e
      have e2 : comb B z = b := by
        have := congrArg (fun y => y ^^^ b) e
        simp only [xor_twice, Nat.zero_xor] at this
        exact this
      exact absurd (e2 ▸ comb_sp B z) hs
    · rw [if_neg hb, Nat.xor_zero] at e
      refine h z ?_ e
      refine lt_of_bits fun k hk => ?_
      have := bits_lt hz hk
      rw [hl] at this
      have : k ≠ B.length := fun e => hb (e ▸ hk)
      (first | lia | omega)
theorem ind_zero (B : List Nat) (h : Ind B) {z y : Nat} (hz : z < 2 ^ B.length) (hy : y < 2 ^ B.length) (e : comb B z = comb B y) : z = y := by
  have := h (z ^^^ y) (Nat.xor_lt_two_pow hz hy) (by rw [comb_xor, e, Nat.xor_self])
  exact xor_zero_eq this
section
variable {N : Net}
theorem comb_even {B : List Nat} (h : ∀ b ∈ B, N.Even b ∧ b < 2 ^ N.n) (z : Nat) : N.Even (comb B z) ∧ comb B z < 2 ^ N.n := by
  have hs := comb_sp B z
  refine ⟨?_, hs.lt fun b hb => (h b hb).2⟩
  generalize comb B z = x at hs
  induction hs with
  | zero => exact Even.zero
  | add _ hb ih => exact Even.xor ih (h _ hb).1
theorem map_few {f : Nat → Nat} {a b : Nat} (hf : ∀ z, z < 2 ^ a → f z < 2 ^ b) (inj : ∀ z y, z < 2 ^ a → y < 2 ^ a → f z = f y → z = y) : a ≤ b := by
  have nd : ((List.range (2 ^ a)).map f).Nodup := by
    refine List.pairwise_map.mpr ?_
    refine List.Pairwise.imp_of_mem (fun {z y} hz hy hne e => ?_) List.nodup_range
    exact hne (inj z y (List.mem_range.mp hz) (List.mem_range.mp hy) e)
  have := nodup_le nd fun x hx => by
    obtain ⟨z, hz, rfl⟩ := List.mem_map.mp hx
    exact hf z (List.mem_range.mp hz)
  rw [List.length_map, List.length_range] at this
  exact (Nat.pow_le_pow_iff_right (by decide)).mp this
def meets (ks : List Nat) (m : Nat) : Nat := maskOf (fun i => m.testBit (ks.getD i 0)) ks.length
theorem meets_lt (ks : List Nat) (m : Nat) : meets ks m < 2 ^ ks.length := mask_lt _ _
theorem meets_bit {ks : List Nat} {m i k : Nat} (h : ks[i]? = some k) : (meets ks m).testBit i = m.testBit k := by
  unfold meets
  rw [mask_bit, List.getD_eq_getElem?_getD, h, decide_eq_true (List.getElem?_eq_some_iff.mp h).1]
  rfl
theorem ind_le {B : List Nat} (hi : Ind B) (h : ∀ b ∈ B, N.Even b ∧ b < 2 ^ N.n) : B.length ≤ N.chords.length := by
  refine map_few (f := fun z => meets N.chords (comb B z)) (fun z _ => meets_lt _ _) fun z y hz hy e => ind_zero B hi hz hy ?_
  have h1 := comb_even h z
  have h2 := comb_even h y
  refine xor_zero_eq (forest_empty (N := N) (fun k hk => ?_) (Even.xor h1.1 h2.1))
  have hkn := bits_lt (Nat.xor_lt_two_pow h1.2 h2.2) hk
  refine ⟨hkn, ?_⟩
  cases hf : N.inF k with
  | true => rfl
  | false =>
    obtain ⟨j, hj⟩ := List.getElem?_of_mem (chords_mem.mpr ⟨hkn, hf⟩)
    have e : meets N.chords (comb B z) = meets N.chords (comb B y) := e
    have := congrArg (fun x => x.testBit j) e
    simp only [meets_bit hj] at this
    rw [Nat.testBit_xor, this, Bool.xor_self] at hk
    cases hk
structure Base (N : Net) (rs : List Nat) : Prop where
  len : rs.length = N.chords.length
  ring : ∀ r ∈ rs, N.Ring r ∧ r < 2 ^ N.n
  ind : Ind rs
open Classical in
theorem comb_keys : ∀ (rs : List Nat) {k z : Nat} {f : Nat → Bool}, (∀ i r, rs[i]? = some r → r.testBit k = f i) → (comb rs z).testBit k = xsum (fun i => z.testBit i && f i) rs.length
  | [], _, _, _, _ => Nat.zero_testBit _
  | r :: rs, k, z, f, h => by
    have ih := comb_keys rs (k := k) (z := z / 2) (f := fun i => f (i + 1)) fun i r hr => h (i + 1) r hr
    have h0 := h 0 r rfl
    have shift : ∀ (g : Nat → Bool) n, xsum g (n + 1) = (g 0 ^^ xsum (fun i => g (i + 1)) n) := fun g n => by
      induction n with
      | zero =>
        show (false ^^ g 0) = (g 0 ^^ false)
        cases g 0 <;> rfl
      | succ n ih =>
        show (xsum g (n + 1) ^^ g (n + 1)) = (g 0 ^^ (xsum (fun i => g (i + 1)) n ^^ g (n + 1)))
        rw [ih, Bool.xor_assoc]
    unfold comb
    rw [Nat.testBit_xor, ih, List.length_cons, shift]
    congr 1
    · cases z.testBit 0 with
      | true => rw [if_pos rfl, h0, Bool.true_and]
      | false => rw [if_neg (by decide), Nat.zero_testBit, Bool.false_and]
    · exact xsum_congr fun i _ => by rw [Nat.testBit_succ]
end
section
variable {B : List Nat} {rows : List Row3}
theorem xsum_list (f : Nat → Bool) (n : Nat) : ∀ {l : List Nat}, l.Nodup → (∀ k ∈ l, k < n) → xsum (fun k => f k && decide (k ∈ l)) n = l.foldr (fun k acc => f k ^^ acc) false
  | [], _, _ => xsum_none fun k _ => by simp
  | a :: l, nd, h => by
    obtain ⟨n1, n2⟩ := List.nodup_cons.mp nd
    have ih := xsum_list f n n2 fun k hk => h k (List.mem_cons_of_mem _ hk)
    have : xsum (fun k => f k && decide (k ∈ a :: l)) n = xsum (fun k => (f k && decide (a = k)) ^^ (f k && decide (k ∈ l))) n := xsum_congr fun k _ => by
      by_cases e : a = k
      · subst e
        rw [decide_eq_true List.mem_cons_self, decide_eq_true rfl, decide_eq_false n1, Bool.and_false, Bool.xor_false]
      · have : (k ∈ a :: l) ↔ k ∈ l := ⟨fun z => (List.mem_cons.mp z).resolve_left fun z => e z.symm, List.mem_cons_of_mem _⟩
        rw [decide_eq_false e, Bool.and_false, Bool.false_xor, decide_eq_decide.mpr this]
    rw [this, xsum_xor, xsum_point f (h a List.mem_cons_self), ih]
    rfl
end
variable {N : Net} {S : Nat → Bool}
end RM
namespace L2
open PySem PySem.Spec PyProof.Rows
theorem rev_no_len : typeLookup (Value.type "list_reverseiterator") (Str.ofString "__len__") = pure none := by kernel_rfl
theorem rev_has_hint : typeLookup (Value.type "list_reverseiterator") (Str.ofString "__length_hint__") = pure (some (Value.builtin "list_reverseiterator.__length_hint__")) := by kernel_rfl
section
variable {prog : Program} {w : World} {A : Around} {E : Value → Shared → Prop} {s : Shared} {I l : Addr}
theorem rev_hint {Q : Bool → Shared → Prop} (ht : s.TypeIs (.ref I) "list_reverseiterator") (q : Q false s) : wpAny (model prog w) A (Builtin.List.listLengthHint (.ref I)) Q E s := by
  unfold Builtin.List.listLengthHint
  refine wpAny_bind (wpAny_specialOf ht rev_no_len ?_)
  dsimp only
  rw [if_neg (by decide), if_neg (by decide)]
  refine wpAny_bind (wpAny_specialOf ht rev_has_hint ?_)
  dsimp only
  have e : splitId "list_reverseiterator.__length_hint__" = some ("list_reverseiterator", "__length_hint__") := by kernel_rfl
  rw [e]
  dsimp only
  refine wpAny_bind (wpAny_isInstance ht (b := true) (by kernel_rfl) ?_)
  rw [if_neg (by decide), if_pos (by decide), if_neg (by decide)]
  exact wpAny_pure q
theorem call_list_rev {items : Array Value} {Q : Value → Shared → Prop} (hh : A.handled = none) (hI : s.heap.get? I = some (revObj l (items.size - 1))) (hl : s.heap.IsList l items) (hne : l ≠ I) (hn : items.size ≤ sizeLine)
    (hQ : ∀ (h' : Heap) (tk : Nat) (acc : Array Value) (c : Nat), (∀ b o, b ≠ I → s.heap.get? b = some o → h'.get? b = some o) → h'.get? s.heap.objs.size = some { cls := .type "list", data := .seq acc c } → ItemsOf (fun i v => items[items.size - 1 - i]? = some v) acc items.size → Q (.ref s.heap.objs.size) { s with heap := h', toks := tk }) :
    wpAny (model prog w) A (call (.type "list") [.ref I]) Q E s := by
  refine callType_codes (Q₁ := fun obj s₁ => obj = .ref s.heap.objs.size ∧ s₁ = { s with heap := s.heap.push { cls := .type "list", data := .seq #[] } }) F.called_list (F.typeCall_list_1 (.ref I)) F.entry_list_init (code_list_new (.ref I) ⟨rfl, rfl⟩) fun obj s₁ h₁ => ?_
  obtain ⟨rfl, rfl⟩ := h₁
  have hS : (s.heap.push { cls := .type "list", data := .seq #[] }).get? s.heap.objs.size = some { cls := .type "list", data := .seq #[] } := Heap.get?_push_size s.heap rfl
  have hIlt := Heap.lt_size hI
  obtain ⟨ol, gl, cl, nl, dl'⟩ := hl
  have hllt := Heap.lt_size gl
  refine ⟨⟨_, hS, rfl⟩, F.args_list_init_2 _ _, ?_⟩
  refine wpAny_bind (wpAny_bind (wpAny_seqItems hS rfl (wpAny_pure ?_)))
  refine wpAny_bind (wpAny_updateSeq hS rfl ?_ (by rw [sizeLine_eq]; decide) (by rw [sizeLine_eq]; decide))
  refine wpAny_bind (wpAny_letGo ?_)
  have hS₂ := Heap.get?_update_self (Obj.mapSeq fun _ => #[]) hS rfl
  have oth : ∀ b o, b ≠ s.heap.objs.size → s.heap.get? b = some o → ((s.heap.push { cls := .type "list", data := .seq #[] }).update s.heap.objs.size (Obj.mapSeq fun _ => #[])).get? b = some o := fun b o hb e => (Heap.get?_update_other _ _ (Ne.symm hb)).trans (Heap.get?_push_of_some _ e)
  have hI2 := oth _ _ (Nat.ne_of_lt hIlt) hI
  have hl2 := oth _ _ (Nat.ne_of_lt hllt) gl
  generalize (s.heap.push { cls := .type "list", data := .seq #[] }).update s.heap.objs.size (Obj.mapSeq fun _ => #[]) = h2 at hS₂ oth hI2 hl2 ⊢
  show wpAny _ _ (Builtin.List.listExtendWith (.ref s.heap.objs.size) (.ref I) Value.none) _ _ { s with heap := h2 }
  have hT : Shared.TypeIs { s with heap := h2 } (.ref I) "list_reverseiterator" := ⟨_, hI2, rfl⟩
  unfold Builtin.List.listExtendWith
  refine wpAny_bind (wpAny_typeOf hT ?_)
  have hne2 : s.heap.objs.size ≠ I := Nat.ne_of_gt hIlt
  have hsr : Builtin.List.listSameRef (.ref s.heap.objs.size) (.ref I) = false := by
    unfold Builtin.List.listSameRef
    simp [hne2]
  rw [hsr, if_neg (by decide)]
  refine wpAny_bind (wpAny_pyIter_revIter ⟨_, hI2, rfl, rfl⟩ ?_)
  refine wpAny_bind (wpAny_holding (rev_hint hT ?_))
  dsimp only
  rw [if_neg (by decide)]
  refine wpAny_pure ⟨plainId_quiet F.plain_extend_loop _, ?_⟩
  have W := (Walks.listRev (prog := prog) (w := w) (A := A.in1.in1) (by exact hh) I l hne items).toS
  have hSl : s.heap.objs.size ≠ l := Nat.ne_of_gt hllt
  refine codeAny_extend_loopS W hn s.heap.objs.size (by simp [hne2, hSl]) Value.none items.size 0 _ #[] _ rfl (Nat.zero_le _) ⟨Nat.zero_le _, ⟨_, hI2, rfl, by simp [revObj]⟩, ⟨_, hl2, cl, nl, dl'⟩⟩ hS₂ (ItemsOf.nil _) fun s' acc c mv hS' hacc => ⟨rfl, ?_⟩
  rw [mv.eq_with]
  exact hQ s'.heap s'.toks acc c (fun b o hb e => mv.heap b o (by simp [hb, Nat.ne_of_lt (Heap.lt_size e)]) (oth b o (Nat.ne_of_lt (Heap.lt_size e)) e)) hS' hacc
end
theorem paired_end {α β : Type} {F : α → β → Prop} {x : α} {y : β} (h : F x y) : ∀ {l : List α} {r : List β}, Paired F l r → Paired F (l ++ [x]) (r ++ [y])
  | _, _, .nil => .cons h .nil
  | _, _, .cons h1 t => .cons h1 (paired_end h t)
theorem paired_rev {α β : Type} {F : α → β → Prop} : ∀ {l : List α} {r : List β}, Paired F l r → Paired F l.reverse r.reverse
  | _, _, .nil => .nil
  | _, _, .cons h t => by
    rw [List.reverse_cons, List.reverse_cons]
    exact paired_end h (paired_rev t)
def tListRev (K : PySem.W.Frag) (te : TE) : TE := fun σ H Q => te σ H fun x H1 => ∃ l vs, x = .ref l ∧ SqL K H1 l vs ∧ vs.length ≤ 900 ∧ ∀ D, H1 D = none → Q (.ref D) (upd H1 D (.lst vs.reverse))
section
variable {X : Cx}
theorem pe_listRev (K : PySem.W.Frag) {e : Expr} {te : TE} {p1 p2 pos1 pos2 : Pos} (hcm : X.calm = true) (hg1 : Gl X "list") (hm1 : X.mg "list" = none) (hg2 : Gl X "reversed") (hm2 : X.mg "reversed" = none) (he : PE X e te)
    (hs1 : starEach [.Call (.Name "reversed" p2) [e] [] pos2] X.env = [(false, eval (.Call (.Name "reversed" p2) [e] [] pos2) X.env)] := by rfl) (hs2 : starEach [e] X.env = [(false, eval e X.env)] := by rfl) (hK : X.K = K := by rfl) :
    PE X (.Call (.Name "list" p1) [.Call (.Name "reversed" p2) [e] [] pos2] [] pos1) (tListRev K te) := by
  subst hK
  intro pins s σ H Q I h
  refine wpAny_Call_Name_kw (ld_blt I hg1 hm1 PyProof.Rows.boot_list ?_)
  refine PyProof.Rows.callWith_type1 ?_ hs1 rfl
  rw [hs1]
  show wpAny _ _ (spliced ((false, eval (.Call (.Name "reversed" p2) [e] [] pos2) X.env) :: backTo pos1 [])) _ _ s
  refine Calls.spliced_cons ?_
  refine wpAny_Call_Name_kw (ld_blt I hg2 hm2 PyProof.Rows.boot_reversed ?_)
  refine PyProof.Rows.callWith_type1 ?_ hs2 rfl
  rw [hs2]
  show wpAny _ _ (spliced ((false, eval e X.env) :: backTo pos2 [])) _ _ s
  refine Calls.spliced_cons (thn (he pins s σ H _ I h) fun u s1 ⟨x, H1, I1, r1, l, vs, ex, hq, hv, q1⟩ => ?_)
  subst ex
  cases r1
  refine Calls.spliced_nil ?_
  obtain ⟨its, rv, ⟨o, n, ho, hc, hdt, hd⟩, hz⟩ := I1.list hq
  have hlen : vs.length = its.length := rv.length
  have hsl : its.length ≤ sizeLine := Nat.le_of_lt (small1000 (by (first | lia | omega)))
  refine call_reversed_list ⟨o, ho, hc, n, hd⟩ ?_
  refine Calls.spliced_nil ?_
  have hlt := Heap.lt_size ho
  have hpI : (s1.heap.push (revObj l (its.toArray.size - 1))).get? s1.heap.objs.size = some (revObj l (its.toArray.size - 1)) := Heap.get?_push_size s1.heap rfl
  refine call_list_rev (items := its.toArray) (I1.ok.hd hcm) hpI ⟨o, Heap.get?_push_of_some _ ho, hc, n, hd⟩ (Nat.ne_of_lt hlt) (by rw [List.size_toArray]; exact hsl) fun h' tk acc c hk hget hacc => ?_
  have hsz : s1.heap.objs.size ≤ (s1.heap.push (revObj l (its.toArray.size - 1))).objs.size := by rw [size_push']; exact Nat.le_succ _
  have hacc1 : acc.toList = its.reverse := by
    refine List.ext_getElem? fun j => ?_
    have a1 : acc.size = its.length := hacc.1.trans (List.size_toArray)
    have a2 := hacc.2
    by_cases hj : j < its.length
    · have hja : j < acc.size := by (first | lia | omega)
      have h1 := a2 j acc[j] (Array.getElem?_eq_getElem hja)
      rw [List.size_toArray, List.getElem?_toArray] at h1
      rw [Array.getElem?_toList, Array.getElem?_eq_getElem hja, List.getElem?_reverse hj, h1]
    · rw [List.getElem?_eq_none (by rw [Array.length_toList]; (first | lia | omega)), List.getElem?_eq_none (by rw [List.length_reverse]; (first | lia | omega))]
  refine ⟨.ref (s1.heap.push (revObj l (its.toArray.size - 1))).objs.size, _, I1.laid (t' := tk) (o := .lst vs.reverse) (fun b o' hb => hk b o' (Nat.ne_of_lt (Heap.lt_size hb)) (Heap.get?_push_of_some _ hb)) hsz ⟨by rw [List.length_reverse, hlen]; exact hsl, acc.toList, c, by rw [hacc1]; exact paired_rev rv, by
    have : acc.toList.toArray = acc := by simp
    rw [this]
    exact hget⟩, rfl, q1 _ (I1.hok.fresh hsz)⟩
end
end L2
namespace RM
section
variable {N : Net} {L : Nat → Int}
theorem Base.span {rs : List Nat} (h : Base N rs) {e : Nat} (he : N.Even e) (hl : e < 2 ^ N.n) : ∃ z, z < 2 ^ rs.length ∧ comb rs z = e := by
  apply sp_comb
  apply Classical.byContradiction
  intro hn
  have h1 : Ind (rs ++ [e]) := ind_snoc.mpr ⟨h.ind, hn⟩
  have h2 := ind_le (N := N) h1 (fun b hb => by
    rcases List.mem_append.mp hb with z | z
    · exact ⟨(h.ring b z).1.2.1, (h.ring b z).2⟩
    · rw [List.mem_singleton.mp z]; exact ⟨he, hl⟩)
  rw [List.length_append, List.length_singleton, h.len] at h2
  (first | lia | omega)
end
open Ring (maskOf mask_bit mask_lt)
theorem xsum_row {F : Nat → Bool} {n : Nat} {row : List Nat} (hp : row.Perm (List.range n)) : xsum F n = row.foldr (fun k acc => F k ^^ acc) false := by
  rw [← xsum_list F n (hp.nodup_iff.mpr List.nodup_range) fun k hk => List.mem_range.mp (hp.mem_iff.mp hk)]
  exact xsum_congr fun k hk => by rw [decide_eq_true (hp.mem_iff.mpr (List.mem_range.mpr hk)), Bool.and_true]
theorem xsum_map {F : Nat → Bool} {f : Nat → Nat} {n : Nat} (hp : ((List.range n).map f).Perm (List.range n)) : xsum (fun i => F (f i)) n = xsum F n := by
  have e1 : xsum F n = _ := xsum_row hp
  have e2 : xsum (fun i => F (f i)) n = _ := xsum_row (List.Perm.refl _)
  rw [e1, e2, List.foldr_map]
structure Iso (N N' : Net) (f g : Nat → Nat) : Prop where
  n : N'.n = N.n
  p : N'.p = N.p
  fl : ∀ i, i < N.n → f i < N.n
  gl : ∀ i, i < N.n → g i < N.n
  fg : ∀ i, i < N.n → f (g i) = i
  gf : ∀ i, i < N.n → g (f i) = i
  inc : ∀ i x, i < N.n → N'.inc i x = N.inc (f i) x
section
variable {N N' : Net} {f g : Nat → Nat}
theorem Iso.symm (h : Iso N N' f g) : Iso N' N g f := ⟨h.n.symm, h.p.symm, by rw [h.n]; exact h.gl, by rw [h.n]; exact h.fl, by rw [h.n]; exact h.gf, by rw [h.n]; exact h.fg, fun i x hi => by
  rw [h.n] at hi
  rw [h.inc (g i) x (h.gl i hi), h.fg i hi]⟩
theorem Iso.perm (h : Iso N N' f g) : ((List.range N.n).map f).Perm (List.range N.n) := by
  refine (List.perm_ext_iff_of_nodup ?_ List.nodup_range).mpr fun k => ?_
  · refine List.pairwise_map.mpr (List.Pairwise.imp_of_mem (fun {i j} hi hj hne e => ?_) List.nodup_range)
    have := congrArg g e
    rw [h.gf i (List.mem_range.mp hi), h.gf j (List.mem_range.mp hj)] at this
    exact hne this
  · rw [List.mem_map, List.mem_range]
    constructor
    · rintro ⟨i, hi, rfl⟩
      exact h.fl i (List.mem_range.mp hi)
    · exact fun hk => ⟨g k, List.mem_range.mpr (h.gl k hk), h.fg k hk⟩
def turnS (n : Nat) (f : Nat → Nat) (m : Nat) : Nat := maskOf (fun i => m.testBit (f i)) n
theorem turn_bit (n : Nat) (f : Nat → Nat) (m i : Nat) : (turnS n f m).testBit i = (decide (i < n) && m.testBit (f i)) := mask_bit _ _ _
theorem turn_lt (n : Nat) (f : Nat → Nat) (m : Nat) : turnS n f m < 2 ^ n := mask_lt _ _
theorem turn_xor (n : Nat) (f : Nat → Nat) (a b : Nat) : turnS n f (a ^^^ b) = turnS n f a ^^^ turnS n f b := Nat.eq_of_testBit_eq fun i => by
  rw [Nat.testBit_xor, turn_bit, turn_bit, turn_bit, Nat.testBit_xor]
  cases decide (i < n) <;> simp
theorem turn_zero (n : Nat) (f : Nat → Nat) : turnS n f 0 = 0 := Nat.eq_of_testBit_eq fun i => by
  rw [turn_bit, Nat.zero_testBit, Bool.and_false, Nat.zero_testBit]
theorem Iso.back (h : Iso N N' f g) {m : Nat} (hm : m < 2 ^ N.n) : turnS N.n g (turnS N.n f m) = m := Nat.eq_of_testBit_eq fun k => by
  rw [turn_bit, turn_bit]
  by_cases hk : k < N.n
  · rw [decide_eq_true hk, decide_eq_true (h.gl k hk), h.fg k hk]
    rfl
  · rw [decide_eq_false hk, Bool.false_and]
    cases hb : m.testBit k with
    | false => rfl
    | true => exact absurd (bits_lt hm hb) hk
theorem Iso.even (h : Iso N N' f g) {m : Nat} (ev : N.Even m) : N'.Even (turnS N.n f m) := fun x hx => by
  rw [h.p] at hx
  rw [← ev x hx]
  unfold Net.bd
  rw [h.n, ← xsum_map (F := fun k => m.testBit k && N.inc k x) h.perm]
  exact xsum_congr fun i hi => by rw [turn_bit, decide_eq_true hi, Bool.true_and, h.inc i x hi]
theorem Iso.ring (h : Iso N N' f g) {m : Nat} (hm : m < 2 ^ N.n) (r : N.Ring m) : N'.Ring (turnS N.n f m) := by
  refine ⟨fun e => r.1 ?_, h.even r.2.1, fun q hq ev => ?_⟩
  · have := h.back hm
    rw [e, turn_zero] at this
    exact this.symm
  · have ql : q < 2 ^ N.n := lt_of_bits fun k hk => by
      have := hq k hk
      rw [turn_bit] at this
      exact of_decide_eq_true (Bool.and_eq_true_iff.mp this).1
    have ev2 : N.Even (turnS N.n g q) := by
      have := h.symm.even ev
      rwa [h.n] at this
    have bk : turnS N.n f (turnS N.n g q) = q := by
      have := h.symm.back (m := q) (by rw [h.n]; exact ql)
      rwa [h.n] at this
    rcases r.2.2 (turnS N.n g q) (fun k hk => by
      rw [turn_bit] at hk
      obtain ⟨h1, h2⟩ := Bool.and_eq_true_iff.mp hk
      have := hq _ h2
      rw [turn_bit, h.fg k (of_decide_eq_true h1)] at this
      exact (Bool.and_eq_true_iff.mp this).2) ev2 with e | e
    · rw [e, turn_zero] at bk
      exact .inl bk.symm
    · rw [e] at bk
      exact .inr bk.symm
theorem turn_comb (n : Nat) (f : Nat → Nat) : ∀ (B : List Nat) (z : Nat), comb (B.map (turnS n f)) z = turnS n f (comb B z)
  | [], _ => (turn_zero n f).symm
  | b :: B, z => by
    show (if z.testBit 0 = true then turnS n f b else 0) ^^^ comb (B.map (turnS n f)) (z / 2) = turnS n f ((if z.testBit 0 = true then b else 0) ^^^ comb B (z / 2))
    rw [turn_xor, turn_comb n f B]
    split
    · rfl
    · rw [turn_zero]
theorem Iso.ind (h : Iso N N' f g) {B : List Nat} (hl : ∀ b ∈ B, b < 2 ^ N.n) (hi : Ind B) : Ind (B.map (turnS N.n f)) := fun z hz e => by
  rw [List.length_map] at hz
  rw [turn_comb] at e
  refine hi z hz ?_
  have := h.back (m := comb B z) ((comb_sp B z).lt hl)
  rw [e, turn_zero] at this
  exact this.symm
end
end RM
namespace Ring
open PySem L2
def permT (ts : List Tie) (row : List Nat) : List Tie := row.map (tieAt ts)
section
variable {p : Nat} {ts : List Tie} {row : List Nat}
theorem perm_good (g : GoodWeb p ts) (hr : row.Perm (List.range ts.length)) : GoodWeb p (permT ts row) := by
  refine ⟨g.p1, g.p2, ?_, fun t ht => ?_⟩
  · unfold permT
    rw [List.length_map, hr.length_eq, List.length_range]
    exact g.len
  · obtain ⟨k, hk, rfl⟩ := List.mem_map.mp ht
    exact g.ties _ (tieAt_mem (List.mem_range.mp (hr.mem_iff.mp hk)))
theorem perm_at {i : Nat} (hi : i < row.length) : tieAt (permT ts row) i = tieAt ts (row.getD i 0) := by
  have e : row.getD i 0 = row[i] := by rw [List.getD_eq_getElem?_getD, List.getElem?_eq_getElem hi]; rfl
  rw [e]
  show (row.map (tieAt ts)).getD i _ = _
  rw [List.getD_eq_getElem?_getD, List.getElem?_map, List.getElem?_eq_getElem hi]
  rfl
theorem perm_iso (g : GoodWeb p ts) (hr : row.Perm (List.range ts.length)) (g' : GoodWeb p (permT ts row)) : RM.Iso (netOf p ts g) (netOf p (permT ts row) g') (fun i => row.getD i 0) (fun k => row.idxOf k) := by
  have rl : row.length = ts.length := by rw [hr.length_eq, List.length_range]
  have al : (permT ts row).length = ts.length := by unfold permT; rw [List.length_map, rl]
  have nd : row.Nodup := hr.nodup_iff.mpr List.nodup_range
  have get : ∀ i, i < ts.length → row.getD i 0 ∈ row := fun i hi => by
    rw [List.getD_eq_getElem?_getD, List.getElem?_eq_getElem (by (first | lia | omega))]
    exact List.getElem_mem _
  have mem : ∀ k, k < ts.length → k ∈ row := fun k hk => hr.mem_iff.mpr (List.mem_range.mpr hk)
  refine ⟨al, rfl, fun i hi => List.mem_range.mp (hr.mem_iff.mp (get i hi)), fun k hk => ?_, fun k hk => ?_, fun i hi => ?_, fun i x hi => ?_⟩
  · have := List.idxOf_lt_length_of_mem (mem k hk)
    show row.idxOf k < ts.length
    (first | lia | omega)
  · have := List.idxOf_lt_length_of_mem (mem k hk)
    show row.getD (row.idxOf k) 0 = k
    rw [List.getD_eq_getElem?_getD, List.getElem?_eq_getElem this]
    exact List.getElem_idxOf this
  · show row.idxOf (row.getD i 0) = i
    have hi : i < row.length := by have : i < ts.length := hi; (first | lia | omega)
    rw [List.getD_eq_getElem?_getD, List.getElem?_eq_getElem hi]
    exact List.Nodup.idxOf_getElem nd i hi
  · have hi : i < row.length := by have : i < ts.length := hi; (first | lia | omega)
    have e := perm_at (ts := ts) hi
    show (decide ((tieAt (permT ts row) i).1.toNat = x) ^^ decide ((tieAt (permT ts row) i).2.1.toNat = x)) = (decide ((tieAt ts (row.getD i 0)).1.toNat = x) ^^ decide ((tieAt ts (row.getD i 0)).2.1.toNat = x))
    rw [e]
end
end Ring
namespace Dt
def su : Nat → (Nat → Int) → Int
  | 0, _ => 0
  | n + 1, f => su n f + f n
theorem su_congr : ∀ {n : Nat} {f g : Nat → Int}, (∀ i, i < n → f i = g i) → su n f = su n g
  | 0, _, _, _ => rfl
  | n + 1, f, g, h => by
    show su n f + f n = su n g + g n
    rw [su_congr (n := n) (fun i hi => h i (by (first | lia | omega))), h n (by (first | lia | omega))]
theorem su_lin (a b : Int) (f g : Nat → Int) : ∀ n, su n (fun i => a * f i + b * g i) = a * su n f + b * su n g
  | 0 => by simp [su]
  | n + 1 => by
    show su n (fun i => a * f i + b * g i) + (a * f n + b * g n) = a * (su n f + f n) + b * (su n g + g n)
    rw [su_lin a b f g n]
    grind
theorem su_zero : ∀ {n : Nat} {f : Nat → Int}, (∀ i, i < n → f i = 0) → su n f = 0
  | 0, _, _ => rfl
  | n + 1, f, h => by
    show su n f + f n = 0
    rw [su_zero (n := n) (fun i hi => h i (by (first | lia | omega))), h n (by (first | lia | omega))]
    rfl
theorem su_one {n r : Nat} {f : Nat → Int} (hr : r < n) (h : ∀ i, i < n → i ≠ r → f i = 0) : su n f = f r := by
  induction n with
  | zero => (first | lia | omega)
  | succ n ih =>
    show su n f + f n = f r
    by_cases e : r = n
    · subst e
      rw [su_zero fun i hi => h i (by (first | lia | omega)) (by (first | lia | omega))]
      (first | lia | omega)
    · rw [ih (by (first | lia | omega)) fun i hi hn => h i (by (first | lia | omega)) hn, h n (by (first | lia | omega)) (Ne.symm e)]
      (first | lia | omega)
theorem su_two {n r : Nat} {f : Nat → Int} (hr : r + 1 < n) (h : ∀ i, i < n → i ≠ r → i ≠ r + 1 → f i = 0) : su n f = f r + f (r + 1) := by
  induction n with
  | zero => (first | lia | omega)
  | succ n ih =>
    show su n f + f n = f r + f (r + 1)
    by_cases e : r + 1 = n
    · subst e
      rw [su_one (r := r) (by (first | lia | omega)) fun i hi hn => h i (by (first | lia | omega)) hn (by (first | lia | omega))]
    · rw [ih (by (first | lia | omega)) fun i hi hn hm => h i (by (first | lia | omega)) hn hm, h n (by (first | lia | omega)) (by (first | lia | omega)) (Ne.symm e)]
      (first | lia | omega)
abbrev Mx := Nat → Nat → Int
def sg (i : Nat) : Int := if i % 2 = 0 then 1 else -1
theorem sg_succ (i : Nat) : sg (i + 1) = - sg i := by
  unfold sg
  by_cases h : i % 2 = 0
  · rw [if_pos h, if_neg (by (first | lia | omega))]
  · rw [if_neg h, if_pos (by (first | lia | omega))]; rfl
def sk (i r : Nat) : Nat := if r < i then r else r + 1
def mn (M : Mx) (i : Nat) : Mx := fun r c => M (sk i r) (c + 1)
def det : Nat → Mx → Int
  | 0, _ => 1
  | n + 1, M => su (n + 1) fun i => sg i * M i 0 * det n (mn M i)
theorem det_congr : ∀ {n : Nat} {M M' : Mx}, (∀ r c, r < n → c < n → M r c = M' r c) → det n M = det n M'
  | 0, _, _, _ => rfl
  | n + 1, M, M', h => by
    refine su_congr fun i hi => ?_
    rw [h i 0 hi (by (first | lia | omega)), det_congr (n := n) (M := mn M i) (M' := mn M' i) fun r c hr hc => ?_]
    unfold mn sk
    split <;> exact h _ _ (by (first | lia | omega)) (by (first | lia | omega))
theorem det_lin : ∀ {n : Nat} {M A B : Mx} {r : Nat} (a b : Int), r < n → (∀ i c, i ≠ r → M i c = A i c) → (∀ i c, i ≠ r → M i c = B i c) → (∀ c, M r c = a * A r c + b * B r c) → det n M = a * det n A + b * det n B
  | 0, _, _, _, _, _, _, h, _, _, _ => by (first | lia | omega)
  | n + 1, M, A, B, r, a, b, hr, hA, hB, h => by
    show su (n + 1) _ = a * su (n + 1) _ + b * su (n + 1) _
    rw [← su_lin]
    refine su_congr fun i hi => ?_
    by_cases e : i = r
    · subst e
      have e1 : det n (mn M i) = det n (mn A i) := det_congr fun x c _ _ => hA _ _ (by unfold sk; split <;> (first | lia | omega))
      have e2 : det n (mn M i) = det n (mn B i) := det_congr fun x c _ _ => hB _ _ (by unfold sk; split <;> (first | lia | omega))
      rw [h 0, ← e1, ← e2]
      grind
    · have e3 : det n (mn M i) = a * det n (mn A i) + b * det n (mn B i) := by
        refine det_lin (r := if r < i then r else r - 1) a b (by split <;> (first | lia | omega)) (fun x c hx => ?_) (fun x c hx => ?_) (fun c => ?_)
        · refine hA _ _ ?_
          unfold sk
          split at hx <;> split <;> (first | lia | omega)
        · refine hB _ _ ?_
          unfold sk
          split at hx <;> split <;> (first | lia | omega)
        · have z : sk i (if r < i then r else r - 1) = r := by
            unfold sk
            split <;> (try split) <;> (first | lia | omega)
          show M (sk i _) _ = a * A (sk i _) _ + b * B (sk i _) _
          rw [z]
          exact h _
      rw [e3, hA i 0 e]
      have e4 : A i 0 = B i 0 := by rw [← hA i 0 e, hB i 0 e]
      rw [← e4]
      grind
theorem det_adj : ∀ {n : Nat} {M : Mx} {r : Nat}, r + 1 < n → (∀ c, M r c = M (r + 1) c) → det n M = 0
  | 0, _, _, h, _ => by (first | lia | omega)
  | n + 1, M, r, hr, h => by
    show su (n + 1) _ = 0
    rw [su_two (r := r) hr fun i hi h1 h2 => ?_]
    · have e : det n (mn M r) = det n (mn M (r + 1)) := det_congr fun x c _ _ => by
        show M (sk r x) _ = M (sk (r + 1) x) _
        unfold sk
        by_cases e1 : x < r
        · rw [if_pos e1, if_pos (by (first | lia | omega))]
        · rw [if_neg e1]
          by_cases e2 : x = r
          · subst e2
            rw [if_pos (by (first | lia | omega))]
            exact (h _).symm
          · rw [if_neg (by (first | lia | omega))]
      rw [sg_succ, e, h 0]
      grind
    · have z : det n (mn M i) = 0 := by
        refine det_adj (r := if r < i then r else r - 1) (by split <;> (first | lia | omega)) fun c => ?_
        show M (sk i _) _ = M (sk i _) _
        have z1 : sk i (if r < i then r else r - 1) = r := by unfold sk; split <;> (try split) <;> (first | lia | omega)
        have z2 : sk i ((if r < i then r else r - 1) + 1) = r + 1 := by unfold sk; split <;> (try split) <;> (first | lia | omega)
        rw [z1, z2]
        exact h _
      rw [z]
      grind
def put (M : Mx) (r : Nat) (v : Nat → Int) : Mx := fun i c => if i = r then v c else M i c
theorem put_same (M : Mx) (r : Nat) (v : Nat → Int) (c : Nat) : put M r v r c = v c := if_pos rfl
theorem put_ne (M : Mx) {r i : Nat} (v : Nat → Int) (c : Nat) (h : i ≠ r) : put M r v i c = M i c := if_neg h
def sw (M : Mx) (r s : Nat) : Mx := put (put M r (M s)) s (M r)
theorem det_sw1 {n : Nat} {M : Mx} {r : Nat} (hr : r + 1 < n) : det n (sw M r (r + 1)) = - det n M := by
  have S : ∀ u v : Nat → Int, ∀ w, (det n (put (put M r (fun c => u c + v c)) (r + 1) w)) = det n (put (put M r u) (r + 1) w) + det n (put (put M r v) (r + 1) w) := fun u v w => by
    have := det_lin (n := n) (M := put (put M r (fun c => u c + v c)) (r + 1) w) (A := put (put M r u) (r + 1) w) (B := put (put M r v) (r + 1) w) (r := r) 1 1 (by (first | lia | omega)) (fun i c h => by unfold put; split <;> simp [h]) (fun i c h => by unfold put; split <;> simp [h]) (fun c => by simp [put])
    (first | lia | omega)
  have S2 : ∀ u v : Nat → Int, ∀ w, (det n (put (put M r w) (r + 1) (fun c => u c + v c))) = det n (put (put M r w) (r + 1) u) + det n (put (put M r w) (r + 1) v) := fun u v w => by
    have := det_lin (n := n) (M := put (put M r w) (r + 1) (fun c => u c + v c)) (A := put (put M r w) (r + 1) u) (B := put (put M r w) (r + 1) v) (r := r + 1) 1 1 (by (first | lia | omega)) (fun i c h => by simp [put, h]) (fun i c h => by simp [put, h]) (fun c => by simp [put])
    (first | lia | omega)
  have Z : ∀ u : Nat → Int, det n (put (put M r u) (r + 1) u) = 0 := fun u => det_adj hr fun c => by simp [put]
  have h0 := Z (fun c => M r c + M (r + 1) c)
  rw [S, S2, S2, Z (M r), Z (M (r + 1))] at h0
  have e : det n (put (put M r (M r)) (r + 1) (M (r + 1))) = det n M := det_congr fun i c _ _ => by
    unfold put
    by_cases h1 : i = r + 1
    · rw [if_pos h1, h1]
    · rw [if_neg h1]
      by_cases h2 : i = r
      · rw [if_pos h2, h2]
      · rw [if_neg h2]
  unfold sw
  (first | lia | omega)
theorem det_alike {n : Nat} : ∀ (d : Nat) {M : Mx} {r : Nat}, r + d + 1 < n → (∀ c, M r c = M (r + d + 1) c) → det n M = 0
  | 0, M, r, hr, h => det_adj hr h
  | d + 1, M, r, hr, h => by
    have e := det_sw1 (n := n) (M := M) (r := r) (by (first | lia | omega))
    have z : det n (sw M r (r + 1)) = 0 := by
      refine det_alike d (r := r + 1) (by (first | lia | omega)) fun c => ?_
      have e1 : sw M r (r + 1) (r + 1) c = M r c := put_same _ _ _ _
      have e2 : sw M r (r + 1) (r + 1 + d + 1) c = M (r + 1 + d + 1) c := by
        unfold sw
        rw [put_ne _ _ _ (by (first | lia | omega)), put_ne _ _ _ (by (first | lia | omega))]
      rw [e1, e2, h c]
      congr 1
      (first | lia | omega)
    (first | lia | omega)
theorem det_alike' {n : Nat} {M : Mx} {r s : Nat} (hr : r < n) (hs : s < n) (hn : r ≠ s) (h : ∀ c, M r c = M s c) : det n M = 0 := by
  by_cases e : r < s
  · refine det_alike (s - r - 1) (r := r) (by (first | lia | omega)) fun c => ?_
    have z : r + (s - r - 1) + 1 = s := by (first | lia | omega)
    rw [z]
    exact h c
  · refine det_alike (r - s - 1) (r := s) (by (first | lia | omega)) fun c => ?_
    have z : s + (r - s - 1) + 1 = r := by (first | lia | omega)
    rw [z]
    exact (h c).symm
theorem det_sw {n : Nat} {M : Mx} {r s : Nat} (hr : r < n) (hs : s < n) (hn : r ≠ s) : det n (sw M r s) = - det n M := by
  have A1 : ∀ u v w : Nat → Int, det n (put (put M r fun c => u c + v c) s w) = det n (put (put M r u) s w) + det n (put (put M r v) s w) := fun u v w => by
    have := det_lin (n := n) (M := put (put M r fun c => u c + v c) s w) (A := put (put M r u) s w) (B := put (put M r v) s w) (r := r) 1 1 hr (fun i c h => by unfold put; split <;> simp [h]) (fun i c h => by unfold put; split <;> simp [h]) (fun c => by simp [put, hn])
    (first | lia | omega)
  have A2 : ∀ u v w : Nat → Int, det n (put (put M r w) s fun c => u c + v c) = det n (put (put M r w) s u) + det n (put (put M r w) s v) := fun u v w => by
    have := det_lin (n := n) (M := put (put M r w) s fun c => u c + v c) (A := put (put M r w) s u) (B := put (put M r w) s v) (r := s) 1 1 hs (fun i c h => by simp [put, h]) (fun i c h => by simp [put, h]) (fun c => by simp [put])
    (first | lia | omega)
  have Z : ∀ u : Nat → Int, det n (put (put M r u) s u) = 0 := fun u => det_alike' hr hs hn fun c => by simp [put]
  have h0 := Z (fun c => M r c + M s c)
  rw [A1, A2, A2, Z (M r), Z (M s)] at h0
  have e : det n (put (put M r (M r)) s (M s)) = det n M := det_congr fun i c _ _ => by
    unfold put
    by_cases h1 : i = s
    · rw [if_pos h1, h1]
    · rw [if_neg h1]
      by_cases h2 : i = r
      · rw [if_pos h2, h2]
      · rw [if_neg h2]
  unfold sw
  (first | lia | omega)
def pr : Nat → Mx → Int
  | 0, _ => 1
  | n + 1, M => M 0 0 * pr n fun r c => M (r + 1) (c + 1)
theorem det_tri : ∀ {n : Nat} {M : Mx}, (∀ r c, r < n → c < r → M r c = 0) → det n M = pr n M
  | 0, _, _ => rfl
  | n + 1, M, h => by
    show su (n + 1) _ = M 0 0 * pr n _
    rw [su_one (r := 0) (by (first | lia | omega)) fun i hi hn => by rw [h i 0 hi (by (first | lia | omega))]; simp]
    have e : mn M 0 = fun r c => M (r + 1) (c + 1) := rfl
    rw [e, det_tri (n := n) fun r c hr hc => h (r + 1) (c + 1) (by (first | lia | omega)) (by (first | lia | omega))]
    show (1 : Int) * _ * _ = _
    rw [Int.one_mul]
theorem det_comb {n : Nat} {M : Mx} {r : Nat} (a : Int) (c : Nat → Int) (hr : r < n) : ∀ k, k ≤ r → det n (put M r fun j => a * M r j + su k fun l => c l * M l j) = a * det n M
  | 0, _ => by
    have h := det_lin (n := n) (M := put M r fun j => a * M r j + su 0 fun l => c l * M l j) (A := M) (B := M) (r := r) a 0 hr (fun i c h => put_ne _ _ _ h) (fun i c h => put_ne _ _ _ h) (fun c => by rw [put_same]; simp [su])
    rw [h]
    (first | lia | omega)
  | k + 1, hk => by
    have h := det_lin (n := n) (M := put M r fun j => a * M r j + su (k + 1) fun l => c l * M l j) (A := put M r fun j => a * M r j + su k fun l => c l * M l j) (B := put M r (M k)) (r := r) 1 (c k) hr (fun i c h => by rw [put_ne _ _ _ h, put_ne _ _ _ h]) (fun i c h => by rw [put_ne _ _ _ h, put_ne _ _ _ h]) (fun j => by
      rw [put_same, put_same, put_same]
      show a * M r j + (su k (fun l => c l * M l j) + c k * M k j) = 1 * (a * M r j + su k fun l => c l * M l j) + c k * M k j
      (first | lia | omega))
    have z : det n (put M r (M k)) = 0 := det_alike' (r := r) (s := k) hr (by (first | lia | omega)) (by (first | lia | omega)) fun c => by rw [put_same, put_ne _ _ _ (by (first | lia | omega))]
    rw [h, z, det_comb a c hr k (by (first | lia | omega))]
    (first | lia | omega)
theorem det_last : ∀ {k : Nat} {M : Mx}, (∀ c, c < k → M k c = 0) → det (k + 1) M = det k M * M k k
  | 0, M, _ => by
    show (0 : Int) + sg 0 * M 0 0 * 1 = 1 * M 0 0
    have : sg 0 = 1 := rfl
    rw [this]
    (first | lia | omega)
  | k + 1, M, h => by
    show su (k + 1) (fun i => sg i * M i 0 * det (k + 1) (mn M i)) + sg (k + 1) * M (k + 1) 0 * det (k + 1) (mn M (k + 1)) = su (k + 1) (fun i => sg i * M i 0 * det k (mn M i)) * M (k + 1) (k + 1)
    rw [h 0 (by (first | lia | omega))]
    have e : su (k + 1) (fun i => sg i * M i 0 * det (k + 1) (mn M i)) = su (k + 1) (fun i => M (k + 1) (k + 1) * (sg i * M i 0 * det k (mn M i)) + 0 * 0) := su_congr fun i hi => by
      have e1 : ∀ c, mn M i k c = M (k + 1) (c + 1) := fun c => by
        show M (sk i k) _ = _
        unfold sk
        rw [if_neg (by (first | lia | omega))]
      rw [det_last (k := k) (M := mn M i) fun c hc => by rw [e1]; exact h _ (by (first | lia | omega)), e1]
      grind
    rw [e, su_lin (M (k + 1) (k + 1)) 0 _ (fun _ => 0)]
    grind
def pt (A : Mx) (k i j : Nat) : Mx := fun r c => A (if r < k then r else i) (if c < k then c else j)
def md (A : Mx) (k i j : Nat) : Int := det (k + 1) (pt A k i j)
def lm (A : Mx) (k : Nat) : Int := det k A
theorem lm_succ (A : Mx) (k : Nat) : md A k k k = lm A (k + 1) := det_congr fun r c hr hc => by
  unfold pt
  have e1 : (if r < k then r else k) = r := by split <;> (first | lia | omega)
  have e2 : (if c < k then c else k) = c := by split <;> (first | lia | omega)
  rw [e1, e2]
theorem comb_md {A : Mx} {k i : Nat} {v c : Nat → Int} {q a : Int} (hq : ∀ j, q * v j = a * A i j + su k fun l => c l * A l j) (hz : ∀ j, j < k → v j = 0) (j : Nat) : lm A k * (q * v j) = a * md A k i j := by
  have h := det_comb (n := k + 1) (M := pt A k i j) (r := k) a c (by (first | lia | omega)) k (Nat.le_refl _)
  unfold md
  rw [← h]
  have e : ∀ x, put (pt A k i j) k (fun y => a * pt A k i j k y + su k fun l => c l * pt A k i j l y) k x = q * v (if x < k then x else j) := fun x => by
    rw [put_same, hq]
    have e1 : pt A k i j k x = A i (if x < k then x else j) := by unfold pt; rw [if_neg (by (first | lia | omega))]
    rw [e1]
    congr 1
    exact su_congr fun l hl => by unfold pt; rw [if_pos hl]
  rw [det_last (k := k) fun x hx => by rw [e, if_pos hx, hz x hx, Int.mul_zero], e, if_neg (by (first | lia | omega))]
  congr 1
  refine det_congr fun r x hr hx => ?_
  rw [put_ne _ _ _ (by (first | lia | omega))]
  unfold pt
  rw [if_pos hr, if_pos hx]
def Red (A : Mx) (k i : Nat) (v : Nat → Int) : Prop := (∀ j, j < k → v j = 0) ∧ ∃ (q : Int) (c : Nat → Int), q ≠ 0 ∧ ∀ j, q * v j = (q * lm A k) * A i j + su k fun l => c l * A l j
theorem Red.eq {A : Mx} {k i : Nat} {v : Nat → Int} (h : Red A k i v) (hp : lm A k ≠ 0) (j : Nat) : v j = md A k i j := by
  obtain ⟨hz, q, c, q0, hq⟩ := h
  have e := comb_md (a := q * lm A k) hq hz j
  have e2 : (lm A k * q) * v j = (lm A k * q) * md A k i j := by grind
  exact Int.eq_of_mul_eq_mul_left (Int.mul_ne_zero hp q0) e2
theorem Red.zero (A : Mx) (i : Nat) : Red A 0 i (A i) := ⟨fun j h => by (first | lia | omega), 1, fun _ => 0, by decide, fun j => by
  show 1 * A i j = (1 * 1) * A i j + 0
  (first | lia | omega)⟩
theorem Red.step {A : Mx} {k i : Nat} {v w : Nat → Int} (hv : Red A k i v) (hw : Red A k k w) (hp : lm A k ≠ 0) (hl : w k ≠ 0) :
    (∀ j, w k * v j - v k * w j = lm A k * md A (k + 1) i j) ∧ Red A (k + 1) i (fun j => (w k * v j - v k * w j) / lm A k) := by
  have ew : w k = lm A (k + 1) := by rw [hw.eq hp, lm_succ]
  obtain ⟨zv, q, c, q0, hq⟩ := hv
  obtain ⟨zw, q', c', q0', hq'⟩ := hw
  have hx : ∀ j, (q * q') * (w k * v j - v k * w j) = ((q * q') * (w k * lm A k)) * A i j + su (k + 1) fun l => (if l = k then - (v k * q * q' * lm A k) else w k * q' * c l - v k * q * c' l) * A l j := fun j => by
    have h1 := hq j
    have h2 := hq' j
    have e : su (k + 1) (fun l => (if l = k then - (v k * q * q' * lm A k) else w k * q' * c l - v k * q * c' l) * A l j) = ((w k * q') * su k (fun l => c l * A l j) + (- (v k * q)) * su k (fun l => c' l * A l j)) + (- (v k * q * q' * lm A k)) * A k j := by
      rw [← su_lin]
      show su k _ + (if k = k then - (v k * q * q' * lm A k) else w k * q' * c k - v k * q * c' k) * A k j = _
      rw [if_pos rfl]
      congr 1
      exact su_congr fun l hl => by rw [if_neg (by (first | lia | omega))]; grind
    rw [e]
    have h3 : (q * q') * (w k * v j - v k * w j) = (w k * q') * (q * v j) - (v k * q) * (q' * w j) := by grind
    rw [h3, h1, h2]
    grind
  have zx : ∀ j, j < k + 1 → w k * v j - v k * w j = 0 := fun j hj => by
    by_cases e : j = k
    · subst e; grind
    · rw [zv j (by (first | lia | omega)), zw j (by (first | lia | omega))]; (first | lia | omega)
  have h1 : ∀ j, w k * v j - v k * w j = lm A k * md A (k + 1) i j := fun j => by
    have e := comb_md (a := (q * q') * (w k * lm A k)) hx zx j
    rw [← ew] at e
    have e2 : (w k * (q * q')) * (w k * v j - v k * w j) = (w k * (q * q')) * (lm A k * md A (k + 1) i j) := by grind
    exact Int.eq_of_mul_eq_mul_left (Int.mul_ne_zero hl (Int.mul_ne_zero q0 q0')) e2
  refine ⟨h1, fun j hj => ?_, ?_⟩
  · show (w k * v j - v k * w j) / lm A k = 0
    rw [zx j hj]
    exact Int.zero_ediv _
  · have hd : ∀ j, lm A k * ((w k * v j - v k * w j) / lm A k) = w k * v j - v k * w j := fun j => by
      rw [h1 j, Int.mul_ediv_cancel_left _ hp]
    refine ⟨(q * q') * lm A k, fun l => if l = k then - (v k * q * q' * lm A k) else w k * q' * c l - v k * q * c' l, Int.mul_ne_zero (Int.mul_ne_zero q0 q0') hp, fun j => ?_⟩
    rw [← ew]
    have e := hx j
    rw [← hd j] at e
    have e3 : (q * q') * lm A k * ((w k * v j - v k * w j) / lm A k) = (q * q') * (lm A k * ((w k * v j - v k * w j) / lm A k)) := by grind
    show (q * q') * lm A k * ((w k * v j - v k * w j) / lm A k) = _
    rw [e3, e]
    congr 1
    grind
theorem det_thin : ∀ {k n : Nat} {M : Mx}, k < n → (∀ i c, k ≤ i → i < n → c ≤ k → M i c = 0) → det n M = 0
  | 0, n + 1, M, _, h => su_zero fun i hi => by rw [h i 0 (by (first | lia | omega)) hi (by (first | lia | omega))]; simp
  | k + 1, n + 1, M, hk, h => su_zero fun i hi => by
    by_cases e : k + 1 ≤ i
    · rw [h i 0 e hi (by (first | lia | omega))]; simp
    · rw [det_thin (k := k) (n := n) (M := mn M i) (by (first | lia | omega)) fun r c h1 h2 h3 => by
        show M (sk i r) (c + 1) = 0
        unfold sk
        rw [if_neg (by (first | lia | omega))]
        exact h _ _ (by (first | lia | omega)) (by (first | lia | omega)) (by (first | lia | omega))]
      simp
theorem lm_congr {A A' : Mx} {k : Nat} (h : ∀ l, l < k → A' l = A l) : lm A' k = lm A k := det_congr fun r c hr _ => by rw [h r hr]
theorem Red.congr {A A' : Mx} {k i i' : Nat} {v : Nat → Int} (h : ∀ l, l < k → A' l = A l) (e : A' i' = A i) (r : Red A k i v) : Red A' k i' v := by
  obtain ⟨z, q, c, q0, hq⟩ := r
  refine ⟨z, q, c, q0, fun j => ?_⟩
  rw [hq j, lm_congr h, e]
  congr 1
  exact su_congr fun l hl => by rw [h l hl]
theorem det_reds {n k : Nat} {A : Mx} {v : Mx} (hv : ∀ i, k ≤ i → i < n → Red A k i (v i)) (hp : lm A k ≠ 0) : ∀ m, k ≤ m → m ≤ n → ∃ B : Mx, ∃ z : Int, z ≠ 0 ∧ det n B = z * det n A ∧ (∀ l, l < k → B l = A l) ∧ (∀ l, m ≤ l → B l = A l) ∧ ∀ i, k ≤ i → i < m → ∃ q : Int, ∀ j, B i j = q * v i j
  | 0, h, _ => ⟨A, 1, by decide, by (first | lia | omega), fun _ _ => rfl, fun _ _ => rfl, fun i h1 h2 => by (first | lia | omega)⟩
  | m + 1, h, hm => by
    by_cases e : m + 1 = k
    · exact ⟨A, 1, by decide, by (first | lia | omega), fun _ _ => rfl, fun _ _ => rfl, fun i h1 h2 => by (first | lia | omega)⟩
    · obtain ⟨B, z, z0, hd, hB, hr, hi⟩ := det_reds hv hp m (by (first | lia | omega)) (by (first | lia | omega))
      obtain ⟨_, q, c, q0, hq⟩ := hv m (by (first | lia | omega)) (by (first | lia | omega))
      refine ⟨put B m fun j => (q * lm A k) * B m j + su k fun l => c l * B l j, (q * lm A k) * z, Int.mul_ne_zero (Int.mul_ne_zero q0 hp) z0, ?_, fun l hl => ?_, fun l hl => ?_, fun i h1 h2 => ?_⟩
      · rw [det_comb (n := n) (M := B) (r := m) (q * lm A k) c (by (first | lia | omega)) k (by (first | lia | omega)), hd]; grind
      · funext j
        rw [put_ne _ _ _ (by (first | lia | omega)), hB l hl]
      · funext j
        rw [put_ne _ _ _ (by (first | lia | omega)), hr l (by (first | lia | omega))]
      · by_cases e2 : i = m
        · subst e2
          refine ⟨q, fun j => ?_⟩
          rw [put_same, hq j, hr i (Nat.le_refl _)]
          congr 1
          exact su_congr fun l hl => by rw [hB l hl]
        · obtain ⟨q2, h⟩ := hi i h1 (by (first | lia | omega))
          exact ⟨q2, fun j => by rw [put_ne _ _ _ e2]; exact h j⟩
def Bs (n : Nat) (A : Mx) (k : Nat) (sgn d : Int) (R : Mx) : Prop := k ≤ n ∧ (sgn = 1 ∨ sgn = -1) ∧ d ≠ 0 ∧ ∃ A' : Mx, det n A' = sgn * det n A ∧ (∀ r, ∃ r', A' r = A r') ∧ lm A' k = d ∧ ∀ i, k ≤ i → i < n → Red A' k i (R i)
theorem Bs.zero (n : Nat) (A : Mx) : Bs n A 0 1 1 A := ⟨Nat.zero_le _, .inl rfl, by decide, A, by (first | lia | omega), fun r => ⟨r, rfl⟩, rfl, fun i _ _ => Red.zero A i⟩
theorem Bs.none {n k : Nat} {A R : Mx} {sgn d : Int} (h : Bs n A k sgn d R) (hk : k < n) (hz : ∀ i, k ≤ i → i < n → R i k = 0) : det n A = 0 := by
  obtain ⟨_, hs, d0, A', hd, _, hl, hr⟩ := h
  have hp : lm A' k ≠ 0 := by rw [hl]; exact d0
  obtain ⟨B, z, z0, hB, _, _, hi⟩ := det_reds hr hp n (by (first | lia | omega)) (Nat.le_refl _)
  have e : det n B = 0 := det_thin (k := k) hk fun i c h1 h2 h3 => by
    obtain ⟨q, hq⟩ := hi i h1 h2
    rw [hq c]
    by_cases e : c = k
    · rw [e, hz i h1 h2, Int.mul_zero]
    · rw [(hr i h1 h2).1 c (by (first | lia | omega)), Int.mul_zero]
  rw [e] at hB
  have e2 : det n A' = 0 := by
    rcases Int.mul_eq_zero.mp hB.symm with h | h
    · exact absurd h z0
    · exact h
  rw [e2] at hd
  rcases hs with rfl | rfl <;> (first | lia | omega)
theorem Bs.sw {n k s : Nat} {A R : Mx} {sgn d : Int} (h : Bs n A k sgn d R) (hk : k < s) (hs : s < n) : Bs n A k (-sgn) d (sw R k s) := by
  obtain ⟨h1, hg, d0, A', hd, hrw, hl, hr⟩ := h
  have low : ∀ l, l < k → Dt.sw A' k s l = A' l := fun l hl => by
    funext j
    unfold Dt.sw
    rw [put_ne _ _ _ (by (first | lia | omega)), put_ne _ _ _ (by (first | lia | omega))]
  have rows : ∀ (M : Mx) i, Dt.sw M k s i = if i = s then M k else if i = k then M s else M i := fun M i => by
    funext j
    unfold Dt.sw put
    by_cases e1 : i = s
    · rw [if_pos e1, if_pos e1]
    · rw [if_neg e1, if_neg e1]
      by_cases e2 : i = k
      · rw [if_pos e2, if_pos e2]
      · rw [if_neg e2, if_neg e2]
  refine ⟨h1, by rcases hg with rfl | rfl <;> simp, d0, Dt.sw A' k s, by rw [det_sw (by (first | lia | omega)) hs (by (first | lia | omega)), hd]; grind, fun r => by
    rw [rows]
    split
    · exact hrw k
    · split
      · exact hrw s
      · exact hrw r, by rw [lm_congr low, hl], fun i h2 h3 => ?_⟩
  rw [rows R i]
  by_cases e1 : i = s
  · rw [if_pos e1]
    exact Red.congr low (by rw [rows, if_pos e1]) (hr k (Nat.le_refl _) (by (first | lia | omega)))
  · rw [if_neg e1]
    by_cases e2 : i = k
    · rw [if_pos e2]
      exact Red.congr low (by rw [rows, if_neg e1, if_pos e2]) (hr s (by (first | lia | omega)) hs)
    · rw [if_neg e2]
      exact Red.congr low (by rw [rows, if_neg e1, if_neg e2]) (hr i h2 h3)
theorem Bs.out {n k i : Nat} {A R : Mx} {sgn d : Int} (h : Bs n A k sgn d R) (h0 : R k k ≠ 0) (hk : k < i) (hi : i < n) (j : Nat) : ∃ y, R k k * R i j - R i k * R k j = d * y := by
  obtain ⟨_, _, d0, A', _, _, hl, hr⟩ := h
  have h2 := (Red.step (hr i (by (first | lia | omega)) hi) (hr k (Nat.le_refl _) (by (first | lia | omega))) (by rw [hl]; exact d0) h0).1 j
  rw [hl] at h2
  exact ⟨_, h2⟩
theorem Bs.step {n k : Nat} {A R R' : Mx} {sgn d : Int} (h : Bs n A k sgn d R) (hk : k < n) (h0 : R k k ≠ 0) (hR : ∀ i j, k < i → i < n → d * R' i j = R k k * R i j - R i k * R k j) : Bs n A (k + 1) sgn (R k k) R' := by
  obtain ⟨_, hg, d0, A', hd, hrw, hl, hr⟩ := h
  have hp : lm A' k ≠ 0 := by rw [hl]; exact d0
  have hkk := hr k (Nat.le_refl _) hk
  refine ⟨hk, hg, h0, A', hd, hrw, by rw [hkk.eq hp, lm_succ], fun i h1 h2 => ?_⟩
  have e := (Red.step (hr i (by (first | lia | omega)) h2) hkk hp h0).2
  have e2 : R' i = fun j => (R k k * R i j - R i k * R k j) / lm A' k := by
    funext j
    rw [← hR i j (by (first | lia | omega)) h2, hl, Int.mul_ediv_cancel_left _ d0]
  rw [e2]
  exact e
theorem Bs.done {n : Nat} {A R : Mx} {sgn d : Int} (h : Bs n A n sgn d R) : sgn * d = det n A := by
  obtain ⟨_, hg, _, A', hd, _, hl, _⟩ := h
  have e : d = sgn * det n A := by rw [← hl]; exact hd
  rw [e]
  rcases hg with rfl | rfl <;> (first | lia | omega)
theorem su_bnd {E : Nat} : ∀ {n : Nat} {f : Nat → Int}, (∀ i, i < n → (f i).natAbs ≤ E) → (su n f).natAbs ≤ n * E
  | 0, _, _ => Nat.zero_le _
  | n + 1, f, h => by
    show (su n f + f n).natAbs ≤ (n + 1) * E
    have h1 := su_bnd (n := n) fun i hi => h i (by (first | lia | omega))
    have h2 := h n (by (first | lia | omega))
    have h3 := Int.natAbs_add_le (su n f) (f n)
    rw [Nat.add_mul, Nat.one_mul]
    (first | lia | omega)
def fc : Nat → Nat → Nat
  | _, 0 => 1
  | E, n + 1 => (n + 1) * (E * fc E n)
theorem fc_le {E : Nat} (h : 1 ≤ E) : ∀ {m n : Nat}, m ≤ n → fc E m ≤ fc E n
  | m, 0, e => by rw [show m = 0 by (first | lia | omega)]; exact Nat.le_refl _
  | m, n + 1, e => by
    by_cases z : m = n + 1
    · rw [z]; exact Nat.le_refl _
    · refine Nat.le_trans (fc_le h (n := n) (by (first | lia | omega))) ?_
      show fc E n ≤ (n + 1) * (E * fc E n)
      refine Nat.le_trans (Nat.le_mul_of_pos_left _ h) (Nat.le_mul_of_pos_left _ (by (first | lia | omega)))
theorem det_bnd {E : Nat} : ∀ {n : Nat} {M : Mx}, (∀ r c, (M r c).natAbs ≤ E) → (det n M).natAbs ≤ fc E n
  | 0, _, _ => Nat.le_refl _
  | n + 1, M, h => su_bnd fun i _ => by
    have h1 := det_bnd (n := n) (M := mn M i) fun r c => h _ _
    have h2 := h i 0
    have h3 : (sg i * M i 0).natAbs = (M i 0).natAbs := by
      unfold sg
      split
      · rw [Int.one_mul]
      · rw [Int.neg_mul, Int.one_mul, Int.natAbs_neg]
    rw [Int.natAbs_mul, h3]
    exact Nat.mul_le_mul h2 h1
theorem Bs.bnd {n k E : Nat} {A R : Mx} {sgn d : Int} (h : Bs n A k sgn d R) (hE : 1 ≤ E) (hA : ∀ r c, (A r c).natAbs ≤ E) : d.natAbs ≤ fc E n ∧ ∀ i j, k ≤ i → i < n → (R i j).natAbs ≤ fc E n := by
  obtain ⟨hk, _, d0, A', _, hrw, hl, hr⟩ := h
  have hA' : ∀ r c, (A' r c).natAbs ≤ E := fun r c => by
    obtain ⟨r', e⟩ := hrw r
    rw [e]
    exact hA r' c
  refine ⟨by rw [← hl]; exact Nat.le_trans (det_bnd hA') (fc_le hE hk), fun i j h1 h2 => ?_⟩
  rw [(hr i h1 h2).eq (by rw [hl]; exact d0) j]
  exact Nat.le_trans (det_bnd (n := k + 1) fun r c => hA' _ _) (fc_le hE (by (first | lia | omega)))
theorem det_su {n : Nat} {M : Mx} {r : Nat} (hr : r < n) (a : Nat → Int) (E : Nat → Nat → Int) : ∀ m, det n (put M r fun c => su m fun l => a l * E l c) = su m fun l => a l * det n (put M r (E l))
  | 0 => by
    have h := det_lin (n := n) (M := put M r fun c => su 0 fun l => a l * E l c) (A := M) (B := M) (r := r) 0 0 hr (fun i c h => put_ne _ _ _ h) (fun i c h => put_ne _ _ _ h) (fun c => by rw [put_same]; simp [su])
    rw [h]
    show 0 * det n M + 0 * det n M = 0
    (first | lia | omega)
  | m + 1 => by
    have h := det_lin (n := n) (M := put M r fun c => su (m + 1) fun l => a l * E l c) (A := put M r fun c => su m fun l => a l * E l c) (B := put M r (E m)) (r := r) 1 (a m) hr (fun i c h => by rw [put_ne _ _ _ h, put_ne _ _ _ h]) (fun i c h => by rw [put_ne _ _ _ h, put_ne _ _ _ h]) (fun c => by
      rw [put_same, put_same, put_same]
      show su m (fun l => a l * E l c) + a m * E m c = 1 * su m (fun l => a l * E l c) + a m * E m c
      (first | lia | omega))
    rw [h, det_su hr a E m]
    show 1 * su m _ + a m * _ = su m _ + a m * _
    (first | lia | omega)
def un (l c : Nat) : Int := if c = l then 1 else 0
def mul (n : Nat) (A B : Mx) : Mx := fun r c => su n fun l => A r l * B l c
theorem su_un {n l : Nat} (hl : l < n) (f : Nat → Int) : su n (fun c => un l c * f c) = f l := by
  rw [su_one (r := l) hl fun i _ hn => by unfold un; rw [if_neg hn, Int.zero_mul]]
  unfold un
  rw [if_pos rfl, Int.one_mul]
theorem su_un' {n c : Nat} (hc : c < n) (f : Nat → Int) : su n (fun l => f l * un l c) = f c := by
  rw [su_one (r := c) hc fun i _ hn => by unfold un; rw [if_neg (Ne.symm hn), Int.mul_zero]]
  unfold un
  rw [if_pos rfl, Int.mul_one]
theorem pr_one : ∀ n, pr n un = 1
  | 0 => rfl
  | n + 1 => by
    show un 0 0 * pr n (fun r c => un (r + 1) (c + 1)) = 1
    have e : (fun r c => un (r + 1) (c + 1)) = un := by
      funext r c
      unfold un
      by_cases h : c = r
      · rw [if_pos h, if_pos (by (first | lia | omega))]
      · rw [if_neg h, if_neg (by (first | lia | omega))]
    rw [e, pr_one n]
    rfl
theorem det_one (n : Nat) : det n un = 1 := by
  rw [det_tri fun r c _ hc => by unfold un; rw [if_neg (by (first | lia | omega))], pr_one]
def off (f : Nat → Nat) : Nat → Nat
  | 0 => 0
  | n + 1 => off f n + if f n = n then 0 else 1
theorem off_zero {f : Nat → Nat} : ∀ {n : Nat}, off f n = 0 → ∀ i, i < n → f i = i
  | 0, _, i, h => by (first | lia | omega)
  | n + 1, h, i, hi => by
    have h' : off f n + (if f n = n then 0 else 1) = 0 := h
    by_cases e : f n = n
    · by_cases e2 : i = n
      · rw [e2, e]
      · exact off_zero (n := n) (by (first | lia | omega)) i (by (first | lia | omega))
    · rw [if_neg e] at h'; (first | lia | omega)
theorem off_lt {f g : Nat → Nat} {n k : Nat} (hk : k < n) (h1 : f k ≠ k) (h2 : g k = k) (h : ∀ i, i < n → f i = i → g i = i) : off g n < off f n := by
  have le : ∀ m, m ≤ n → off g m ≤ off f m := fun m => by
    induction m with
    | zero => exact fun _ => Nat.le_refl _
    | succ m ih =>
      intro hm
      show off g m + _ ≤ off f m + _
      have := ih (by (first | lia | omega))
      by_cases e : f m = m
      · rw [if_pos e, if_pos (h m (by (first | lia | omega)) e)]; (first | lia | omega)
      · rw [if_neg e]; split <;> (first | lia | omega)
  have lt : ∀ m, m ≤ n → k < m → off g m < off f m := fun m => by
    induction m with
    | zero => (first | lia | omega)
    | succ m ih =>
      intro hm hkm
      show off g m + _ < off f m + _
      by_cases e : k = m
      · subst e
        rw [if_pos h2, if_neg h1]
        have := le k (by (first | lia | omega))
        (first | lia | omega)
      · have := ih (by (first | lia | omega)) (by (first | lia | omega))
        by_cases e3 : f m = m
        · rw [if_pos e3, if_pos (h m (by (first | lia | omega)) e3)]; (first | lia | omega)
        · rw [if_neg e3]; split <;> (first | lia | omega)
  exact lt n (Nat.le_refl _) hk
theorem det_units {n : Nat} (B : Mx) : ∀ (d : Nat) (f : Nat → Nat), off f n ≤ d → (∀ i, i < n → f i < n) → det n (fun r c => B (f r) c) = det n (fun r c => un (f r) c) * det n B
  | 0, f, h, hf => by
    have e := off_zero (n := n) (f := f) (by (first | lia | omega))
    rw [det_congr (M' := B) fun r c hr _ => by rw [e r hr], det_congr (M := fun r c => un (f r) c) (M' := un) fun r c hr _ => by rw [e r hr], det_one]
    (first | lia | omega)
  | d + 1, f, h, hf => by
    by_cases e0 : off f n = 0
    · exact det_units B 0 f (by (first | lia | omega)) hf |>.trans rfl
    by_cases inj : ∃ i j, i < n ∧ j < n ∧ i ≠ j ∧ f i = f j
    · obtain ⟨i, j, hi, hj, hn, e⟩ := inj
      rw [det_alike' (M := fun r c => B (f r) c) hi hj hn fun c => by rw [e], det_alike' (M := fun r c => un (f r) c) hi hj hn fun c => by rw [e]]
      (first | lia | omega)
    · have ex : ∃ k, k < n ∧ f k ≠ k := Classical.byContradiction fun z => e0 (by
        have al : ∀ i, i < n → f i = i := fun i hi => Classical.byContradiction fun y => z ⟨i, hi, y⟩
        have go : ∀ m, m ≤ n → off f m = 0 := fun m => by
          induction m with
          | zero => exact fun _ => rfl
          | succ m ih => exact fun hm => by show off f m + _ = 0; rw [ih (by (first | lia | omega)), if_pos (al m (by (first | lia | omega)))]
        exact go n (Nat.le_refl _))
      obtain ⟨k, hk, hfk⟩ := ex
      have hv := hf k hk
      have nf : f (f k) ≠ f k := fun z => inj ⟨f k, k, hv, hk, hfk, z⟩
      let g : Nat → Nat := fun i => if i = f k then f k else if i = k then f (f k) else f i
      have gv : g (f k) = f k := if_pos rfl
      have dec : off g n < off f n := off_lt hv nf gv fun i hi e => by
        show (if i = f k then f k else if i = k then f (f k) else f i) = i
        by_cases h1 : i = f k
        · rw [if_pos h1, h1]
        · rw [if_neg h1]
          by_cases h2 : i = k
          · rw [h2] at e; exact absurd e hfk
          · rw [if_neg h2, e]
      have hg : ∀ i, i < n → g i < n := fun i hi => by
        show (if i = f k then f k else if i = k then f (f k) else f i) < n
        split
        · exact hv
        · split
          · exact hf _ hv
          · exact hf i hi
      have ih := det_units B d g (by (first | lia | omega)) hg
      have sws : ∀ X : Mx, det n (fun r c => X (g r) c) = - det n (fun r c => X (f r) c) := fun X => by
        rw [← det_sw (M := fun r c => X (f r) c) hk hv (Ne.symm hfk)]
        refine det_congr fun r c _ _ => ?_
        show X (if r = f k then f k else if r = k then f (f k) else f r) c = _
        unfold sw put
        by_cases h1 : r = f k
        · rw [if_pos h1, if_pos h1]
        · rw [if_neg h1, if_neg h1]
          by_cases h2 : r = k
          · rw [if_pos h2, if_pos h2]
          · rw [if_neg h2, if_neg h2]
      rw [sws B, sws un] at ih
      grind
theorem det_mulK {n : Nat} (B : Mx) : ∀ (k : Nat) (A : Mx) (f : Nat → Nat), k ≤ n → (∀ i, i < n → f i < n) → (∀ i, k ≤ i → i < n → A i = un (f i)) → det n (mul n A B) = det n A * det n B
  | 0, A, f, _, hf, hA => by
    have e := det_units B (off f n) f (Nat.le_refl _) hf
    rw [det_congr (M := A) (M' := fun r c => un (f r) c) fun r c hr _ => by rw [hA r (by (first | lia | omega)) hr], ← e]
    refine det_congr fun r c hr _ => ?_
    show su n (fun l => A r l * B l c) = B (f r) c
    rw [hA r (by (first | lia | omega)) hr]
    exact su_un (hf r hr) fun l => B l c
  | k + 1, A, f, hk, hf, hA => by
    have e1 : det n A = su n fun l => A k l * det n (put A k (un l)) := by
      rw [← det_su (n := n) (M := A) (r := k) (by (first | lia | omega)) (A k) un n]
      refine det_congr fun r c _ hc => ?_
      by_cases h : r = k
      · subst h; rw [put_same, su_un' hc]
      · rw [put_ne _ _ _ h]
    have e2 : det n (mul n A B) = su n fun l => A k l * det n (put (mul n A B) k (B l)) := by
      rw [← det_su (n := n) (M := mul n A B) (r := k) (by (first | lia | omega)) (A k) B n]
      refine det_congr fun r c _ hc => ?_
      by_cases h : r = k
      · subst h; rw [put_same]; rfl
      · rw [put_ne _ _ _ h]
    have e3 : su n (fun l => A k l * det n (put (mul n A B) k (B l))) = su n (fun l => det n B * (A k l * det n (put A k (un l))) + 0 * 0) := su_congr fun l hl => by
      have hkn : k ≤ n := by (first | lia | omega)
      have ih := det_mulK B k (put A k (un l)) (fun i => if i = k then l else f i) hkn (fun i hi => by show (if i = k then l else f i) < n; split; exact hl; exact hf i hi) (fun i h1 h2 => by
        funext c
        by_cases h : i = k
        · subst h; rw [put_same, if_pos rfl]
        · rw [put_ne _ _ _ h, if_neg h, hA i (Nat.lt_of_le_of_ne h1 (Ne.symm h)) h2])
      have e4 : det n (put (mul n A B) k (B l)) = det n (mul n (put A k (un l)) B) := det_congr fun r c _ _ => by
        by_cases h : r = k
        · subst h
          rw [put_same]
          show _ = su n fun x => put A r (un l) r x * B x c
          rw [show (fun x => put A r (un l) r x * B x c) = fun x => un l x * B x c from by funext x; rw [put_same]]
          exact (su_un hl fun x => B x c).symm
        · rw [put_ne _ _ _ h]
          show su n (fun x => A r x * B x c) = su n fun x => put A k (un l) r x * B x c
          exact su_congr fun x _ => by rw [put_ne _ _ _ h]
      rw [e4, ih]
      grind
    rw [e2, e3, su_lin (det n B) 0 _ (fun _ => 0), e1]
    grind
theorem det_mul (n : Nat) (A B : Mx) : det n (mul n A B) = det n A * det n B := det_mulK B n A id (Nat.le_refl _) (fun _ h => h) (fun i h1 h2 => by (first | lia | omega))
theorem su_mod : ∀ {n : Nat} {f g : Nat → Int}, (∀ i, i < n → (f i - g i) % 2 = 0) → (su n f - su n g) % 2 = 0
  | 0, _, _, _ => rfl
  | n + 1, f, g, h => by
    show (su n f + f n - (su n g + g n)) % 2 = 0
    have h1 := su_mod (n := n) fun i hi => h i (by (first | lia | omega))
    have h2 := h n (by (first | lia | omega))
    (first | lia | omega)
theorem mul_mod {a b x y : Int} (h1 : (a - b) % 2 = 0) (h2 : (x - y) % 2 = 0) : (a * x - b * y) % 2 = 0 := by
  obtain ⟨u, hu⟩ := Int.dvd_of_emod_eq_zero h1
  obtain ⟨v, hv⟩ := Int.dvd_of_emod_eq_zero h2
  refine Int.emod_eq_zero_of_dvd ⟨u * x + b * v, ?_⟩
  have e1 : a = b + 2 * u := by (first | lia | omega)
  have e2 : x = y + 2 * v := by (first | lia | omega)
  rw [e1, e2]
  grind
theorem det_mod : ∀ {n : Nat} {M M' : Mx}, (∀ r c, r < n → c < n → (M r c - M' r c) % 2 = 0) → (det n M - det n M') % 2 = 0
  | 0, _, _, _ => rfl
  | n + 1, M, M', h => su_mod fun i hi => by
    refine mul_mod (mul_mod (by (first | lia | omega)) (h i 0 hi (by (first | lia | omega)))) (det_mod fun r c hr hc => ?_)
    show (M (sk i r) _ - M' (sk i r) _) % 2 = 0
    unfold sk
    split <;> exact h _ _ (by (first | lia | omega)) (by (first | lia | omega))
theorem det_odd {n : Nat} {C M : Mx} (h : ∀ r c, r < n → c < n → (mul n C M r c - un r c) % 2 = 0) : det n M % 2 = 1 := by
  have e := det_mod (n := n) (M := mul n C M) (M' := un) h
  rw [det_mul, det_one] at e
  have z : det n M % 2 = 0 ∨ det n M % 2 = 1 := by (first | lia | omega)
  rcases z with z | z
  · obtain ⟨u, hu⟩ := Int.dvd_of_emod_eq_zero z
    rw [hu] at e
    have e2 : det n C * (2 * u) = 2 * (det n C * u) := by grind
    rw [e2] at e
    (first | lia | omega)
  · exact z
theorem det_even {n r : Nat} {M : Mx} {c : Nat → Int} (hr : r < n) (h : ∀ j, j < n → (M r j + su r fun l => c l * M l j) % 2 = 0) : det n M % 2 = 0 := by
  have e := det_comb (n := n) (M := M) (r := r) 1 c hr r (Nat.le_refl _)
  rw [Int.one_mul] at e
  have e2 := det_lin (n := n) (M := put M r fun j => 2 * ((M r j + su r fun l => c l * M l j) / 2)) (A := put M r fun j => (M r j + su r fun l => c l * M l j) / 2) (B := M) (r := r) 2 0 hr (fun i c h => by rw [put_ne _ _ _ h, put_ne _ _ _ h]) (fun i c h => put_ne _ _ _ h) (fun c => by rw [put_same, put_same]; (first | lia | omega))
  have e3 : det n (put M r fun j => 1 * M r j + su r fun l => c l * M l j) = det n (put M r fun j => 2 * ((M r j + su r fun l => c l * M l j) / 2)) := det_congr fun i j _ hj => by
    by_cases hi : i = r
    · subst hi
      rw [put_same, put_same]
      have := h j hj
      (first | lia | omega)
    · rw [put_ne _ _ _ hi, put_ne _ _ _ hi]
  rw [← e, e3, e2]
  (first | lia | omega)
theorem det_turned {n : Nat} (M : Mx) {f : Nat → Nat} (hf : ∀ i, i < n → f i < n) (hh : ∀ i, i < n → f (f i) = i) : (det n fun r c => M (f r) c).natAbs = (det n M).natAbs := by
  have e := det_units (n := n) M (off f n) f (Nat.le_refl _) hf
  have e2 := det_units (n := n) (fun r c => un (f r) c) (off f n) f (Nat.le_refl _) hf
  rw [det_congr (M := fun r c => un (f (f r)) c) (M' := un) fun r c hr _ => by rw [hh r hr], det_one] at e2
  have e3 : (det n fun r c => un (f r) c).natAbs = 1 := by
    have := congrArg Int.natAbs e2
    rw [Int.natAbs_mul] at this
    exact Nat.eq_one_of_mul_eq_one_left this.symm
  rw [e, Int.natAbs_mul, e3, Nat.one_mul]
theorem det_both {n : Nat} {U V P Q : Mx} (h1 : ∀ r c, r < n → c < n → V r c = mul n U P r c) (h2 : ∀ r c, r < n → c < n → mul n P Q r c = un r c) : (det n V).natAbs = (det n U).natAbs := by
  have e : det n P * det n Q = 1 := by rw [← det_mul, det_congr (M' := un) h2, det_one]
  have e3 : (det n P).natAbs = 1 := by
    have := congrArg Int.natAbs e
    rw [Int.natAbs_mul] at this
    exact Nat.eq_one_of_mul_eq_one_right this
  rw [det_congr h1, det_mul, Int.natAbs_mul, e3, Nat.mul_one]
theorem det_signs {n : Nat} {M : Mx} (s : Nat → Int) (hs : ∀ i, i < n → s i = 1 ∨ s i = -1) : ∀ m, m ≤ n → (det n fun r c => if r < m then s r * M r c else M r c).natAbs = (det n M).natAbs
  | 0, _ => by rw [det_congr (M' := M) fun r c _ _ => if_neg (by (first | lia | omega))]
  | m + 1, hm => by
    have ih := det_signs (M := M) s hs m (by (first | lia | omega))
    have e := det_lin (n := n) (M := fun r c => if r < m + 1 then s r * M r c else M r c) (A := fun r c => if r < m then s r * M r c else M r c) (B := fun r c => if r < m then s r * M r c else M r c) (r := m) (s m) 0 (by (first | lia | omega)) (fun i c h => by
      by_cases h1 : i < m
      · rw [if_pos (by (first | lia | omega)), if_pos h1]
      · rw [if_neg (by (first | lia | omega)), if_neg h1]) (fun i c h => by
      by_cases h1 : i < m
      · rw [if_pos (by (first | lia | omega)), if_pos h1]
      · rw [if_neg (by (first | lia | omega)), if_neg h1]) (fun c => by rw [if_pos (by (first | lia | omega)), if_neg (by (first | lia | omega))]; (first | lia | omega))
    rw [e, ← ih]
    rcases hs m (by (first | lia | omega)) with h | h <;> rw [h]
    · congr 1; (first | lia | omega)
    · rw [show ∀ x : Int, -1 * x + 0 * x = -x from fun x => by (first | lia | omega), Int.natAbs_neg]
theorem su_mul (a : Int) (f : Nat → Int) (n : Nat) : su n (fun i => a * f i) = a * su n f := by
  have h := su_lin a 0 f (fun _ => 0) n
  rw [su_congr (g := fun i => a * f i + 0 * 0) fun i _ => by (first | lia | omega), h]
  (first | lia | omega)
theorem su_swap (f : Nat → Nat → Int) (n : Nat) : ∀ p, su p (fun v => su n fun j => f j v) = su n fun j => su p fun v => f j v
  | 0 => (su_zero fun _ _ => rfl).symm
  | p + 1 => by
    show su p (fun v => su n fun j => f j v) + su n (fun j => f j p) = su n fun j => su p (fun v => f j v) + f j p
    rw [su_swap f n p]
    have h := su_lin 1 1 (fun j => su p fun v => f j v) (fun j => f j p) n
    have e : su n (fun j => su p (fun v => f j v) + f j p) = su n (fun i => 1 * su p (fun v => f i v) + 1 * f i p) := su_congr fun i _ => by (first | lia | omega)
    rw [e, h]
    (first | lia | omega)
theorem su_pick {p c : Nat} (hc : c < p) (g : Nat → Int) : su p (fun v => g v * un c v) = g c := by
  rw [su_one (r := c) hc fun i _ hn => by unfold un; rw [if_neg hn, Int.mul_zero]]
  unfold un
  rw [if_pos rfl, Int.mul_one]
def fl (a b : Nat → Nat) (n : Nat) (x : Nat → Int) (v : Nat) : Int := su n fun k => x k * (un (b k) v - un (a k) v)
theorem fl_sum {a b : Nat → Nat} {n p : Nat} (ha : ∀ k, k < n → a k < p) (hb : ∀ k, k < n → b k < p) (x g : Nat → Int) : su p (fun v => g v * fl a b n x v) = su n fun k => x k * (g (b k) - g (a k)) := by
  have e1 : su p (fun v => g v * fl a b n x v) = su p (fun v => su n fun k => g v * (x k * (un (b k) v - un (a k) v))) := su_congr fun v _ => (su_mul (g v) _ n).symm
  rw [e1, su_swap]
  refine su_congr fun k hk => ?_
  have e2 : su p (fun v => g v * (x k * (un (b k) v - un (a k) v))) = su p (fun v => x k * (g v * un (b k) v) + (- x k) * (g v * un (a k) v)) := su_congr fun v _ => by grind
  rw [e2, su_lin, su_pick (hb k hk), su_pick (ha k hk)]
  grind
theorem fl_zero {a b : Nat → Nat} {n p : Nat} (ha : ∀ k, k < n → a k < p) (hb : ∀ k, k < n → b k < p) {L : Nat → Nat → Nat} (hL : ∀ k j, k < n → j < k → L k (a j) = L k (b j)) {x : Nat → Int} (hx : ∀ v, v < p → fl a b n x v = 0) (hf : ∀ k, k < n → x k ≠ 0 → L k (a k) ≠ L k (b k)) : ∀ d k, k + d + 1 = n → x k = 0 := by
  intro d
  induction d using Nat.strongRecOn with
  | _ d ih =>
    intro k hk
    refine Classical.byContradiction fun hn => ?_
    have hkn : k < n := by (first | lia | omega)
    have e := fl_sum ha hb x (fun v => if L k v = L k (a k) then 1 else 0)
    rw [su_zero fun v hv => by rw [hx v hv, Int.mul_zero]] at e
    rw [su_one (r := k) hkn fun j hj hne => ?_] at e
    · rw [if_neg (Ne.symm (hf k hkn hn)), if_pos rfl] at e
      (first | lia | omega)
    · by_cases h : j < k
      · rw [hL k j hkn h, Int.sub_self, Int.mul_zero]
      · rw [ih (n - 1 - j) (by (first | lia | omega)) j (by (first | lia | omega)), Int.zero_mul]
theorem fl_lin (a b : Nat → Nat) (n : Nat) (s t : Int) (x y : Nat → Int) (v : Nat) : fl a b n (fun k => s * x k + t * y k) v = s * fl a b n x v + t * fl a b n y v := by
  unfold fl
  rw [← su_lin]
  exact su_congr fun k _ => by grind
theorem fl_su (a b : Nat → Nat) (n : Nat) (c : Nat → Int) (f : Nat → Nat → Int) (v : Nat) : ∀ m, fl a b n (fun k => su m fun i => c i * f i k) v = su m fun i => c i * fl a b n (f i) v
  | 0 => su_zero fun _ _ => by show 0 * _ = (0 : Int); rw [Int.zero_mul]
  | m + 1 => by
    have h := fl_lin a b n 1 (c m) (fun k => su m fun i => c i * f i k) (f m) v
    rw [fl_su a b n c f v m] at h
    have e : (fun k => su (m + 1) fun i => c i * f i k) = fun k => 1 * su m (fun i => c i * f i k) + c m * f m k := by
      funext k
      show su m (fun i => c i * f i k) + c m * f m k = _
      (first | lia | omega)
    rw [e, h]
    show _ = su m (fun i => c i * fl a b n (f i) v) + c m * fl a b n (f m) v
    (first | lia | omega)
theorem fl_span {a b : Nat → Nat} {n p m : Nat} (ha : ∀ k, k < n → a k < p) (hb : ∀ k, k < n → b k < p) {L : Nat → Nat → Nat} (hL : ∀ k j, k < n → j < k → L k (a j) = L k (b j)) {C : Nat → Nat} {f : Nat → Nat → Int} (hC : ∀ j, j < m → C j < n)
    (hf : ∀ i v, i < m → v < p → fl a b n (f i) v = 0) (hu : ∀ i j, i < m → j < m → f i (C j) = un i j) (hF : ∀ k, k < n → (∀ j, j < m → C j ≠ k) → L k (a k) ≠ L k (b k)) {x : Nat → Int} (hx : ∀ v, v < p → fl a b n x v = 0) (k : Nat) (hk : k < n) : x k = su m fun i => x (C i) * f i k := by
  have h := fl_zero (x := fun k => 1 * x k + (-1) * su m (fun i => x (C i) * f i k)) ha hb hL (fun v hv => by
    rw [fl_lin, hx v hv, fl_su, su_zero fun i hi => by rw [hf i v hi hv, Int.mul_zero]]
    rfl) (fun k hk hn => hF k hk fun j hj e => hn (by
      subst e
      show 1 * x (C j) + (-1) * su m (fun i => x (C i) * f i (C j)) = 0
      rw [su_congr (g := fun i => x (C i) * un i j) fun i hi => by rw [hu i j hi hj], su_un' hj fun i => x (C i)]
      (first | lia | omega))) (n - 1 - k) k (by (first | lia | omega))
  have h2 : 1 * x k + (-1) * su m (fun i => x (C i) * f i k) = 0 := h
  (first | lia | omega)
theorem worth_same {a b : Nat → Nat} {n p m : Nat} (ha : ∀ k, k < n → a k < p) (hb : ∀ k, k < n → b k < p) {L L' : Nat → Nat → Nat} {C C' : Nat → Nat} {f f' : Nat → Nat → Int} {X : Mx}
    (sp : ∀ x : Nat → Int, (∀ v, v < p → fl a b n x v = 0) → ∀ k, k < n → x k = su m fun i => x (C i) * f i k) (sp' : ∀ x : Nat → Int, (∀ v, v < p → fl a b n x v = 0) → ∀ k, k < n → x k = su m fun i => x (C' i) * f' i k)
    (hC : ∀ j, j < m → C j < n) (hC' : ∀ j, j < m → C' j < n) (hf : ∀ i v, i < m → v < p → fl a b n (f i) v = 0) (hu : ∀ i j, i < m → j < m → f i (C j) = un i j)
    (hX : ∀ r v, r < m → v < p → fl a b n (X r) v = 0) : (det m fun r c => X r (C' c)).natAbs = (det m fun r c => X r (C c)).natAbs := by
  refine det_both (P := fun i c => f i (C' c)) (Q := fun i c => f' i (C c)) (fun r c hr hc => sp (X r) (fun v hv => hX r v hr hv) _ (hC' c hc)) fun r c hr hc => ?_
  rw [← hu r c hr hc]
  exact (sp' (f r) (fun v hv => hf r v hr hv) _ (hC c hc)).symm
theorem su_more {f : Nat → Int} : ∀ {m k : Nat}, k ≤ m → (∀ i, k ≤ i → i < m → f i = 0) → su m f = su k f
  | 0, k, h, _ => by rw [show k = 0 by (first | lia | omega)]
  | m + 1, k, h, hz => by
    by_cases e : k = m + 1
    · rw [e]
    · show su m f + f m = su k f
      rw [su_more (m := m) (k := k) (by (first | lia | omega)) fun i h1 h2 => hz i h1 (by (first | lia | omega)), hz m (by (first | lia | omega)) (by (first | lia | omega))]
      (first | lia | omega)
theorem su_par (f : Nat → Int) : ∀ n, decide (su n f % 2 = 1) = RM.xsum (fun k => decide (f k % 2 = 1)) n
  | 0 => rfl
  | n + 1 => by
    show decide ((su n f + f n) % 2 = 1) = (RM.xsum (fun k => decide (f k % 2 = 1)) n ^^ decide (f n % 2 = 1))
    rw [← su_par f n]
    by_cases h1 : su n f % 2 = 1 <;> by_cases h2 : f n % 2 = 1
    · rw [decide_eq_true h1, decide_eq_true h2, decide_eq_false (by (first | lia | omega))]; rfl
    · rw [decide_eq_true h1, decide_eq_false h2, decide_eq_true (by (first | lia | omega))]; rfl
    · rw [decide_eq_false h1, decide_eq_true h2, decide_eq_true (by (first | lia | omega))]; rfl
    · rw [decide_eq_false h1, decide_eq_false h2, decide_eq_false (by (first | lia | omega))]; rfl
theorem su_list (f : Nat → Int) : ∀ n, su n f = ((List.range n).map f).sum
  | 0 => rfl
  | n + 1 => by
    show su n f + f n = _
    rw [su_list f n, List.range_succ, List.map_append, List.sum_append]
    simp
theorem sum_permK {a b : List Int} (h : a.Perm b) : a.sum = b.sum := by
  induction h with
  | nil => rfl
  | cons x _ ih => rw [List.sum_cons, List.sum_cons, ih]
  | swap x y l => rw [List.sum_cons, List.sum_cons, List.sum_cons, List.sum_cons]; (first | lia | omega)
  | trans _ _ h1 h2 => exact h1.trans h2
theorem su_perm {f : Nat → Nat} {n : Nat} (hp : ((List.range n).map f).Perm (List.range n)) (F : Nat → Int) : su n (fun i => F (f i)) = su n F := by
  rw [su_list, su_list, show (List.range n).map (fun i => F (f i)) = ((List.range n).map f).map F by rw [List.map_map]; rfl]
  exact sum_permK (hp.map F)
end Dt
namespace RM
open Dt
variable {N : Net}
structure Cir (N : Net) (m : Nat) (x : Nat → Int) : Prop where
  on : ∀ k, k < N.n → m.testBit k = true → x k = 1 ∨ x k = -1
  off : ∀ k, k < N.n → m.testBit k = false → x k = 0
  fl : ∀ v, v < N.p → fl N.a N.b N.n x v = 0
def wx (acc : List (Nat × Int)) (k : Nat) : Int := acc.foldl (fun z q => if q.1 = k then q.2 else z) 0
theorem wx_snoc (acc : List (Nat × Int)) (q : Nat × Int) (k : Nat) : wx (acc ++ [q]) k = if q.1 = k then q.2 else wx acc k := by
  unfold wx
  rw [List.foldl_append]
  rfl
theorem fl_put {a b : Nat → Nat} {n t : Nat} {x y : Nat → Int} {d : Int} (ht : t < n) (h0 : x t = 0) (h1 : y t = d) (h : ∀ k, k ≠ t → y k = x k) (v : Nat) : fl a b n y v = fl a b n x v + d * (Dt.un (b t) v - Dt.un (a t) v) := by
  have e := fl_lin a b n 1 d x (fun k => Dt.un t k) v
  have e1 : fl a b n y v = fl a b n (fun k => 1 * x k + d * Dt.un t k) v := by
    congr 1
    funext k
    unfold Dt.un
    by_cases hk : k = t
    · subst hk
      rw [if_pos rfl, h0, h1]; (first | lia | omega)
    · rw [if_neg hk, h k hk]; (first | lia | omega)
  have e2 : fl a b n (fun k => Dt.un t k) v = Dt.un (b t) v - Dt.un (a t) v := by
    unfold fl
    rw [su_one (r := t) ht fun i _ hn => by unfold Dt.un; dsimp only; rw [if_neg hn, Int.zero_mul]]
    show Dt.un t t * _ = _
    rw [show Dt.un t t = 1 from if_pos rfl, Int.one_mul]
  rw [e1, e, e2]
  (first | lia | omega)
theorem wk_keys {m t0 : Nat} (hb : m.testBit t0 = true) {acc : List (Nat × Int)} {v left : Nat} (h : Wk N m t0 acc v left) : ∀ k, k ∉ acc.map (·.1) → wx acc k = 0 := by
  induction h with
  | start =>
    intro k hk
    show (if t0 = k then (1 : Int) else 0) = 0
    rw [if_neg fun z => hk (by rw [← z]; exact List.mem_cons_self)]
  | next h h0 ht ih =>
    intro k hk
    rw [List.map_append, List.mem_append] at hk
    rw [wx_snoc, if_neg fun z => hk (.inr (by rw [← z]; exact List.mem_cons_self))]
    exact ih k fun z => hk (.inl z)
theorem wk_ones {m t0 : Nat} {acc : List (Nat × Int)} {v left : Nat} (h : Wk N m t0 acc v left) : ∀ k, k ∈ acc.map (·.1) → wx acc k = 1 ∨ wx acc k = -1 := by
  induction h with
  | start =>
    intro k hk
    have : k = t0 := List.mem_singleton.mp hk
    subst this
    exact .inl (if_pos rfl)
  | @next acc v left t h h0 ht ih =>
    intro k hk
    rw [List.map_append, List.mem_append] at hk
    rw [wx_snoc]
    by_cases hn : t = k
    · rw [if_pos hn]
      dsimp only
      split
      · exact .inl rfl
      · exact .inr rfl
    · rw [if_neg hn]
      exact ih k (hk.resolve_right fun z => hn (List.mem_singleton.mp z).symm)
theorem wk_fl {m t0 : Nat} (hm : m < 2 ^ N.n) (hb : m.testBit t0 = true) {acc : List (Nat × Int)} {v left : Nat} (h : Wk N m t0 acc v left) (u : Nat) : fl N.a N.b N.n (wx acc) u = Dt.un v u - Dt.un (N.a t0) u := by
  induction h with
  | start =>
    have htn := bits_lt hm hb
    rw [fl_put (y := wx [(t0, 1)]) (x := fun _ => 0) (t := t0) (d := 1) htn rfl (if_pos rfl) (fun k hk => if_neg (Ne.symm hk)) u]
    have : fl N.a N.b N.n (fun _ => 0) u = 0 := su_zero fun _ _ => Int.zero_mul _
    rw [this]
    (first | lia | omega)
  | @next acc v left t h h0 ht ih =>
    have htm := tiesAt_mem.mp (List.mem_of_getElem? ht)
    have hk : t ∉ acc.map (·.1) := fun z => by
      have := wk_left hb h t
      rw [htm.2.1, decide_eq_true z, Bool.not_true, Bool.and_false] at this
      cases this
    rw [fl_put (x := wx acc) (t := t) (d := if N.a t = v then 1 else -1) htm.1 (wk_keys hb h t hk) (by rw [wx_snoc, if_pos rfl]) (fun k hk => by rw [wx_snoc, if_neg (Ne.symm hk)]) u, ih]
    unfold Net.far
    by_cases e : N.a t = v
    · rw [if_pos e, if_pos e, e]; (first | lia | omega)
    · have e2 := htm.2.2.resolve_left e
      rw [if_neg e, if_neg e, e2]; (first | lia | omega)
theorem wk_cir {m t0 v : Nat} (hm : m < 2 ^ N.n) (r : N.Ring m) (hb : m.testBit t0 = true) {acc : List (Nat × Int)} (h : Wk N m t0 acc v 0) : Cir N m (wx acc) := by
  have key : ∀ k, k ∈ acc.map (·.1) ↔ m.testBit k = true := fun k => by
    have e := wk_left hb h k
    rw [Nat.zero_testBit] at e
    constructor
    · intro z
      have hp := (wk_perm hm r hb h).mem_iff.mp z
      exact (List.mem_filter.mp hp).2
    · intro z
      rw [z, Bool.true_and] at e
      exact of_decide_eq_true (by simpa using e.symm)
  refine ⟨fun k _ hk => wk_ones h k ((key k).mpr hk), fun k _ hk => wk_keys hb h k (fun z => by rw [(key k).mp z] at hk; cases hk), fun u _ => ?_⟩
  rw [wk_fl hm hb h u, (wk_round hm r hb h).mp rfl]
  (first | lia | omega)
theorem ring_cir {m : Nat} (hm : m < 2 ^ N.n) (r : N.Ring m) : ∃ x, Cir N m x := by
  have hb := Nat.testBit_log2 r.1
  generalize m.log2 = t0 at hb
  obtain ⟨acc, v, wk⟩ := wk_exists hm r hb
  exact ⟨_, wk_cir hm r hb wk⟩
theorem Cir.turn {m : Nat} {x : Nat → Int} (h : Cir N m x) : Cir N m (fun k => - x k) := ⟨fun k h1 h2 => by have := h.on k h1 h2; (first | lia | omega), fun k h1 h2 => by have := h.off k h1 h2; (first | lia | omega), fun v hv => by
  have e := fl_lin N.a N.b N.n (-1) 0 x x v
  rw [h.fl v hv] at e
  rw [show (fun k => - x k) = fun k => -1 * x k + 0 * x k from funext fun k => by (first | lia | omega), e]
  rfl⟩
theorem cir_one {m : Nat} {x y : Nat → Int} (hm : m < 2 ^ N.n) (r : N.Ring m) (hx : Cir N m x) (hy : Cir N m y) : ∃ s : Int, (s = 1 ∨ s = -1) ∧ ∀ k, k < N.n → y k = s * x k := by
  have hb := Nat.testBit_log2 r.1
  generalize m.log2 = t0 at hb
  have ht := bits_lt hm hb
  obtain ⟨s, hs, e0⟩ : ∃ s : Int, (s = 1 ∨ s = -1) ∧ y t0 = s * x t0 := by
    rcases hx.on t0 ht hb with h1 | h1 <;> rcases hy.on t0 ht hb with h2 | h2 <;> rw [h1, h2]
    · exact ⟨1, .inl rfl, rfl⟩
    · exact ⟨-1, .inr rfl, rfl⟩
    · exact ⟨-1, .inr rfl, rfl⟩
    · exact ⟨1, .inl rfl, rfl⟩
  refine ⟨s, hs, ?_⟩
  have val : ∀ k, k < N.n → (y k - s * x k = 0 ∨ y k - s * x k = 2 ∨ y k - s * x k = -2) ∧ (m.testBit k = false → y k - s * x k = 0) := fun k hk => by
    cases hbk : m.testBit k with
    | false => rw [hx.off k hk hbk, hy.off k hk hbk]; exact ⟨.inl (by (first | lia | omega)), fun _ => by (first | lia | omega)⟩
    | true =>
      refine ⟨?_, fun z => nomatch z⟩
      rcases hs with rfl | rfl <;> rcases hx.on k hk hbk with h1 | h1 <;> rcases hy.on k hk hbk with h2 | h2 <;> rw [h1, h2] <;> (first | lia | omega)
  have qb : ∀ k, (Ring.maskOf (fun k => decide (y k - s * x k ≠ 0)) N.n).testBit k = (decide (k < N.n) && decide (y k - s * x k ≠ 0)) := fun k => Ring.mask_bit _ _ _
  have hq := r.2.2 (Ring.maskOf (fun k => decide (y k - s * x k ≠ 0)) N.n) (fun k hk => by
    rw [qb k, Bool.and_eq_true, decide_eq_true_eq, decide_eq_true_eq] at hk
    cases hbk : m.testBit k with
    | true => rfl
    | false => exact absurd ((val k hk.1).2 hbk) hk.2) (fun v hv => by
    have e := fl_lin N.a N.b N.n 1 (-s) y x v
    rw [hx.fl v hv, hy.fl v hv] at e
    have e2 : fl N.a N.b N.n (fun k => 1 * y k + -s * x k) v = 2 * su N.n (fun k => ((y k - s * x k) / 2) * (Dt.un (N.b k) v - Dt.un (N.a k) v)) := by
      rw [← su_mul]
      refine su_congr fun k hk => ?_
      have h1 : 1 * y k + -s * x k = 2 * ((y k - s * x k) / 2) := by
        rw [Int.neg_mul]
        have := (val k hk).1
        (first | lia | omega)
      dsimp only
      rw [h1, Int.mul_assoc]
    have e3 : su N.n (fun k => ((y k - s * x k) / 2) * (Dt.un (N.b k) v - Dt.un (N.a k) v)) = 0 := by
      rw [e2] at e
      (first | lia | omega)
    have e4 := su_par (fun k => ((y k - s * x k) / 2) * (Dt.un (N.b k) v - Dt.un (N.a k) v)) N.n
    rw [e3] at e4
    show xsum (fun k => _ && N.inc k v) N.n = false
    refine Eq.trans ?_ e4.symm
    refine xsum_congr fun k hk => ?_
    rw [qb k, decide_eq_true hk, Bool.true_and]
    unfold Net.inc Dt.un
    have hne := N.ne k hk
    rw [show decide (N.a k = v) = decide (v = N.a k) from decide_eq_decide.mpr eq_comm, show decide (N.b k = v) = decide (v = N.b k) from decide_eq_decide.mpr eq_comm]
    by_cases h1 : v = N.a k <;> by_cases h2 : v = N.b k
    · (first | lia | omega)
    · rw [decide_eq_true h1, decide_eq_false h2, if_pos h1, if_neg h2]
      rcases (val k hk).1 with h | h | h <;> rw [h] <;> rfl
    · rw [decide_eq_false h1, decide_eq_true h2, if_neg h1, if_pos h2]
      rcases (val k hk).1 with h | h | h <;> rw [h] <;> rfl
    · rw [decide_eq_false h1, decide_eq_false h2, if_neg h1, if_neg h2]
      rcases (val k hk).1 with h | h | h <;> rw [h] <;> rfl)
  intro k hk
  rcases hq with h | h
  · have e := qb k
    rw [h, Nat.zero_testBit, decide_eq_true hk, Bool.true_and] at e
    have := of_decide_eq_false e.symm
    (first | lia | omega)
  · have e := qb t0
    rw [h, hb, decide_eq_true ht, Bool.true_and] at e
    exact absurd (by (first | lia | omega)) (of_decide_eq_true e.symm)
theorem Cir.bit {m : Nat} {x : Nat → Int} (h : Cir N m x) {k : Nat} (hk : k < N.n) : decide (x k % 2 = 1) = m.testBit k := by
  cases hb : m.testBit k with
  | false => rw [h.off k hk hb]; rfl
  | true => rcases h.on k hk hb with e | e <;> rw [e] <;> rfl
theorem span_of (N : Net) : ∃ f : Nat → Nat → Int, (∀ i v, i < N.chords.length → v < N.p → fl N.a N.b N.n (f i) v = 0) ∧ (∀ i j, i < N.chords.length → j < N.chords.length → f i (N.chords.getD j 0) = Dt.un i j) ∧ (∀ i, i < N.chords.length → Cir N (N.ring (N.chords.getD i 0)) (f i)) ∧
    ∀ x : Nat → Int, (∀ v, v < N.p → fl N.a N.b N.n x v = 0) → ∀ k, k < N.n → x k = su N.chords.length fun i => x (N.chords.getD i 0) * f i k := by
  have hC : ∀ i, i < N.chords.length → N.chords.getD i 0 < N.n ∧ N.inF (N.chords.getD i 0) = false := fun i hi => by
    rw [List.getD_eq_getElem?_getD, List.getElem?_eq_getElem hi]
    exact chords_mem.mp (List.getElem_mem hi)
  have ex : ∀ i, ∃ x : Nat → Int, i < N.chords.length → Cir N (N.ring (N.chords.getD i 0)) x ∧ x (N.chords.getD i 0) = 1 := fun i => by
    by_cases hi : i < N.chords.length
    · obtain ⟨h1, h2⟩ := hC i hi
      obtain ⟨x, hx⟩ := ring_cir (ring_lt h1) (ring_ring h1 h2)
      rcases hx.on _ h1 (ring_own h2) with e | e
      · exact ⟨x, fun _ => ⟨hx, e⟩⟩
      · exact ⟨_, fun _ => ⟨hx.turn, by show - x _ = 1; rw [e]; rfl⟩⟩
    · exact ⟨fun _ => 0, fun z => absurd z hi⟩
  obtain ⟨f, hf⟩ := Classical.axiomOfChoice ex
  have hu : ∀ i j, i < N.chords.length → j < N.chords.length → f i (N.chords.getD j 0) = Dt.un i j := fun i j hi hj => by
    unfold Dt.un
    by_cases e : j = i
    · subst e
      rw [if_pos rfl]
      exact (hf j hj).2
    · rw [if_neg e]
      refine (hf i hi).1.off _ (hC j hj).1 ?_
      rw [ring_chord (hC i hi).2 (hC j hj).2]
      refine decide_eq_false fun z => e (Eq.symm ?_)
      rw [List.getD_eq_getElem?_getD, List.getD_eq_getElem?_getD, List.getElem?_eq_getElem hi, List.getElem?_eq_getElem hj] at z
      exact (List.getElem_inj chords_nd).mp z
  refine ⟨f, fun i v hi hv => (hf i hi).1.fl v hv, hu, fun i hi => (hf i hi).1, fun x hx k hk => ?_⟩
  refine fl_span (L := fun k v => N.lab k v) N.al N.bl (fun k j _ hj => labs_tie (S := fun _ => true) hj rfl) (C := fun i => N.chords.getD i 0) (fun j hj => (hC j hj).1) (fun i v hi hv => (hf i hi).1.fl v hv) hu (fun k hk hn => ?_) hx k hk
  cases hF : N.inF k with
  | true =>
    unfold Net.inF at hF
    exact of_decide_eq_false (by simpa using hF)
  | false =>
    obtain ⟨j, hj⟩ := chord_at hk hF
    have hjl := (List.getElem?_eq_some_iff.mp hj).1
    exact absurd (by rw [List.getD_eq_getElem?_getD, hj]; rfl) (hn j hjl)
def wM (N : Net) (X : Nat → Nat → Int) : Mx := fun r c => X r (N.chords.getD c 0)
theorem chord_lt {i : Nat} (hi : i < N.chords.length) : N.chords.getD i 0 < N.n ∧ N.inF (N.chords.getD i 0) = false := by
  rw [List.getD_eq_getElem?_getD, List.getElem?_eq_getElem hi]
  exact chords_mem.mp (List.getElem_mem hi)
theorem comb_cir {rs : List Nat} {X : Nat → Nat → Int} (hX : ∀ i r, rs[i]? = some r → Cir N r (X i)) {k : Nat} (hk : k < N.n) (z : Nat) : decide (su rs.length (fun l => (if z.testBit l = true then 1 else 0) * X l k) % 2 = 1) = (comb rs z).testBit k := by
  rw [su_par, comb_keys rs (f := fun i => decide (X i k % 2 = 1)) fun i r hi => ((hX i r hi).bit hk).symm]
  refine xsum_congr fun i _ => ?_
  cases z.testBit i with
  | true => rw [if_pos rfl, Int.one_mul, Bool.true_and]
  | false => rw [if_neg (by decide), Int.zero_mul]; rfl
theorem worth_odd {rs : List Nat} {X : Nat → Nat → Int} (hl : rs.length = N.chords.length) (hr : ∀ r ∈ rs, N.Ring r ∧ r < 2 ^ N.n) (hX : ∀ i r, rs[i]? = some r → Cir N r (X i)) : det N.chords.length (wM N X) % 2 = 1 ↔ Ind rs := by
  constructor
  · intro h
    refine Classical.byContradiction fun hn => ?_
    obtain ⟨z, hz, e, h0⟩ : ∃ z, z < 2 ^ rs.length ∧ comb rs z = 0 ∧ z ≠ 0 := Classical.byContradiction fun hc => hn fun z hz e => Classical.byContradiction fun h0 => hc ⟨z, hz, e, h0⟩
    have hb := Nat.testBit_log2 h0
    have hlt : z.log2 < rs.length := (Nat.log2_lt h0).mpr hz
    have := det_even (n := N.chords.length) (M := wM N X) (r := z.log2) (c := fun l => if z.testBit l = true then 1 else 0) (by (first | lia | omega)) fun j hj => by
      have e1 := comb_cir hX (chord_lt hj).1 z
      rw [e, Nat.zero_testBit] at e1
      have e2 := of_decide_eq_false e1
      rw [su_more (k := z.log2 + 1) hlt fun i h1 h2 => by
        rw [if_neg (by
          rw [Nat.testBit_lt_two_pow (Nat.lt_of_lt_of_le Nat.lt_log2_self (Nat.pow_le_pow_right (by decide) h1))]
          decide), Int.zero_mul]] at e2
      have e3 : su (z.log2 + 1) (fun l => (if z.testBit l = true then 1 else 0) * X l (N.chords.getD j 0)) = su z.log2 (fun l => (if z.testBit l = true then 1 else 0) * X l (N.chords.getD j 0)) + X z.log2 (N.chords.getD j 0) := by
        show su z.log2 _ + (if z.testBit z.log2 = true then 1 else 0) * _ = _
        rw [if_pos hb, Int.one_mul]
      rw [e3] at e2
      show (X z.log2 (N.chords.getD j 0) + su z.log2 (fun l => (if z.testBit l = true then 1 else 0) * X l (N.chords.getD j 0))) % 2 = 0
      (first | lia | omega)
    (first | lia | omega)
  · intro h
    have b : Base N rs := ⟨hl, hr, h⟩
    have ex : ∀ i, ∃ z, i < N.chords.length → comb rs z = N.ring (N.chords.getD i 0) := fun i => by
      by_cases hi : i < N.chords.length
      · obtain ⟨z, _, e⟩ := b.span (ring_even (chord_lt hi).1) (ring_lt (chord_lt hi).1)
        exact ⟨z, fun _ => e⟩
      · exact ⟨0, fun z => absurd z hi⟩
    obtain ⟨Z, hZ⟩ := Classical.axiomOfChoice ex
    refine det_odd (C := fun r l => if (Z r).testBit l = true then 1 else 0) fun r c hr hc => ?_
    have e1 := comb_cir hX (chord_lt hc).1 (Z r)
    rw [hZ r hr, ring_chord (chord_lt hr).2 (chord_lt hc).2, hl] at e1
    have e2 : decide (N.chords.getD r 0 = N.chords.getD c 0) = decide (r = c) := decide_eq_decide.mpr ⟨fun z => by
      rw [List.getD_eq_getElem?_getD, List.getD_eq_getElem?_getD, List.getElem?_eq_getElem hr, List.getElem?_eq_getElem hc] at z
      exact (List.getElem_inj chords_nd).mp z, fun z => by rw [z]⟩
    rw [e2] at e1
    rw [Bool.eq_iff_iff, decide_eq_true_eq, decide_eq_true_eq] at e1
    show (su N.chords.length (fun l => (if (Z r).testBit l = true then 1 else 0) * X l (N.chords.getD c 0)) - Dt.un r c) % 2 = 0
    unfold Dt.un
    by_cases h : c = r
    · have := e1.mpr h.symm
      rw [if_pos h]
      (first | lia | omega)
    · have := mt e1.mp fun z => h z.symm
      rw [if_neg h]
      (first | lia | omega)
theorem worth_moved {N' : Net} {f g : Nat → Nat} {rs : List Nat} {X Y : Nat → Nat → Int} (h : Iso N N' f g) (ha : ∀ i, i < N.n → N'.a i = N.a (f i)) (hb : ∀ i, i < N.n → N'.b i = N.b (f i)) (hc : N'.chords.length = N.chords.length) (hl : rs.length = N.chords.length) (hr : ∀ r ∈ rs, N.Ring r ∧ r < 2 ^ N.n)
    (hX : ∀ i r, rs[i]? = some r → Cir N r (X i)) (hY : ∀ i r, rs[i]? = some r → Cir N' (turnS N.n f r) (Y i)) : (det N'.chords.length (wM N' Y)).natAbs = (det N.chords.length (wM N X)).natAbs := by
  have flow : ∀ (x : Nat → Int) v, fl N'.a N'.b N'.n (fun i => x (f i)) v = fl N.a N.b N.n x v := fun x v => by
    unfold fl
    rw [h.n, ← su_perm h.perm fun i => x i * (Dt.un (N.b i) v - Dt.un (N.a i) v)]
    exact su_congr fun i hi => by rw [ha i hi, hb i hi]
  have flow2 : ∀ (y : Nat → Int) v, fl N.a N.b N.n (fun k => y (g k)) v = fl N'.a N'.b N'.n y v := fun y v => by
    rw [← flow]
    unfold fl
    exact su_congr fun i hi => by dsimp only; rw [h.gf i (by rw [← h.n]; exact hi)]
  have hs : ∀ i, ∃ s : Int, i < N.chords.length → (s = 1 ∨ s = -1) ∧ ∀ j, j < N.n → Y i j = s * X i (f j) := fun i => by
    by_cases hi : i < rs.length
    · have e := List.getElem?_eq_getElem hi
      have rr := hr _ (List.getElem_mem hi)
      have cy := hY i _ e
      have c2 : Cir N rs[i] (fun k => Y i (g k)) := ⟨fun k hk hbk => cy.on _ (by rw [h.n]; exact h.gl k hk) (by rw [turn_bit, decide_eq_true (h.gl k hk), h.fg k hk, Bool.true_and]; exact hbk), fun k hk hbk => cy.off _ (by rw [h.n]; exact h.gl k hk) (by rw [turn_bit, decide_eq_true (h.gl k hk), h.fg k hk, Bool.true_and]; exact hbk), fun v hv => by rw [flow2]; exact cy.fl v (by rw [h.p]; exact hv)⟩
      obtain ⟨s, hs, hk⟩ := cir_one rr.2 rr.1 (hX i _ e) c2
      exact ⟨s, fun _ => ⟨hs, fun j hj => by
        have := hk (f j) (h.fl j hj)
        rw [h.gf j hj] at this
        exact this⟩⟩
    · exact ⟨1, fun z => absurd z (by (first | lia | omega))⟩
  obtain ⟨s, hs⟩ := Classical.axiomOfChoice hs
  have hC' : ∀ c, c < N.chords.length → N'.chords.getD c 0 < N.n := fun c hc1 => by
    have := (chord_lt (N := N') (i := c) (by rw [hc]; exact hc1)).1
    rw [← h.n]
    exact this
  have e1 := det_signs (n := N.chords.length) (M := fun r c => X r (f (N'.chords.getD c 0))) s (fun i hi => (hs i hi).1) N.chords.length (Nat.le_refl _)
  rw [hc, det_congr (M := wM N' Y) (M' := fun r c => if r < N.chords.length then s r * X r (f (N'.chords.getD c 0)) else X r (f (N'.chords.getD c 0))) fun r c hr1 hc1 => by
    rw [if_pos hr1]
    exact (hs r hr1).2 _ (hC' c hc1), e1]
  obtain ⟨F, hF, hu, _, sp⟩ := span_of N
  obtain ⟨F', hF', hu', _, sp'⟩ := span_of N'
  refine worth_same (L := fun k v => N.lab k v) (L' := fun k v => N.lab k v) (f := F) (f' := fun i k => F' i (g k)) N.al N.bl sp (fun x hx k hk => ?_) (fun j hj => (chord_lt hj).1) (fun j hj => h.fl _ (hC' j hj)) hF hu (fun r v hr1 hv => ?_)
  · have := sp' (fun i => x (f i)) (fun v hv => by rw [flow]; exact hx v (by rw [← h.p]; exact hv)) (g k) (by rw [h.n]; exact h.gl k hk)
    rw [h.fg k hk, hc] at this
    exact this
  · have hrl : r < rs.length := by (first | lia | omega)
    exact (hX r _ (List.getElem?_eq_getElem hrl)).fl v hv
def sumsL (rs : List Nat) : List Nat := (List.range (2 ^ rs.length)).map (comb rs)
theorem sums_snoc (rs : List Nat) (r : Nat) : sumsL (rs ++ [r]) = sumsL rs ++ (sumsL rs).map fun s => r ^^^ s := by
  unfold sumsL
  rw [List.length_append, List.length_singleton, Nat.pow_succ, Nat.mul_two, List.range_add, List.map_append, List.map_map, List.map_map]
  congr 1
  · refine List.map_congr_left fun z hz => ?_
    rw [comb_snoc, Nat.testBit_lt_two_pow (List.mem_range.mp hz)]
    exact Nat.xor_zero _
  · refine List.map_congr_left fun z hz => ?_
    have hz := List.mem_range.mp hz
    show comb (rs ++ [r]) (2 ^ rs.length + z) = r ^^^ comb rs z
    have e : 2 ^ rs.length + z = 2 ^ rs.length ^^^ z := by
      have e0 := Nat.two_pow_add_eq_or_of_lt hz 1
      rw [Nat.mul_one] at e0
      rw [e0]
      refine Nat.eq_of_testBit_eq fun i => ?_
      rw [Nat.testBit_or, Nat.testBit_xor, Nat.testBit_two_pow]
      by_cases hi : rs.length = i
      · subst hi
        rw [Nat.testBit_lt_two_pow hz, Bool.or_false, Bool.xor_false]
      · rw [decide_eq_false hi, Bool.false_or, Bool.false_xor]
    rw [e, comb_xor, comb_snoc, comb_snoc, Nat.testBit_lt_two_pow hz, Nat.testBit_two_pow_self, if_pos rfl, if_neg (by decide), Nat.xor_zero, comb_high rs fun i hi => by rw [Nat.testBit_two_pow]; exact decide_eq_false (by (first | lia | omega)), Nat.zero_xor]
theorem sums_len (rs : List Nat) : (sumsL rs).length = 2 ^ rs.length := by
  unfold sumsL
  rw [List.length_map, List.length_range]
theorem sums_one (rs : List Nat) : ((sumsL rs).filter fun s => decide (s = 0)).length = 1 ↔ Ind rs := by
  unfold sumsL
  rw [List.filter_map, List.length_map, cnt_range]
  have h0 := Nat.two_pow_pos rs.length
  generalize hn : 2 ^ rs.length = n at h0
  unfold Ind
  rw [hn]
  have f0 : ((fun s => decide (s = 0)) ∘ comb rs) 0 = true := decide_eq_true (comb_zero rs)
  have key : ∀ n, 0 < n → (cnt ((fun s => decide (s = 0)) ∘ comb rs) n = 1 ↔ ∀ z, z < n → comb rs z = 0 → z = 0) := fun n => by
    induction n with
    | zero => intro h; (first | lia | omega)
    | succ n ih =>
      intro _
      by_cases hn : n = 0
      · subst hn
        refine ⟨fun _ z hz _ => by (first | lia | omega), fun _ => ?_⟩
        show 0 + (if _ then 1 else 0) = 1
        rw [f0]
        rfl
      · have ih := ih (by (first | lia | omega))
        have hp := cnt_pos (f := (fun s => decide (s = 0)) ∘ comb rs) (n := n) f0 (by (first | lia | omega))
        show cnt _ n + (if decide (comb rs n = 0) = true then 1 else 0) = 1 ↔ _
        by_cases hc : comb rs n = 0
        · rw [if_pos (decide_eq_true hc)]
          exact ⟨fun z => by (first | lia | omega), fun z => absurd (z n (by (first | lia | omega)) hc) hn⟩
        · rw [if_neg (fun z => hc (of_decide_eq_true z)), Nat.add_zero, ih]
          exact ⟨fun h z hz e => by
            by_cases e2 : z = n
            · subst e2; exact absurd e hc
            · exact h z (by (first | lia | omega)) e, fun h z hz e => h z (by (first | lia | omega)) e⟩
  exact key n h0
theorem chord_ind : Ind (N.chords.map N.ring) := fun z hz e => by
  rw [List.length_map] at hz
  refine Nat.eq_of_testBit_eq fun j => ?_
  rw [Nat.zero_testBit]
  by_cases hj : j < N.chords.length
  · have e1 := comb_keys (N.chords.map N.ring) (k := N.chords.getD j 0) (z := z) (f := fun i => decide (i = j)) fun i r hi => by
      rw [List.getElem?_map] at hi
      obtain ⟨c, hc, rfl⟩ := Option.map_eq_some_iff.mp hi
      have hil := (List.getElem?_eq_some_iff.mp hc).1
      have ec : c = N.chords.getD i 0 := by rw [List.getD_eq_getElem?_getD, hc]; rfl
      rw [ec, ring_chord (chord_lt hil).2 (chord_lt hj).2]
      refine decide_eq_decide.mpr ⟨fun y => ?_, fun y => by rw [y]⟩
      rw [List.getD_eq_getElem?_getD, List.getD_eq_getElem?_getD, List.getElem?_eq_getElem hil, List.getElem?_eq_getElem hj] at y
      exact (List.getElem_inj chords_nd).mp y
    rw [e, Nat.zero_testBit, List.length_map, xsum_one (a := j) hj fun k _ hk => by rw [decide_eq_false hk, Bool.and_false], decide_eq_true rfl, Bool.and_true] at e1
    exact e1.symm
  · exact Nat.testBit_lt_two_pow (Nat.lt_of_lt_of_le hz (Nat.pow_le_pow_right (by decide) (by (first | lia | omega))))
theorem Iso.chords_le {N' : Net} {f g : Nat → Nat} (h : Iso N N' f g) : N.chords.length ≤ N'.chords.length := by
  have := ind_le (N := N') (h.ind (fun b hb => by
    obtain ⟨c, hc, rfl⟩ := List.mem_map.mp hb
    exact ring_lt (chords_mem.mp hc).1) chord_ind) fun b hb => by
      obtain ⟨r, hr, rfl⟩ := List.mem_map.mp hb
      obtain ⟨c, hc, rfl⟩ := List.mem_map.mp hr
      exact ⟨h.even (ring_even (chords_mem.mp hc).1), by rw [h.n]; exact turn_lt _ _ _⟩
  rw [List.length_map, List.length_map] at this
  exact this
theorem Iso.chords {N' : Net} {f g : Nat → Nat} (h : Iso N N' f g) : N'.chords.length = N.chords.length := Nat.le_antisymm h.symm.chords_le h.chords_le
end RM
namespace L2
open PySem
theorem for_range' {lo : Int} {n : Nat} {g : TG} {tb : TS} {D : Ends} {σ : St} {H : Hp} (Pv : Nat → St → Hp → Prop) (h0 : Pv 0 σ H)
    (hs : ∀ i, let D' : Ends := { D with nx := Pv (i + 1), ct := Pv (i + 1), bk := D.nx }; ∀ σ H, i < n → Pv i σ H → g (.int (lo + i)) σ H fun σ2 H2 => tb D' σ2 H2) (hd : ∀ σ H, Pv n σ H → D.nx σ H) :
    ∃ W : Nat → Nat → St → Hp → Prop, (∃ m, W 0 m σ H) ∧ ∀ i m σ H, W i m σ H →
      ((Itr lo n).stop i H ∧ D.nx σ H) ∨ ((Itr lo n).go i H ∧ ∃ N : St → Hp → Prop, (∀ σ' H', N σ' H' → ∃ m', m' < m ∧ W (i + 1) m' σ' H') ∧ ∀ x H', (Itr lo n).yld i H x H' → g x σ H' fun σ2 H2 => tb { D with nx := N, ct := N, bk := D.nx } σ2 H2) :=
  for_range Pv h0 (fun i σ H hi p => hs i σ H hi p) hd
theorem for_list' {K : PySem.W.Frag} {a : Addr} {xs : List V} {g : TG} {tb : TS} {D : Ends} {σ : St} {H : Hp} (Pv : Nat → St → Hp → Prop) (h0 : Pv 0 σ H) (hl : ∀ i σ H, i ≤ xs.length → Pv i σ H → SqL K H a xs)
    (hs : ∀ i x, let D' : Ends := { D with nx := Pv (i + 1), ct := Pv (i + 1), bk := D.nx }; ∀ σ H, xs[i]? = some x → Pv i σ H → g x σ H fun σ2 H2 => tb D' σ2 H2) (hd : ∀ σ H, Pv xs.length σ H → D.nx σ H) :
    ∃ W : Nat → Nat → St → Hp → Prop, (∃ m, W 0 m σ H) ∧ ∀ i m σ H, W i m σ H →
      ((Itl K a).stop i H ∧ D.nx σ H) ∨ ((Itl K a).go i H ∧ ∃ N : St → Hp → Prop, (∀ σ' H', N σ' H' → ∃ m', m' < m ∧ W (i + 1) m' σ' H') ∧ ∀ x H', (Itl K a).yld i H x H' → g x σ H' fun σ2 H2 => tb { D with nx := N, ct := N, bk := D.nx } σ2 H2) :=
  for_list Pv h0 hl (fun i x σ H hi p => hs i x σ H hi p) hd
theorem bmK {X : Cx} {e : Expr} {T : String} {r : V → List V → Hp → VK → Prop} {to : TE} {t : TA} (K : PySem.W.Frag) (p : PE X e (tBM X.K T r to t)) (h : X.K = K := by rfl) : PE X e (tBM K T r to t) := by subst h; exact p
theorem ixq {K : PySem.W.Frag} {H : Hp} {a : Addr} {xs : List V} {k : Int} {v : V} {R : V → Prop} (hs : SqT K H a xs) (ha : atI xs k = some v) (q : R v) : ∃ p ys k' w, V.ref a = .ref p ∧ V.int k = .int k' ∧ SqT K H p ys ∧ atI ys k' = some w ∧ R w := ⟨a, xs, k, v, rfl, rfl, hs, ha, q⟩
theorem ixl {K : PySem.W.Frag} {H : Hp} {a : Addr} {xs : List V} {k : Int} {v : V} {R : V → Prop} (hs : SqL K H a xs) (ha : atI xs k = some v) (q : R v) : ∃ p ys k' w, V.ref a = .ref p ∧ V.int k = .int k' ∧ SqL K H p ys ∧ atI ys k' = some w ∧ R w := ⟨a, xs, k, v, rfl, rfl, hs, ha, q⟩
theorem ijq {i j : Int} {R : Int → Int → Prop} (h : R i j) : ∃ i' j', V.int i = .int i' ∧ V.int j = .int j' ∧ R i' j' := ⟨i, j, rfl, rfl, h⟩
theorem lnq {K : PySem.W.Frag} {H : Hp} {a : Addr} {xs : List V} {E : Addr → Prop} {R : List V → Prop} (e : E a) (h : SqL K H a xs ∨ SqT K H a xs) (q : R xs) : ∃ p ys, E p ∧ (SqL K H p ys ∨ SqT K H p ys) ∧ R ys := ⟨a, xs, e, h, q⟩
theorem exq {α : Type} {A R : α → Prop} {x : α} (h : A x) (r : R x) : ∃ x, A x ∧ R x := ⟨x, h, r⟩
open PySem PySem.Spec PyProof.Rows
end L2
set_option maxHeartbeats 4000000
namespace K51
open PySem L2 Ring
def top (i : Nat) : Stmt := PySem.Challenge.pw_ringbase_k51_whole_worths_of_bases.main.body.getD i (.Pass ⟨0, 0, 0, 0⟩)
abbrev s_has_tie : Stmt := top 6
theorem sc_has_tie : FnScope ["tie_set", "tie"] ["tie_set", "tie"] (defScope s_has_tie) := ⟨rfl, rfl, rfl, by decide +kernel, rfl, by decide +kernel, by decide +kernel⟩
abbrev s_ties_in : Stmt := top 7
theorem sc_ties_in : FnScope ["tie_set"] ["tie_set"] (defScope s_ties_in) := ⟨rfl, rfl, rfl, by decide +kernel, rfl, by decide +kernel, by decide +kernel⟩
abbrev s_all_ties : Stmt := top 8
theorem sc_all_ties : FnScope ["web"] ["web"] (defScope s_all_ties) := ⟨rfl, rfl, rfl, by decide +kernel, rfl, by decide +kernel, by decide +kernel⟩
abbrev s_is_set : Stmt := top 9
theorem sc_is_set : FnScope ["web", "number"] ["web", "number"] (defScope s_is_set) := ⟨rfl, rfl, rfl, by decide +kernel, rfl, by decide +kernel, by decide +kernel⟩
abbrev s_check_set : Stmt := top 10
theorem sc_check_set : FnScope ["web", "tie_set"] ["web", "tie_set"] (defScope s_check_set) := ⟨rfl, rfl, rfl, by decide +kernel, rfl, by decide +kernel, by decide +kernel⟩
theorem hd_check_set {sa0 : TS} {sc0 : TT} {D : Ends} {σ : St} {H : Hp} (h : let zz0 : TS := sa0; (tIfS sc0 zz0 tNext) D σ H) : (tIfS sc0 sa0 tNext) D σ H := h
abbrev s_triples_in : Stmt := top 11
theorem sc_triples_in : FnScope ["web", "tie_set"] ["web", "tie_set"] (defScope s_triples_in) := ⟨rfl, rfl, rfl, by decide +kernel, rfl, by decide +kernel, by decide +kernel⟩
theorem hd_triples_in {sa0 sa1 : TS} {D : Ends} {σ : St} {H : Hp} (h : let zz0 : TS := sa0; (tSeq sa1 zz0) D σ H) : (tSeq sa1 sa0) D σ H := h
abbrev s_odd_points : Stmt := top 12
theorem sc_odd_points : FnScope ["web", "tie_set", "ends", "one", "other", "length"] ["web", "tie_set"] (defScope s_odd_points) := ⟨rfl, rfl, rfl, by decide +kernel, rfl, by decide +kernel, by decide +kernel⟩
theorem hd_odd_points {sa0 sa1 sa2 sa3 : TS} {si0 : TI} {sg0 : TG} {D : Ends} {σ : St} {H : Hp} (h : let zz0 : TS := sa0; let zz1 : TS := sa1; let zz2 : TS := (tSeq sa2 zz1); let zz3 : TS := (tSeq (tFor si0 sg0 zz2) zz0); (tSeq sa3 zz3) D σ H) : (tSeq sa3 (tSeq (tFor si0 sg0 (tSeq sa2 sa1)) sa0)) D σ H := h
abbrev s_drawn_together : Stmt := top 13
theorem sc_drawn_together : FnScope ["leasts", "one", "other", "low", "high"] ["leasts", "one", "other"] (defScope s_drawn_together) := ⟨rfl, rfl, rfl, by decide +kernel, rfl, by decide +kernel, by decide +kernel⟩
theorem hd_drawn_together {sa0 sa1 sa2 : TS} {D : Ends} {σ : St} {H : Hp} (h : let zz0 : TS := sa0; let zz1 : TS := (tSeq sa1 zz0); (tSeq sa2 zz1) D σ H) : (tSeq sa2 (tSeq sa1 sa0)) D σ H := h
abbrev s_pieces : Stmt := top 14
theorem sc_pieces : FnScope ["web", "tie_set", "leasts", "one", "other", "length", "found", "start"] ["web", "tie_set"] (defScope s_pieces) := ⟨rfl, rfl, rfl, by decide +kernel, rfl, by decide +kernel, by decide +kernel⟩
theorem hd_pieces {sa0 sa1 sa2 sa3 sa4 : TS} {sc0 : TT} {si0 si1 : TI} {sg0 sg1 : TG} {D : Ends} {σ : St} {H : Hp} (h : let zz0 : TS := sa0; let zz1 : TS := sa1; let zz2 : TS := (tIfS sc0 zz1 tNext); let zz3 : TS := (tSeq (tFor si0 sg0 zz2) zz0); let zz4 : TS := (tSeq sa2 zz3); let zz5 : TS := sa3; let zz6 : TS := (tSeq (tFor si1 sg1 zz5) zz4); (tSeq sa4 zz6) D σ H) : (tSeq sa4 (tSeq (tFor si1 sg1 sa3) (tSeq sa2 (tSeq (tFor si0 sg0 (tIfS sc0 sa1 tNext)) sa0)))) D σ H := h
abbrev s_rank : Stmt := top 15
theorem sc_rank : FnScope ["web"] ["web"] (defScope s_rank) := ⟨rfl, rfl, rfl, by decide +kernel, rfl, by decide +kernel, by decide +kernel⟩
abbrev s_is_even : Stmt := top 17
theorem sc_is_even : FnScope ["web", "tie_set"] ["web", "tie_set"] (defScope s_is_even) := ⟨rfl, rfl, rfl, by decide +kernel, rfl, by decide +kernel, by decide +kernel⟩
abbrev s_forest_trails : Stmt := top 18
theorem sc_forest_trails : FnScope ["web", "leasts", "trails", "tie", "one", "other", "bridge", "moved"] ["web"] (defScope s_forest_trails) := ⟨rfl, rfl, rfl, by decide +kernel, rfl, by decide +kernel, by decide +kernel⟩
theorem hd_forest_trails {sa0 sa1 sa2 sa3 sa4 sa5 sa6 sa7 sa8 : TS} {sc0 : TT} {si0 : TI} {sg0 : TG} {D : Ends} {σ : St} {H : Hp} (h : let zz0 : TS := sa0; let zz1 : TS := sa1; let zz2 : TS := (tSeq sa2 zz1); let zz3 : TS := (tSeq sa3 zz2); let zz4 : TS := (tSeq sa4 zz3); let zz5 : TS := (tIfS sc0 zz4 tNext); let zz6 : TS := (tSeq sa5 zz5); let zz7 : TS := (tSeq sa6 zz6); let zz8 : TS := (tSeq (tFor si0 sg0 zz7) zz0); let zz9 : TS := (tSeq sa7 zz8); (tSeq sa8 zz9) D σ H) : (tSeq sa8 (tSeq sa7 (tSeq (tFor si0 sg0 (tSeq sa6 (tSeq sa5 (tIfS sc0 (tSeq sa4 (tSeq sa3 (tSeq sa2 sa1))) tNext)))) sa0))) D σ H := h
abbrev s_forest : Stmt := top 19
theorem sc_forest : FnScope ["web", "found", "trail"] ["web"] (defScope s_forest) := ⟨rfl, rfl, rfl, by decide +kernel, rfl, by decide +kernel, by decide +kernel⟩
theorem hd_forest {sa0 sa1 sa2 : TS} {si0 : TI} {sg0 : TG} {D : Ends} {σ : St} {H : Hp} (h : let zz0 : TS := sa0; let zz1 : TS := sa1; let zz2 : TS := (tSeq (tFor si0 sg0 zz1) zz0); (tSeq sa2 zz2) D σ H) : (tSeq sa2 (tSeq (tFor si0 sg0 sa1) sa0)) D σ H := h
abbrev s_chords : Stmt := top 20
theorem sc_chords : FnScope ["web"] ["web"] (defScope s_chords) := ⟨rfl, rfl, rfl, by decide +kernel, rfl, by decide +kernel, by decide +kernel⟩
abbrev s_is_ring : Stmt := top 22
theorem sc_is_ring : FnScope ["web", "tie_set", "touched"] ["web", "tie_set"] (defScope s_is_ring) := ⟨rfl, rfl, rfl, by decide +kernel, rfl, by decide +kernel, by decide +kernel⟩
theorem hd_is_ring {sa0 sa1 sa2 : TS} {sc0 : TT} {D : Ends} {σ : St} {H : Hp} (h : let zz0 : TS := sa0; let zz1 : TS := (tSeq sa1 zz0); let zz2 : TS := sa2; (tSeq (tIfS sc0 zz2 tNext) zz1) D σ H) : (tSeq (tIfS sc0 sa2 tNext) (tSeq sa1 sa0)) D σ H := h
abbrev s_check_ring : Stmt := top 23
theorem sc_check_ring : FnScope ["web", "ring"] ["web", "ring"] (defScope s_check_ring) := ⟨rfl, rfl, rfl, by decide +kernel, rfl, by decide +kernel, by decide +kernel⟩
theorem hd_check_ring {sa0 : TS} {sc0 : TT} {D : Ends} {σ : St} {H : Hp} (h : let zz0 : TS := sa0; (tIfS sc0 zz0 tNext) D σ H) : (tIfS sc0 sa0 tNext) D σ H := h
abbrev s_tie_at : Stmt := top 24
theorem sc_tie_at : FnScope ["web", "tie_set", "point"] ["web", "tie_set", "point"] (defScope s_tie_at) := ⟨rfl, rfl, rfl, by decide +kernel, rfl, by decide +kernel, by decide +kernel⟩
abbrev s_far_end : Stmt := top 25
theorem sc_far_end : FnScope ["web", "tie", "point", "ends"] ["web", "tie", "point"] (defScope s_far_end) := ⟨rfl, rfl, rfl, by decide +kernel, rfl, by decide +kernel, by decide +kernel⟩
theorem hd_far_end {sa0 sa1 : TS} {D : Ends} {σ : St} {H : Hp} (h : let zz0 : TS := sa0; (tSeq sa1 zz0) D σ H) : (tSeq sa1 sa0) D σ H := h
abbrev s_walked : Stmt := top 26
theorem sc_walked : FnScope ["web", "ring", "first", "walk", "point", "left", "tie"] ["web", "ring"] (defScope s_walked) := ⟨rfl, rfl, rfl, by decide +kernel, rfl, by decide +kernel, by decide +kernel⟩
theorem hd_walked {sa0 sa1 sa2 sa3 sa4 sa5 sa6 sa7 sa8 sa9 : TS} {sc0 : TT} {D : Ends} {σ : St} {H : Hp} (h : let zz0 : TS := sa0; let zz1 : TS := sa1; let zz2 : TS := (tSeq sa2 zz1); let zz3 : TS := (tSeq sa3 zz2); let zz4 : TS := (tSeq sa4 zz3); let zz5 : TS := (tSeq (tWhile sc0 zz4) zz0); let zz6 : TS := (tSeq sa5 zz5); let zz7 : TS := (tSeq sa6 zz6); let zz8 : TS := (tSeq sa7 zz7); let zz9 : TS := (tSeq sa8 zz8); (tSeq sa9 zz9) D σ H) : (tSeq sa9 (tSeq sa8 (tSeq sa7 (tSeq sa6 (tSeq sa5 (tSeq (tWhile sc0 (tSeq sa4 (tSeq sa3 (tSeq sa2 sa1)))) sa0)))))) D σ H := h
abbrev s_row_to_lead : Stmt := top 28
theorem sc_row_to_lead : FnScope ["rows", "step", "place"] ["rows", "step"] (defScope s_row_to_lead) := ⟨rfl, rfl, rfl, by decide +kernel, rfl, by decide +kernel, by decide +kernel⟩
theorem hd_row_to_lead {sa0 sa1 : TS} {sc0 : TT} {si0 : TI} {sg0 : TG} {D : Ends} {σ : St} {H : Hp} (h : let zz0 : TS := sa0; let zz1 : TS := sa1; let zz2 : TS := (tIfS sc0 zz1 tNext); (tSeq (tFor si0 sg0 zz2) zz0) D σ H) : (tSeq (tFor si0 sg0 (tIfS sc0 sa1 tNext)) sa0) D σ H := h
abbrev s_row_cleared : Stmt := top 29
theorem sc_row_cleared : FnScope ["row", "lead_row", "step", "divisor"] ["row", "lead_row", "step", "divisor"] (defScope s_row_cleared) := ⟨rfl, rfl, rfl, by decide +kernel, rfl, by decide +kernel, by decide +kernel⟩
abbrev s_determinant : Stmt := top 30
theorem sc_determinant : FnScope ["table", "rows", "sign", "divisor", "step", "place", "lead_row", "below"] ["table"] (defScope s_determinant) := ⟨rfl, rfl, rfl, by decide +kernel, rfl, by decide +kernel, by decide +kernel⟩
theorem hd_determinant {sa0 sa1 sa2 sa3 sa4 sa5 sa6 sa7 sa8 sa9 sa10 sa11 : TS} {sc0 sc1 : TT} {si0 si1 : TI} {sg0 sg1 : TG} {D : Ends} {σ : St} {H : Hp} (h : let zz0 : TS := sa0; let zz1 : TS := sa1; let zz2 : TS := sa2; let zz3 : TS := (tSeq (tFor si1 sg1 zz2) zz1); let zz4 : TS := sa3; let zz5 : TS := (tSeq sa4 zz4); let zz6 : TS := (tSeq sa5 zz5); let zz7 : TS := (tSeq sa6 zz6); let zz8 : TS := (tSeq (tIfS sc0 zz7 tNext) zz3); let zz9 : TS := sa7; let zz10 : TS := (tSeq (tIfS sc1 zz9 tNext) zz8); let zz11 : TS := (tSeq sa8 zz10); let zz12 : TS := (tSeq (tFor si0 sg0 zz11) zz0); let zz13 : TS := (tSeq sa9 zz12); let zz14 : TS := (tSeq sa10 zz13); (tSeq sa11 zz14) D σ H) : (tSeq sa11 (tSeq sa10 (tSeq sa9 (tSeq (tFor si0 sg0 (tSeq sa8 (tSeq (tIfS sc1 sa7 tNext) (tSeq (tIfS sc0 (tSeq sa6 (tSeq sa5 (tSeq sa4 sa3))) tNext) (tSeq (tFor si1 sg1 sa2) sa1))))) sa0)))) D σ H := h
abbrev s_ways_of : Stmt := top 31
theorem sc_ways_of : FnScope ["web", "ring", "ways", "tie", "way"] ["web", "ring"] (defScope s_ways_of) := ⟨rfl, rfl, rfl, by decide +kernel, rfl, by decide +kernel, by decide +kernel⟩
theorem hd_ways_of {sa0 sa1 sa2 : TS} {si0 : TI} {sg0 : TG} {D : Ends} {σ : St} {H : Hp} (h : let zz0 : TS := sa0; let zz1 : TS := sa1; let zz2 : TS := (tSeq (tFor si0 sg0 zz1) zz0); (tSeq sa2 zz2) D σ H) : (tSeq sa2 (tSeq (tFor si0 sg0 sa1) sa0)) D σ H := h
abbrev s_ring_worth : Stmt := top 32
theorem sc_ring_worth : FnScope ["web", "rings", "crossed", "table", "ring", "ways"] ["web", "rings"] (defScope s_ring_worth) := ⟨rfl, rfl, rfl, by decide +kernel, rfl, by decide +kernel, by decide +kernel⟩
theorem hd_ring_worth {sa0 sa1 sa2 sa3 sa4 sa5 : TS} {sc0 : TT} {si0 : TI} {sg0 : TG} {D : Ends} {σ : St} {H : Hp} (h : let zz0 : TS := sa0; let zz1 : TS := sa1; let zz2 : TS := (tSeq sa2 zz1); let zz3 : TS := (tSeq (tFor si0 sg0 zz2) zz0); let zz4 : TS := (tSeq sa3 zz3); let zz5 : TS := (tSeq sa4 zz4); let zz6 : TS := sa5; (tSeq (tIfS sc0 zz6 tNext) zz5) D σ H) : (tSeq (tIfS sc0 sa5 tNext) (tSeq sa4 (tSeq sa3 (tSeq (tFor si0 sg0 (tSeq sa2 sa1)) sa0)))) D σ H := h
abbrev s_law_cell : Stmt := top 34
theorem sc_law_cell : FnScope ["script", "k"] ["script", "k"] (defScope s_law_cell) := ⟨rfl, rfl, rfl, by decide +kernel, rfl, by decide +kernel, by decide +kernel⟩
theorem hd_law_cell {sa0 sa1 : TS} {sc0 : TT} {D : Ends} {σ : St} {H : Hp} (h : let zz0 : TS := sa0; let zz1 : TS := sa1; (tSeq (tIfS sc0 zz1 tNext) zz0) D σ H) : (tSeq (tIfS sc0 sa1 tNext) sa0) D σ H := h
abbrev s_law_stir : Stmt := top 35
theorem sc_law_stir : FnScope ["cell", "k", "near"] ["cell", "k"] (defScope s_law_stir) := ⟨rfl, rfl, rfl, by decide +kernel, rfl, by decide +kernel, by decide +kernel⟩
theorem hd_law_stir {sa0 sa1 sa2 : TS} {D : Ends} {σ : St} {H : Hp} (h : let zz0 : TS := sa0; let zz1 : TS := (tSeq sa1 zz0); (tSeq sa2 zz1) D σ H) : (tSeq sa2 (tSeq sa1 sa0)) D σ H := h
abbrev s_law_tie : Stmt := top 36
theorem sc_law_tie : FnScope ["c", "points", "times", "one", "other"] ["c", "points", "times"] (defScope s_law_tie) := ⟨rfl, rfl, rfl, by decide +kernel, rfl, by decide +kernel, by decide +kernel⟩
theorem hd_law_tie {sa0 sa1 sa2 sa3 sa4 : TS} {D : Ends} {σ : St} {H : Hp} (h : let zz0 : TS := sa0; let zz1 : TS := (tSeq sa1 zz0); let zz2 : TS := (tSeq sa2 zz1); let zz3 : TS := (tSeq sa3 zz2); (tSeq sa4 zz3) D σ H) : (tSeq sa4 (tSeq sa3 (tSeq sa2 (tSeq sa1 sa0)))) D σ H := h
abbrev s_law_web : Stmt := top 37
theorem sc_law_web : FnScope ["script", "most", "head", "points", "times", "ties", "c", "k", "tie"] ["script", "most"] (defScope s_law_web) := ⟨rfl, rfl, rfl, by decide +kernel, rfl, by decide +kernel, by decide +kernel⟩
theorem hd_law_web {sa0 sa1 sa2 sa3 sa4 sa5 sa6 sa7 sa8 : TS} {sc0 sc1 : TT} {si0 si1 : TI} {sg0 sg1 : TG} {D : Ends} {σ : St} {H : Hp} (h : let zz0 : TS := sa0; let zz1 : TS := sa1; let zz2 : TS := (tFor si0 sg0 zz1); let zz3 : TS := (tSeq (tIfS sc0 zz2 tNext) zz0); let zz4 : TS := sa2; let zz5 : TS := (tSeq sa3 zz4); let zz6 : TS := (tFor si1 sg1 zz5); let zz7 : TS := (tSeq sa4 zz6); let zz8 : TS := (tSeq (tIfS sc1 zz7 tNext) zz3); let zz9 : TS := (tSeq sa5 zz8); let zz10 : TS := (tSeq sa6 zz9); let zz11 : TS := (tSeq sa7 zz10); (tSeq sa8 zz11) D σ H) : (tSeq sa8 (tSeq sa7 (tSeq sa6 (tSeq sa5 (tSeq (tIfS sc1 (tSeq sa4 (tFor si1 sg1 (tSeq sa3 sa2))) tNext) (tSeq (tIfS sc0 (tFor si0 sg0 sa1) tNext) sa0)))))) D σ H := h
abbrev s_law_ties : Stmt := top 38
theorem sc_law_ties : FnScope ["some"] ["some"] (defScope s_law_ties) := ⟨rfl, rfl, rfl, by decide +kernel, rfl, by decide +kernel, by decide +kernel⟩
abbrev s_law_odd : Stmt := top 39
theorem sc_law_odd : FnScope ["web", "some", "ends", "tie", "point"] ["web", "some"] (defScope s_law_odd) := ⟨rfl, rfl, rfl, by decide +kernel, rfl, by decide +kernel, by decide +kernel⟩
theorem hd_law_odd {sa0 sa1 sa2 : TS} {si0 si1 : TI} {sg0 sg1 : TG} {D : Ends} {σ : St} {H : Hp} (h : let zz0 : TS := sa0; let zz1 : TS := sa1; let zz2 : TS := (tFor si1 sg1 zz1); let zz3 : TS := (tSeq (tFor si0 sg0 zz2) zz0); (tSeq sa2 zz3) D σ H) : (tSeq sa2 (tSeq (tFor si0 sg0 (tFor si1 sg1 sa1)) sa0)) D σ H := h
abbrev s_law_rings : Stmt := top 40
theorem sc_law_rings : FnScope ["web", "evens"] ["web"] (defScope s_law_rings) := ⟨rfl, rfl, rfl, by decide +kernel, rfl, by decide +kernel, by decide +kernel⟩
theorem hd_law_rings {sa0 sa1 : TS} {D : Ends} {σ : St} {H : Hp} (h : let zz0 : TS := sa0; (tSeq sa1 zz0) D σ H) : (tSeq sa1 sa0) D σ H := h
abbrev s_law_sums : Stmt := top 41
theorem sc_law_sums : FnScope ["rings", "sums", "ring"] ["rings"] (defScope s_law_sums) := ⟨rfl, rfl, rfl, by decide +kernel, rfl, by decide +kernel, by decide +kernel⟩
theorem hd_law_sums {sa0 sa1 sa2 : TS} {si0 : TI} {sg0 : TG} {D : Ends} {σ : St} {H : Hp} (h : let zz0 : TS := sa0; let zz1 : TS := sa1; let zz2 : TS := (tSeq (tFor si0 sg0 zz1) zz0); (tSeq sa2 zz2) D σ H) : (tSeq sa2 (tSeq (tFor si0 sg0 sa1) sa0)) D σ H := h
abbrev s_law_is_base : Stmt := top 42
theorem sc_law_is_base : FnScope ["rings"] ["rings"] (defScope s_law_is_base) := ⟨rfl, rfl, rfl, by decide +kernel, rfl, by decide +kernel, by decide +kernel⟩
abbrev s_law_moved : Stmt := top 43
theorem sc_law_moved : FnScope ["web", "ring", "order"] ["web", "ring", "order"] (defScope s_law_moved) := ⟨rfl, rfl, rfl, by decide +kernel, rfl, by decide +kernel, by decide +kernel⟩
abbrev s_law : Stmt := top 44
theorem sc_law : FnScope ["script", "web", "all_of", "many", "order", "k", "other", "turn", "rings", "worth", "ring", "changed"] ["script"] (defScope s_law) := ⟨rfl, rfl, rfl, by decide +kernel, rfl, by decide +kernel, by decide +kernel⟩
theorem hd_law {sa0 sa1 sa2 sa3 sa4 sa5 sa6 sa7 sa8 sa9 sa10 sa11 sa12 : TS} {sc0 sc1 sc2 sc3 : TT} {si0 si1 si2 : TI} {sg0 sg1 sg2 : TG} {D : Ends} {σ : St} {H : Hp} (h : let zz0 : TS := sa0; let zz1 : TS := sa1; let zz2 : TS := (tIfS sc1 zz1 tNext); let zz3 : TS := (tSeq sa2 zz2); let zz4 : TS := (tFor si1 sg1 zz3); let zz5 : TS := (tIfS sc0 zz4 tNext); let zz6 : TS := sa3; let zz7 : TS := (tSeq (tIfS sc2 zz6 tNext) zz5); let zz8 : TS := sa4; let zz9 : TS := (tSeq (tIfS sc3 zz8 tNext) zz7); let zz10 : TS := (tSeq sa5 zz9); let zz11 : TS := (tSeq sa6 zz10); let zz12 : TS := (tSeq (tFor si0 sg0 zz11) zz0); let zz13 : TS := (tSeq sa7 zz12); let zz14 : TS := sa8; let zz15 : TS := (tSeq (tFor si2 sg2 zz14) zz13); let zz16 : TS := (tSeq sa9 zz15); let zz17 : TS := (tSeq sa10 zz16); let zz18 : TS := (tSeq sa11 zz17); (tSeq sa12 zz18) D σ H) : (tSeq sa12 (tSeq sa11 (tSeq sa10 (tSeq sa9 (tSeq (tFor si2 sg2 sa8) (tSeq sa7 (tSeq (tFor si0 sg0 (tSeq sa6 (tSeq sa5 (tSeq (tIfS sc3 sa4 tNext) (tSeq (tIfS sc2 sa3 tNext) (tIfS sc0 (tFor si1 sg1 (tSeq sa2 (tIfS sc1 sa1 tNext))) tNext)))))) sa0))))))) D σ H := h
set_option genInjectivity false
set_option genSizeOf false
structure Adr where
  f_has_tie : Addr
  d_has_tie : FuncData
  f_ties_in : Addr
  d_ties_in : FuncData
  f_all_ties : Addr
  d_all_ties : FuncData
  f_is_set : Addr
  d_is_set : FuncData
  f_check_set : Addr
  d_check_set : FuncData
  f_triples_in : Addr
  d_triples_in : FuncData
  f_odd_points : Addr
  d_odd_points : FuncData
  f_drawn_together : Addr
  d_drawn_together : FuncData
  f_pieces : Addr
  d_pieces : FuncData
  f_rank : Addr
  d_rank : FuncData
  f_is_even : Addr
  d_is_even : FuncData
  f_forest_trails : Addr
  d_forest_trails : FuncData
  f_forest : Addr
  d_forest : FuncData
  f_chords : Addr
  d_chords : FuncData
  f_is_ring : Addr
  d_is_ring : FuncData
  f_check_ring : Addr
  d_check_ring : FuncData
  f_tie_at : Addr
  d_tie_at : FuncData
  f_far_end : Addr
  d_far_end : FuncData
  f_walked : Addr
  d_walked : FuncData
  f_row_to_lead : Addr
  d_row_to_lead : FuncData
  f_row_cleared : Addr
  d_row_cleared : FuncData
  f_determinant : Addr
  d_determinant : FuncData
  f_ways_of : Addr
  d_ways_of : FuncData
  f_ring_worth : Addr
  d_ring_worth : FuncData
  f_law_cell : Addr
  d_law_cell : FuncData
  f_law_stir : Addr
  d_law_stir : FuncData
  f_law_tie : Addr
  d_law_tie : FuncData
  f_law_web : Addr
  d_law_web : FuncData
  f_law_ties : Addr
  d_law_ties : FuncData
  f_law_odd : Addr
  d_law_odd : FuncData
  f_law_rings : Addr
  d_law_rings : FuncData
  f_law_sums : Addr
  d_law_sums : FuncData
  f_law_is_base : Addr
  d_law_is_base : FuncData
  f_law_moved : Addr
  d_law_moved : FuncData
  f_law : Addr
  d_law : FuncData
  c_BadSet : Addr
  c_NotRing : Addr
  c_NoBase : Addr
structure Txt (K : PySem.W.Frag) (mg : Str → Option Value) (a : Adr) : Prop where
  F_has_tie : Fun K "has_tie" "has_tie" s_has_tie a.f_has_tie a.d_has_tie
  m_has_tie : mg "has_tie" = some (.ref a.f_has_tie)
  b_has_tie : Binds K a.d_has_tie ["tie_set", "tie"] []
  F_ties_in : Fun K "ties_in" "ties_in" s_ties_in a.f_ties_in a.d_ties_in
  m_ties_in : mg "ties_in" = some (.ref a.f_ties_in)
  b_ties_in : Binds K a.d_ties_in ["tie_set"] []
  F_all_ties : Fun K "all_ties" "all_ties" s_all_ties a.f_all_ties a.d_all_ties
  m_all_ties : mg "all_ties" = some (.ref a.f_all_ties)
  b_all_ties : Binds K a.d_all_ties ["web"] []
  F_is_set : Fun K "is_set" "is_set" s_is_set a.f_is_set a.d_is_set
  m_is_set : mg "is_set" = some (.ref a.f_is_set)
  b_is_set : Binds K a.d_is_set ["web", "number"] []
  F_check_set : Fun K "check_set" "check_set" s_check_set a.f_check_set a.d_check_set
  m_check_set : mg "check_set" = some (.ref a.f_check_set)
  b_check_set : Binds K a.d_check_set ["web", "tie_set"] []
  F_triples_in : Fun K "triples_in" "triples_in" s_triples_in a.f_triples_in a.d_triples_in
  m_triples_in : mg "triples_in" = some (.ref a.f_triples_in)
  b_triples_in : Binds K a.d_triples_in ["web", "tie_set"] []
  F_odd_points : Fun K "odd_points" "odd_points" s_odd_points a.f_odd_points a.d_odd_points
  m_odd_points : mg "odd_points" = some (.ref a.f_odd_points)
  b_odd_points : Binds K a.d_odd_points ["web", "tie_set"] []
  F_drawn_together : Fun K "drawn_together" "drawn_together" s_drawn_together a.f_drawn_together a.d_drawn_together
  m_drawn_together : mg "drawn_together" = some (.ref a.f_drawn_together)
  b_drawn_together : Binds K a.d_drawn_together ["leasts", "one", "other"] []
  F_pieces : Fun K "pieces" "pieces" s_pieces a.f_pieces a.d_pieces
  m_pieces : mg "pieces" = some (.ref a.f_pieces)
  b_pieces : Binds K a.d_pieces ["web", "tie_set"] []
  F_rank : Fun K "rank" "rank" s_rank a.f_rank a.d_rank
  m_rank : mg "rank" = some (.ref a.f_rank)
  b_rank : Binds K a.d_rank ["web"] []
  F_is_even : Fun K "is_even" "is_even" s_is_even a.f_is_even a.d_is_even
  m_is_even : mg "is_even" = some (.ref a.f_is_even)
  b_is_even : Binds K a.d_is_even ["web", "tie_set"] []
  F_forest_trails : Fun K "forest_trails" "forest_trails" s_forest_trails a.f_forest_trails a.d_forest_trails
  m_forest_trails : mg "forest_trails" = some (.ref a.f_forest_trails)
  b_forest_trails : Binds K a.d_forest_trails ["web"] []
  F_forest : Fun K "forest" "forest" s_forest a.f_forest a.d_forest
  m_forest : mg "forest" = some (.ref a.f_forest)
  b_forest : Binds K a.d_forest ["web"] []
  F_chords : Fun K "chords" "chords" s_chords a.f_chords a.d_chords
  m_chords : mg "chords" = some (.ref a.f_chords)
  b_chords : Binds K a.d_chords ["web"] []
  F_is_ring : Fun K "is_ring" "is_ring" s_is_ring a.f_is_ring a.d_is_ring
  m_is_ring : mg "is_ring" = some (.ref a.f_is_ring)
  b_is_ring : Binds K a.d_is_ring ["web", "tie_set"] []
  F_check_ring : Fun K "check_ring" "check_ring" s_check_ring a.f_check_ring a.d_check_ring
  m_check_ring : mg "check_ring" = some (.ref a.f_check_ring)
  b_check_ring : Binds K a.d_check_ring ["web", "ring"] []
  F_tie_at : Fun K "tie_at" "tie_at" s_tie_at a.f_tie_at a.d_tie_at
  m_tie_at : mg "tie_at" = some (.ref a.f_tie_at)
  b_tie_at : Binds K a.d_tie_at ["web", "tie_set", "point"] []
  F_far_end : Fun K "far_end" "far_end" s_far_end a.f_far_end a.d_far_end
  m_far_end : mg "far_end" = some (.ref a.f_far_end)
  b_far_end : Binds K a.d_far_end ["web", "tie", "point"] []
  F_walked : Fun K "walked" "walked" s_walked a.f_walked a.d_walked
  m_walked : mg "walked" = some (.ref a.f_walked)
  b_walked : Binds K a.d_walked ["web", "ring"] []
  F_row_to_lead : Fun K "row_to_lead" "row_to_lead" s_row_to_lead a.f_row_to_lead a.d_row_to_lead
  m_row_to_lead : mg "row_to_lead" = some (.ref a.f_row_to_lead)
  b_row_to_lead : Binds K a.d_row_to_lead ["rows", "step"] []
  F_row_cleared : Fun K "row_cleared" "row_cleared" s_row_cleared a.f_row_cleared a.d_row_cleared
  m_row_cleared : mg "row_cleared" = some (.ref a.f_row_cleared)
  b_row_cleared : Binds K a.d_row_cleared ["row", "lead_row", "step", "divisor"] []
  F_determinant : Fun K "determinant" "determinant" s_determinant a.f_determinant a.d_determinant
  m_determinant : mg "determinant" = some (.ref a.f_determinant)
  b_determinant : Binds K a.d_determinant ["table"] []
  F_ways_of : Fun K "ways_of" "ways_of" s_ways_of a.f_ways_of a.d_ways_of
  m_ways_of : mg "ways_of" = some (.ref a.f_ways_of)
  b_ways_of : Binds K a.d_ways_of ["web", "ring"] []
  F_ring_worth : Fun K "ring_worth" "ring_worth" s_ring_worth a.f_ring_worth a.d_ring_worth
  m_ring_worth : mg "ring_worth" = some (.ref a.f_ring_worth)
  b_ring_worth : Binds K a.d_ring_worth ["web", "rings"] []
  F_law_cell : Fun K "_law_cell" "_law_cell" s_law_cell a.f_law_cell a.d_law_cell
  m_law_cell : mg "_law_cell" = some (.ref a.f_law_cell)
  b_law_cell : Binds K a.d_law_cell ["script", "k"] []
  F_law_stir : Fun K "_law_stir" "_law_stir" s_law_stir a.f_law_stir a.d_law_stir
  m_law_stir : mg "_law_stir" = some (.ref a.f_law_stir)
  b_law_stir : Binds K a.d_law_stir ["cell", "k"] []
  F_law_tie : Fun K "_law_tie" "_law_tie" s_law_tie a.f_law_tie a.d_law_tie
  m_law_tie : mg "_law_tie" = some (.ref a.f_law_tie)
  b_law_tie : Binds K a.d_law_tie ["c", "points", "times"] []
  F_law_web : Fun K "_law_web" "_law_web" s_law_web a.f_law_web a.d_law_web
  m_law_web : mg "_law_web" = some (.ref a.f_law_web)
  b_law_web : Binds K a.d_law_web ["script", "most"] []
  F_law_ties : Fun K "_law_ties" "_law_ties" s_law_ties a.f_law_ties a.d_law_ties
  m_law_ties : mg "_law_ties" = some (.ref a.f_law_ties)
  b_law_ties : Binds K a.d_law_ties ["some"] []
  F_law_odd : Fun K "_law_odd" "_law_odd" s_law_odd a.f_law_odd a.d_law_odd
  m_law_odd : mg "_law_odd" = some (.ref a.f_law_odd)
  b_law_odd : Binds K a.d_law_odd ["web", "some"] []
  F_law_rings : Fun K "_law_rings" "_law_rings" s_law_rings a.f_law_rings a.d_law_rings
  m_law_rings : mg "_law_rings" = some (.ref a.f_law_rings)
  b_law_rings : Binds K a.d_law_rings ["web"] []
  F_law_sums : Fun K "_law_sums" "_law_sums" s_law_sums a.f_law_sums a.d_law_sums
  m_law_sums : mg "_law_sums" = some (.ref a.f_law_sums)
  b_law_sums : Binds K a.d_law_sums ["rings"] []
  F_law_is_base : Fun K "_law_is_base" "_law_is_base" s_law_is_base a.f_law_is_base a.d_law_is_base
  m_law_is_base : mg "_law_is_base" = some (.ref a.f_law_is_base)
  b_law_is_base : Binds K a.d_law_is_base ["rings"] []
  F_law_moved : Fun K "_law_moved" "_law_moved" s_law_moved a.f_law_moved a.d_law_moved
  m_law_moved : mg "_law_moved" = some (.ref a.f_law_moved)
  b_law_moved : Binds K a.d_law_moved ["web", "ring", "order"] []
  F_law : Fun K "law" "law" s_law a.f_law a.d_law
  m_law : mg "law" = some (.ref a.f_law)
  b_law : Binds K a.d_law ["script"] []
  n_ValueError : mg "ValueError" = none
  n_abs : mg "abs" = none
  n_len : mg "len" = none
  n_list : mg "list" = none
  n_max : mg "max" = none
  n_min : mg "min" = none
  n_range : mg "range" = none
  n_reversed : mg "reversed" = none
  n_sum : mg "sum" = none
  n_tuple : mg "tuple" = none
  n_zip : mg "zip" = none
  g_BadSet : mg "BadSet" = some (.ref a.c_BadSet)
  g_NotRing : mg "NotRing" = some (.ref a.c_NotRing)
  g_NoBase : mg "NoBase" = some (.ref a.c_NoBase)
  x_NoBase : ∀ h : Heap, K.In h → h.Ns mainGlobals mg → PyProof.Rows.OwnCls "NoBase" a.c_NoBase [.type "ValueError", .type "Exception", .type "BaseException", .type "object"] "ValueError.__new__" mg h
  x_BadSet : ∀ h : Heap, K.In h → h.Ns mainGlobals mg → PyProof.Rows.OwnCls "BadSet" a.c_BadSet [.type "ValueError", .type "Exception", .type "BaseException", .type "object"] "ValueError.__new__" mg h
  x_NotRing : ∀ h : Heap, K.In h → h.Ns mainGlobals mg → PyProof.Rows.OwnCls "NotRing" a.c_NotRing [.type "ValueError", .type "Exception", .type "BaseException", .type "object"] "ValueError.__new__" mg h
section
variable {K : PySem.W.Frag} {mg : Str → Option Value} {a : Adr}
theorem Txt.k_has_tie (T : Txt K mg a) : PySem.W.keepIn K (.ref a.f_has_tie) = true := T.F_has_tie.kp
theorem Txt.k_ties_in (T : Txt K mg a) : PySem.W.keepIn K (.ref a.f_ties_in) = true := T.F_ties_in.kp
theorem Txt.k_all_ties (T : Txt K mg a) : PySem.W.keepIn K (.ref a.f_all_ties) = true := T.F_all_ties.kp
theorem Txt.k_is_set (T : Txt K mg a) : PySem.W.keepIn K (.ref a.f_is_set) = true := T.F_is_set.kp
theorem Txt.k_check_set (T : Txt K mg a) : PySem.W.keepIn K (.ref a.f_check_set) = true := T.F_check_set.kp
theorem Txt.k_triples_in (T : Txt K mg a) : PySem.W.keepIn K (.ref a.f_triples_in) = true := T.F_triples_in.kp
theorem Txt.k_odd_points (T : Txt K mg a) : PySem.W.keepIn K (.ref a.f_odd_points) = true := T.F_odd_points.kp
theorem Txt.k_drawn_together (T : Txt K mg a) : PySem.W.keepIn K (.ref a.f_drawn_together) = true := T.F_drawn_together.kp
theorem Txt.k_pieces (T : Txt K mg a) : PySem.W.keepIn K (.ref a.f_pieces) = true := T.F_pieces.kp
theorem Txt.k_rank (T : Txt K mg a) : PySem.W.keepIn K (.ref a.f_rank) = true := T.F_rank.kp
theorem Txt.k_is_even (T : Txt K mg a) : PySem.W.keepIn K (.ref a.f_is_even) = true := T.F_is_even.kp
theorem Txt.k_forest_trails (T : Txt K mg a) : PySem.W.keepIn K (.ref a.f_forest_trails) = true := T.F_forest_trails.kp
theorem Txt.k_forest (T : Txt K mg a) : PySem.W.keepIn K (.ref a.f_forest) = true := T.F_forest.kp
theorem Txt.k_chords (T : Txt K mg a) : PySem.W.keepIn K (.ref a.f_chords) = true := T.F_chords.kp
theorem Txt.k_is_ring (T : Txt K mg a) : PySem.W.keepIn K (.ref a.f_is_ring) = true := T.F_is_ring.kp
theorem Txt.k_check_ring (T : Txt K mg a) : PySem.W.keepIn K (.ref a.f_check_ring) = true := T.F_check_ring.kp
theorem Txt.k_tie_at (T : Txt K mg a) : PySem.W.keepIn K (.ref a.f_tie_at) = true := T.F_tie_at.kp
theorem Txt.k_far_end (T : Txt K mg a) : PySem.W.keepIn K (.ref a.f_far_end) = true := T.F_far_end.kp
theorem Txt.k_walked (T : Txt K mg a) : PySem.W.keepIn K (.ref a.f_walked) = true := T.F_walked.kp
theorem Txt.k_row_to_lead (T : Txt K mg a) : PySem.W.keepIn K (.ref a.f_row_to_lead) = true := T.F_row_to_lead.kp
theorem Txt.k_row_cleared (T : Txt K mg a) : PySem.W.keepIn K (.ref a.f_row_cleared) = true := T.F_row_cleared.kp
theorem Txt.k_determinant (T : Txt K mg a) : PySem.W.keepIn K (.ref a.f_determinant) = true := T.F_determinant.kp
theorem Txt.k_ways_of (T : Txt K mg a) : PySem.W.keepIn K (.ref a.f_ways_of) = true := T.F_ways_of.kp
theorem Txt.k_ring_worth (T : Txt K mg a) : PySem.W.keepIn K (.ref a.f_ring_worth) = true := T.F_ring_worth.kp
theorem Txt.k_law_cell (T : Txt K mg a) : PySem.W.keepIn K (.ref a.f_law_cell) = true := T.F_law_cell.kp
theorem Txt.k_law_stir (T : Txt K mg a) : PySem.W.keepIn K (.ref a.f_law_stir) = true := T.F_law_stir.kp
theorem Txt.k_law_tie (T : Txt K mg a) : PySem.W.keepIn K (.ref a.f_law_tie) = true := T.F_law_tie.kp
theorem Txt.k_law_web (T : Txt K mg a) : PySem.W.keepIn K (.ref a.f_law_web) = true := T.F_law_web.kp
theorem Txt.k_law_ties (T : Txt K mg a) : PySem.W.keepIn K (.ref a.f_law_ties) = true := T.F_law_ties.kp
theorem Txt.k_law_odd (T : Txt K mg a) : PySem.W.keepIn K (.ref a.f_law_odd) = true := T.F_law_odd.kp
theorem Txt.k_law_rings (T : Txt K mg a) : PySem.W.keepIn K (.ref a.f_law_rings) = true := T.F_law_rings.kp
theorem Txt.k_law_sums (T : Txt K mg a) : PySem.W.keepIn K (.ref a.f_law_sums) = true := T.F_law_sums.kp
theorem Txt.k_law_is_base (T : Txt K mg a) : PySem.W.keepIn K (.ref a.f_law_is_base) = true := T.F_law_is_base.kp
theorem Txt.k_law_moved (T : Txt K mg a) : PySem.W.keepIn K (.ref a.f_law_moved) = true := T.F_law_moved.kp
end
def sp_has_tie : Sp := fun vs H Q _ => ∃ (S : Int) (k : Nat), vs = [.int S, .int (k : Int)] ∧ Q (.bl (bit S k)) H
def sp_ties_in : Sp := fun vs H Q _ => ∃ m : Nat, vs = [.int (m : Int)] ∧ Builtin.Int.intBits (m : Int) ≤ 1000 ∧ ∀ D H', H D = none → Same H H' → H' D = some (.lst (natsV (tiesOf (m : Int)))) → Q (.ref D) H'
def sp_all_ties : Sp := fun vs H Q _ => ∃ w p ts, vs = [.ref w] ∧ WebAt H w p ts ∧ Web p ts ∧ Q (.int (2 ^ ts.length - 1)) H
def sp_is_set : Sp := fun vs H Q _ => ∃ w p ts S, vs = [.ref w, .int S] ∧ WebAt H w p ts ∧ Web p ts ∧ Q (.bl (decide (0 ≤ S ∧ S < 2 ^ ts.length))) H
def OrBad (ts : List Tie) (S : Int) (bad : Prop) (R : Nat → Prop) : Prop := (∃ m : Nat, S = (m : Int) ∧ m < 2 ^ ts.length ∧ R m) ∨ ((S < 0 ∨ 2 ^ ts.length ≤ S) ∧ bad)
def sp_check_set (C : Addr) : Sp := fun vs H Q E => ∃ w p ts S, vs = [.ref w, .int S] ∧ WebAt H w p ts ∧ Web p ts ∧ OrBad ts S (E (.ref C) none H) fun _ => Q .non H
def sp_triples_in (C : Addr) : Sp := fun vs H Q E => ∃ w p ts S, vs = [.ref w, .int S] ∧ WebAt H w p ts ∧ Web p ts ∧ OrBad ts S (E (.ref C) none H) fun m =>
  ∀ D ys H', H D = none → Same H H' → H' D = some (.lst ys) → Paired (TupAt H') ys ((tiesOf (m : Int)).map (tieAt ts)) → Q (.ref D) H'
def sp_odd_points (C : Addr) : Sp := fun vs H Q E => ∃ w p ts S, vs = [.ref w, .int S] ∧ WebAt H w p ts ∧ Web p ts ∧ OrBad ts S (∀ H', Same H H' → E (.ref C) none H') fun m =>
  ∀ D H', Same H H' → H' D = some (.lst (natsV (oddOf p ts (m : Int)))) → Q (.ref D) H'
def sp_is_even (C : Addr) : Sp := fun vs H Q E => ∃ w p ts S, vs = [.ref w, .int S] ∧ WebAt H w p ts ∧ Web p ts ∧ OrBad ts S (∀ H', Same H H' → E (.ref C) none H') fun m => ∀ H', Same H H' → Q (.bl (decide (oddOf p ts (m : Int) = []))) H'
section
variable {P : Program} {w : World} {K : PySem.W.Frag} {mg : Str → Option Value} {base : Heap} {a : Adr}
theorem G_has_tie (T : Txt K mg a) : FnOk P w K mg base CX0 1 a.f_has_tie a.d_has_tie ["tie_set", "tie"] sp_has_tie := by
  refine T.F_has_tie.ok sc_has_tie (fun vs H Q E h => ?_) (fun cdv A outer s H vs Q E hr h => ?_)
  · obtain ⟨S, k, rfl, _⟩ := h
    rfl
  · obtain ⟨S, k, rfl, q⟩ := h
    refine ⟨_, (@pss_one _ _ _ (@ps_ret _ _ _ _ (@pe_cmpR _ _ _ _ _ _ _ _ op_eq (@pe_op _ _ _ _ _ _ _ _ op_and (@pe_op _ _ _ _ _ _ _ _ op_shr (pv 0) (pv 1)) pe_int) pe_int (nomark _)))), ?_⟩
    refine (exq rfl (exq rfl (ijq ⟨(by (first | lia | omega)), ijq ⟨rfl, ?_⟩⟩)))
    rw [Int.toNat_natCast, has_eq]
    exact q
theorem G_ties_in (T : Txt K mg a) : FnOk P w K mg base CX0 2 a.f_ties_in a.d_ties_in ["tie_set"] sp_ties_in := by
  have G_has_tie : FnOk P w K mg base CX0 1 a.f_has_tie a.d_has_tie ["tie_set", "tie"] sp_has_tie := G_has_tie T
  refine T.F_ties_in.ok sc_ties_in (fun vs H Q E h => ?_) (fun cdv A outer s H vs Q E hr h => ?_)
  · obtain ⟨m, rfl, _⟩ := h
    rfl
  · obtain ⟨m, rfl, hm, k⟩ := h
    refine ⟨_, (@pss_one _ _ _ (@ps_ret _ _ _ _ (@pe_comp _ _ _ _ _ _ _ ["tie"] ["tie_set"] [0] _ _ _ _ (compText_of (defScope s_ties_in) ["tie_set"]) rfl (@pi_range1 _ _ _ _ _ _ (by rfl) T.n_range (@pa_cons _ _ _ _ _ (@pe_bm0 _ _ _ _ _ _ _ _ _ PySem.F.plainAttrs_int PyProof.Rows.slot_int_bit_length PyProof.Rows.type_int_bit_length mt_bits (pv 0) (by rfl) (by rfl)) pa_nil (by rfl)) (by rfl)) (fun _ _ _ _ => (pg_name (i := 0) (show (["tie", "tie_set"] : List Str).Nodup by decide +kernel) rfl (Or.inl rfl))) (fun _ _ _ _ => (pts_one (pt_val (pe_call G_has_tie (hr.mono (by decide)) (by rfl) T.m_has_tie T.k_has_tie T.b_has_tie .nil pass0 (pa_cons (pv 1) (pa_cons (pv 0) pa_nil)))))) (fun _ _ _ _ => (pv 0)) (by intro _; rfl)))), ?_⟩
    refine (exq rfl ⟨rfl, exq rfl ⟨rfl, exq rfl ⟨(by (first | lia | omega)), (by (first | lia | omega)), fun D hD => comp_range (lo := 0) (m := Builtin.Int.intBits (m : Int)) (Pick (bit (m : Int)) H D) (.start hD) (fun i acc H2 _ p => p.len) (dl (Nat.ble_eq.mpr hm)) ?_ ?_⟩⟩⟩)
    · intro i acc H2 hi p
      rw [Int.zero_add]
      refine ⟨rfl, exq rfl (exq rfl ⟨(m : Int), i, rfl, exq rfl (?_)⟩)⟩
      cases hb : bit (m : Int) i with
      | true => exact (exq rfl (p.yes hD (Same.refl _) hb))
      | false => exact p.no (Same.refl _) hb
    · intro acc H2 p
      exact k D H2 hD p.1 (by rw [p.2.1, p.2.2]; rfl)
theorem G_all_ties (T : Txt K mg a) : FnOk P w K mg base CX0 1 a.f_all_ties a.d_all_ties ["web"] sp_all_ties := by
  refine T.F_all_ties.ok sc_all_ties (fun vs H Q E h => ?_) (fun cdv A outer s H vs Q E hr h => ?_)
  · obtain ⟨w, p, ts, rfl, _⟩ := h
    rfl
  · obtain ⟨wb, p, ts, rfl, hw, W, q⟩ := h
    refine ⟨_, (@pss_one _ _ _ (@ps_ret _ _ _ _ (@pe_op _ _ _ _ _ _ _ _ op_sub (@pe_op _ _ _ _ _ _ _ _ op_shl pe_int (@pe_callB _ _ _ _ _ _ _ _ _ (lenK K) (by rfl) T.n_len PySem.boot_len (@pa_cons _ _ _ _ _ (@pe_ix _ _ _ _ _ _ _ (ixT K) (pv 0) pe_int (fun _ _ => rfl)) pa_nil (by rfl)) (by decide) (by decide) (by rfl) (by rfl))) pe_int))), ?_⟩
    obtain ⟨b, xs, h1, h2, h3⟩ := hw.ex
    have hl := h3.length
    have wl := W.len
    refine (exq rfl (ixq (SqT.of h1) (atI_nat (j := 1) rfl) (lnq rfl (.inr (SqT.of h2)) (ijq ⟨⟨by (first | lia | omega), by (first | lia | omega), by decide⟩, ijq (?_)⟩))))
    rw [Int.toNat_natCast, hl, Int.one_mul]
    exact q
theorem G_is_set (T : Txt K mg a) : FnOk P w K mg base CX0 2 a.f_is_set a.d_is_set ["web", "number"] sp_is_set := by
  have G_all_ties : FnOk P w K mg base CX0 1 a.f_all_ties a.d_all_ties ["web"] sp_all_ties := G_all_ties T
  refine T.F_is_set.ok sc_is_set (fun vs H Q E h => ?_) (fun cdv A outer s H vs Q E hr h => ?_)
  · obtain ⟨w, p, ts, S, rfl, _⟩ := h
    rfl
  · obtain ⟨wb, p, ts, S, rfl, hw, W, q⟩ := h
    refine ⟨_, (@pss_one _ _ _ (@ps_ret _ _ _ _ (@pe_and _ _ _ _ _ _ _ (@pe_cmpR _ _ _ _ _ _ _ _ op_ge (pv 1) pe_int (nomark _)) (@pe_one _ _ _ _ _ (@pe_cmpR _ _ _ _ _ _ _ _ op_le (pv 1) (@pe_call _ _ _ _ _ _ _ _ _ _ _ _ _ _ _ _ G_all_ties (hr.mono (by decide)) (by rfl) T.m_all_ties T.k_all_ties T.b_all_ties .nil pass0 (@pa_cons _ _ _ _ _ (pv 0) pa_nil (by rfl)) (by decide) (by rfl) (by rfl)) (nomark _)))))), ?_⟩
    refine (exq rfl (ijq (exq rfl (ite2 (fun hlt => ?_) (fun hlt => ?_)))))
    · have hlt : 0 ≤ S := of_decide_eq_true hlt
      refine (exq rfl (exq rfl ⟨wb, p, ts, rfl, hw, W, _, _, rfl, rfl, ?_⟩))
      have e : decide (S ≤ 2 ^ ts.length - 1) = decide (0 ≤ S ∧ S < 2 ^ ts.length) := decide_eq_decide.mpr ⟨fun z => ⟨hlt, by (first | lia | omega)⟩, fun z => by (first | lia | omega)⟩
      rw [← e] at q
      exact q
    · have hlt : ¬ 0 ≤ S := fun z => hlt (decide_eq_true z)
      rw [decide_eq_false (fun z => hlt z.1)] at q
      exact q
theorem G_check_set (T : Txt K mg a) : FnOk P w K mg base (CX1 P w) 3 a.f_check_set a.d_check_set ["web", "tie_set"] (sp_check_set a.c_BadSet) := by
  have G_is_set : FnOk P w K mg base CX0 2 a.f_is_set a.d_is_set ["web", "number"] sp_is_set := G_is_set T
  refine T.F_check_set.ok1 sc_check_set (fun vs H Q E h => ?_) (fun cdv A outer s H vs Q E hr h => ?_)
  · obtain ⟨w, p, ts, S, rfl, _⟩ := h
    rfl
  · obtain ⟨wb, p, ts, S, rfl, hw, W, q⟩ := h
    refine ⟨_, (@pss_one _ _ _ (@ps_if _ _ _ _ _ _ _ _ (@pt_not _ _ _ _ (@pt_val _ _ _ (@pe_call _ _ _ _ _ _ _ _ _ _ _ _ _ _ _ _ G_is_set (hr.mono (by decide)) (by rfl) T.m_is_set T.k_is_set T.b_is_set .nil pass0 (@pa_cons _ _ _ _ _ (pv 0) (@pa_cons _ _ _ _ _ (pv 1) pa_nil (by rfl)) (by rfl)) (by decide) (by rfl) (by rfl)) (by intro _; rfl))) (@pss_one _ _ _ (@ps_raise _ _ _ _ _ _ _ _ _ _ _ _ _ _ out_of.thr rfl (by rfl) T.x_BadSet PySem.F.excBase_ValueError (@pa_cons _ _ _ _ _ pe_str pa_nil (by rfl)) (by rfl) (by rfl) (by decide))) pss_nil)), ?_⟩
    refine hd_check_set ?_
    intro zz0
    refine (exq rfl (exq rfl ⟨wb, p, ts, S, rfl, hw, W, ?_⟩))
    have h2 : ((2 : Int) ^ ts.length) = ((2 ^ ts.length : Nat) : Int) := by simp
    rcases q with ⟨m, rfl, hm, q⟩ | ⟨hS, q⟩
    · rw [decide_eq_true ⟨by (first | lia | omega), by (first | lia | omega)⟩]
      exact (exq rfl (iteF q))
    · rw [decide_eq_false (by (first | lia | omega))]
      exact (exq rfl (iteT ⟨dl rfl, q⟩))
theorem G_triples_in (T : Txt K mg a) : FnOk P w K mg base (CX1 P w) 4 a.f_triples_in a.d_triples_in ["web", "tie_set"] (sp_triples_in a.c_BadSet) := by
  have G_check_set : FnOk P w K mg base (CX1 P w) 3 a.f_check_set a.d_check_set ["web", "tie_set"] (sp_check_set a.c_BadSet) := G_check_set T
  have G_ties_in : FnOk P w K mg base CX0 2 a.f_ties_in a.d_ties_in ["tie_set"] sp_ties_in := G_ties_in T
  refine T.F_triples_in.ok1 sc_triples_in (fun vs H Q E h => ?_) (fun cdv A outer s H vs Q E hr h => ?_)
  · obtain ⟨w, p, ts, S, rfl, _⟩ := h
    rfl
  · obtain ⟨wb, p, ts, S, rfl, hw, W, q⟩ := h
    refine ⟨_, (@pss_cons _ _ _ _ _ (@ps_expr _ _ _ _ (@pe_call _ _ _ _ _ _ _ _ _ _ _ _ _ _ _ _ G_check_set (hr.mono (by decide)) (by rfl) T.m_check_set T.k_check_set T.b_check_set .nil out_of.passes (@pa_cons _ _ _ _ _ (pv 0) (@pa_cons _ _ _ _ _ (pv 1) pa_nil (by rfl)) (by rfl)) (by decide) (by rfl) (by rfl)) (by rfl)) (@pss_one _ _ _ (@ps_ret _ _ _ _ (@pe_comp _ _ _ _ _ _ _ ["tie"] ["web"] [0] _ _ _ _ (compText_of (defScope s_triples_in) ["web", "tie_set"]) rfl (@piL _ _ _ _ K (@pe_call _ _ _ _ _ _ _ _ _ _ _ _ _ _ _ _ G_ties_in (hr.mono (by decide)) (by rfl) T.m_ties_in T.k_ties_in T.b_ties_in .nil pass0 (@pa_cons _ _ _ _ _ (pv 1) pa_nil (by rfl)) (by decide) (by rfl) (by rfl)) (by rfl)) (fun _ _ _ _ => (pg_name (i := 0) (show (["tie", "web"] : List Str).Nodup by decide +kernel) rfl (Or.inl rfl))) (fun _ _ _ _ => pts_nil) (fun _ _ _ _ => (pe_ix (ixT K) (pe_ix (ixT K) (pv 1) pe_int (fun _ _ => rfl)) (pv 0) (fun _ _ => rfl))) (by intro _; rfl))))), ?_⟩
    refine hd_triples_in ?_
    intro zz0
    refine (exq rfl (exq rfl ⟨wb, p, ts, S, rfl, hw, W, ?_⟩))
    rcases q with ⟨m, rfl, hm, q⟩ | ⟨hS, q⟩
    · refine .inl ⟨m, rfl, hm, ?_⟩
      have wl := W.len
      have hb : Builtin.Int.intBits (m : Int) ≤ ts.length := bits_le hm
      refine (exq rfl ⟨m, rfl, by (first | lia | omega), fun L H1 _ s1 hL => ⟨L, rfl, ⟨_, SqL.of hL⟩, fun D hD => ?_⟩⟩)
      obtain ⟨b, xs, h1, h2, h3⟩ := (hw.same s1).ex
      have hxl := h3.length
      refine comp_list (xs := natsV (tiesOf (m : Int))) (fun i acc H2 => Same H1 H2 ∧ H2 D = some (.lst acc) ∧ Paired (TupAt H2) acc (((tiesOf (m : Int)).take i).map (tieAt ts)) ∧ acc.length = i) ⟨Same.new hD, upd_same, .nil, rfl⟩ ?_ ?_ ?_ ?_
      · rintro i acc H2 _ ⟨s2, hd, pr, hac⟩
        exact ⟨SqL.of (s2 _ _ hL), hd, Nat.le_of_eq hac⟩
      · rw [natsV_len]
        refine dl (Nat.ble_eq.mpr (Nat.le_trans (List.length_filter_le _ _) ?_))
        rw [List.length_range]
        (first | lia | omega)
      · rintro i x acc H2 hx ⟨s2, hd, pr, hac⟩
        obtain ⟨k, hk, rfl⟩ := natsV_get hx
        have hkl : k < ts.length := ties_lt hm (List.mem_of_getElem? hk)
        have hkx : k < xs.length := by (first | lia | omega)
        obtain ⟨t, ht, c, hc, hct⟩ := Paired.getP h3 (i := k) (x := xs[k]) (by simp [hkx])
        have htt : tieAt ts k = t := by
          unfold tieAt
          rw [List.getD_eq_getElem?_getD, ht]
          rfl
        refine ⟨rfl, exq rfl (ixq (SqT.of (s2 _ _ h1)) (atI_nat (j := 1) rfl) (exq rfl (ixq (v := xs[k]) (SqT.of (s2 _ _ h2)) (atI_nat (j := k) (by simp [hkx])) (?_))))⟩
        rw [hc]
        refine ⟨hd, s2.put hD, upd_same, ?_, by rw [List.length_append, List.length_singleton, hac]⟩
        rw [List.take_add_one, hk, List.map_append]
        refine Paired.snoc (Paired.imp' (fun _ _ z => z.tups (Tups.put hd)) pr) ?_
        rw [htt]
        exact ⟨c, rfl, Tups.put hd _ _ (s2 _ _ hct)⟩
      · rintro acc H2 ⟨s2, hd, pr, hac⟩
        rw [natsV_len, List.take_length] at pr
        exact q D acc H2 (s1.free hD) (s1.trans s2) hd pr
    · exact .inr ⟨hS, q⟩
theorem G_odd_points (T : Txt K mg a) : FnOk P w K mg base (CX1 P w) 5 a.f_odd_points a.d_odd_points ["web", "tie_set"] (sp_odd_points a.c_BadSet) := by
  have G_triples_in : FnOk P w K mg base (CX1 P w) 4 a.f_triples_in a.d_triples_in ["web", "tie_set"] (sp_triples_in a.c_BadSet) := G_triples_in T
  refine T.F_odd_points.ok1 sc_odd_points (fun vs H Q E h => ?_) (fun cdv A outer s H vs Q E hr h => ?_)
  · obtain ⟨w, p, ts, S, rfl, _⟩ := h
    rfl
  · obtain ⟨wb, p, ts, S, rfl, hw, W, q⟩ := h
    refine ⟨_, (@pss_cons _ _ _ _ _ (@ps_set _ _ 2 _ _ _ _ sc_odd_points.nd rfl (Or.inr rfl) (@pe_op _ _ _ _ _ _ _ _ op_rep (@pe_lst _ _ _ _ (@pa_cons _ _ _ _ _ pe_int pa_nil (by rfl))) (@pe_ix _ _ _ _ _ _ _ (ixT K) (pv 0) pe_int (fun _ _ => rfl))) (by rfl) (by first | exact .inl rfl | exact .inr rfl | assumption)) (@pss_cons _ _ _ _ _ (@ps_for1 _ _ _ _ _ _ _ _ rfl (@piL _ _ _ _ K (@pe_call _ _ _ _ _ _ _ _ _ _ _ _ _ _ _ _ G_triples_in (hr.mono (by decide)) (by rfl) T.m_triples_in T.k_triples_in T.b_triples_in .nil out_of.passes (@pa_cons _ _ _ _ _ (pv 0) (@pa_cons _ _ _ _ _ (pv 1) pa_nil (by rfl)) (by rfl)) (by decide) (by rfl) (by rfl)) (by rfl)) (@pgT _ _ K _ _ 3 _ rfl (@pgs_cons _ _ _ _ _ (pg_name (i := 3) sc_odd_points.nd rfl (Or.inl rfl)) (@pgs_cons _ _ _ _ _ (pg_name (i := 4) sc_odd_points.nd rfl (Or.inl rfl)) (@pgs_cons _ _ _ _ _ (pg_name (i := 5) sc_odd_points.nd rfl (Or.inl rfl)) pgs_nil (by rfl)) (by rfl)) (by rfl)) (by rfl) (by rfl) (by rfl)) (@pss_cons _ _ _ _ _ (@ps_augS _ _ _ _ _ _ _ _ _ _ _ _ _ (pv 2) (pv 3) (getL K) pe_int iop_add set_list (by intros; rfl)) (@pss_one _ _ _ (@ps_augS _ _ _ _ _ _ _ _ _ _ _ _ _ (pv 2) (pv 4) (getL K) pe_int iop_add set_list (by intros; rfl)))) (by intro _; rfl)) (@pss_one _ _ _ (@ps_ret _ _ _ _ (@pe_comp _ _ _ _ _ _ _ ["point"] ["ends"] [2] _ _ _ _ (compText_of (defScope s_odd_points) ["web", "tie_set", "ends", "one", "other", "length"]) rfl (@pi_range1 _ _ _ _ _ _ (by rfl) T.n_range (@pa_cons _ _ _ _ _ (@pe_ix _ _ _ _ _ _ _ (ixT K) (pv 0) pe_int (fun _ _ => rfl)) pa_nil (by rfl)) (by rfl)) (fun _ _ _ _ => (pg_name (i := 0) (show (["point", "ends"] : List Str).Nodup by decide +kernel) rfl (Or.inl rfl))) (fun _ _ _ _ => (pts_one (pt_cmpR op_eq (pe_op op_mod (pe_ix (ixL K) (pv 1) (pv 0) (fun _ _ => rfl)) pe_int) pe_int (nomark _)))) (fun _ _ _ _ => (pv 0)) (by intro _; rfl)))))), ?_⟩
    refine hd_odd_points ?_
    intro zz0 zz1 zz2 zz3
    obtain ⟨b, xs, h1, h2, h3⟩ := id hw.ex
    have wp := W.pts
    refine ⟨dl rfl, fun l0 hl0 => ?_⟩
    have s0 : Same H (upd H l0 (.lst [.int 0])) := Same.new hl0
    refine (exq rfl (ixq (SqT.of (s0 _ _ h1)) (atI_nat (j := 0) rfl) ⟨l0, (p : Int), exq rfl ⟨rfl, upd_same, by (first | lia | omega), by (first | lia | omega), (by rw [Int.toNat_natCast]; show 1 * p ≤ sizeLine; exact dl (Nat.ble_eq.mpr (by (first | lia | omega)))), fun e he => ?_⟩⟩))
    have s1 := s0.trans (Same.new (o := .lst (List.replicate (p : Int).toNat [V.int 0]).flatten) he)
    have he1 : upd (upd H l0 (.lst [.int 0])) e (.lst (List.replicate (p : Int).toNat [V.int 0]).flatten) e = some (.lst (intsV (List.replicate p 0))) := by
      rw [upd_same, Int.toNat_natCast, rep_zero]
    generalize upd (upd H l0 (.lst [.int 0])) e (.lst (List.replicate (p : Int).toNat [V.int 0]).flatten) = H1 at s1 he1
    have heH : H e = none := s0.free he
    refine (exq rfl (exq rfl ⟨wb, p, ts, S, rfl, hw.same s1, W, ?_⟩))
    rcases q with ⟨m, rfl, hm, q⟩ | ⟨hS, q⟩
    · refine .inl ⟨m, rfl, hm, fun L ys H2 hLn s2 hL pr => ⟨L, rfl, ⟨_, SqL.of hL⟩, ?_⟩⟩
      have s12 := s1.trans s2
      have heL : e ≠ L := ne_of_none he1 hLn
      have hyl : ys.length ≤ 24 := by
        rw [pr.length, List.length_map]
        have hb : Builtin.Int.intBits (m : Int) ≤ ts.length := bits_le hm
        have wl := W.len
        have := List.length_filter_le (bit (m : Int)) (List.range (Builtin.Int.intBits (m : Int)))
        rw [List.length_range] at this
        exact Nat.le_trans this (by (first | lia | omega))
      refine for_list' (K := K) (a := L) (xs := ys) (fun i σ H3 => ∃ v1 v2 v3, σ = [some (.ref wb), some (.int (m : Int)), some (.ref e), v1, v2, v3] ∧ (∀ x o, H2 x = some o → x ≠ e → H3 x = some o) ∧ H3 e = some (.lst (intsV ((((tiesOf (m : Int)).map (tieAt ts)).take i).foldl stepT (List.replicate p 0)))))
        ⟨none, none, none, rfl, fun _ _ z _ => z, s2 _ _ he1⟩ (fun i σ H3 _ ⟨_, _, _, _, z, _⟩ => SqL.of (z _ _ hL (Ne.symm heL))) ?_ ?_
      · rintro i y D' σ H3 hi ⟨v1, v2, v3, rfl, z3, he3⟩
        obtain ⟨t, ht, c, rfl, hc⟩ := Paired.getP pr hi
        have hce : c ≠ e := ne_of hc (s2 _ _ he1) (by intro z; cases z)
        have hc3 := z3 _ _ hc hce
        have htm : t ∈ ts := by
          obtain ⟨k, hk, rfl⟩ := List.mem_map.mp (List.mem_of_getElem? ht)
          unfold tieAt
          have hkl := ties_lt hm hk
          rw [List.getD_eq_getElem?_getD]
          simp [hkl]
        obtain ⟨a0, a1, b0, b1⟩ := W.inw.ends t htm
        obtain ⟨t1, t2, t3⟩ := t
        dsimp only at a0 a1 b0 b1
        obtain ⟨j1, rfl⟩ := Int.eq_ofNat_of_zero_le a0
        obtain ⟨j2, rfl⟩ := Int.eq_ofNat_of_zero_le b0
        generalize hE : (((tiesOf (m : Int)).map (tieAt ts)).take i).foldl stepT (List.replicate p 0) = EE at he3
        have hEl : EE.length = p := by rw [← hE, foldT_len, List.length_replicate]
        have hj1 : j1 < EE.length := by (first | lia | omega)
        have hj2 : j2 < (bump EE (j1 : Int)).length := by rw [bump_len]; (first | lia | omega)
        refine ⟨c, _, rfl, SqT.of hc3, rfl, _, _, rfl, _, _, rfl, _, _, rfl, rfl, ?_⟩
        refine (exq rfl (exq rfl ⟨e, _, j1, _, rfl, rfl, SqL.of he3, intsV_get hj1, _, _, rfl, rfl, e, _, _, j1, rfl, rfl, he3, ixN_nat (by rw [intsV, List.length_map]; exact hj1), ?_⟩))
        rw [intsV_bump]
        refine (exq rfl (exq rfl ⟨e, _, j2, _, rfl, rfl, SqL.of upd_same, intsV_get hj2, _, _, rfl, rfl, e, _, _, j2, rfl, rfl, upd_same, ixN_nat (by rw [intsV, List.length_map]; exact hj2), ?_⟩))
        rw [intsV_bump]
        refine ⟨_, _, _, rfl, fun x o z hx => by rw [upd_ne hx, upd_ne hx]; exact z3 x o z hx, ?_⟩
        rw [upd_same, List.take_add_one, ht, List.foldl_append, hE]
        rfl
      · rintro σ H3 ⟨v1, v2, v3, rfl, z3, he3⟩
        have hwe : wb ≠ e := ne_of_none h1 heH
        have s13 : Same H H3 := fun x o z => z3 x o (s12 x o z) (ne_of_none z heH)
        have hE : H3 e = some (.lst (intsV (endsOf p ts (m : Int)))) := by
          rw [he3, List.take_of_length_le (by rw [← pr.length]; exact Nat.le_refl _), ends_ties hm]
        have hEl : (endsOf p ts (m : Int)).length = p := by rw [ends_ties hm, foldT_len, List.length_replicate]
        refine (exq rfl (ixq (SqT.of (s13 _ _ h1)) (atI_nat (j := 0) rfl) (exq rfl ⟨(by (first | lia | omega)), (by (first | lia | omega)), fun D hD => comp_range (lo := 0) (m := p) (Pick (fun i => decide ((endsOf p ts (m : Int)).getD i 0 % 2 = 1)) H3 D) (.start hD) (fun i acc H4 _ p => p.len) (dl (Nat.ble_eq.mpr (by (first | lia | omega)))) ?_ ?_⟩)))
        · intro i acc H4 hi pk
          rw [Int.zero_add]
          refine ⟨rfl, exq rfl (exq rfl (ixl (SqL.of (pk.1 _ _ hE)) (atI_nat (j := i) (intsV_get (by rw [hEl]; exact hi))) (ijq ⟨(modC rfl), rfl, exq rfl (?_)⟩)))⟩
          rw [dec_one]
          cases hb : decide ((endsOf p ts (m : Int)).getD i 0 % 2 = 1) with
          | true => exact (exq rfl (pk.yes hD (Same.refl _) hb))
          | false => exact pk.no (Same.refl _) hb
        · intro acc H4 pk
          exact q D H4 (s13.trans pk.1) (by rw [pk.2.1, pk.2.2]; rfl)
    · exact .inr ⟨hS, q _ s1⟩
theorem G_is_even (T : Txt K mg a) : FnOk P w K mg base (CX1 P w) 6 a.f_is_even a.d_is_even ["web", "tie_set"] (sp_is_even a.c_BadSet) := by
  have G_odd_points : FnOk P w K mg base (CX1 P w) 5 a.f_odd_points a.d_odd_points ["web", "tie_set"] (sp_odd_points a.c_BadSet) := G_odd_points T
  refine T.F_is_even.ok1 sc_is_even (fun vs H Q E h => ?_) (fun cdv A outer s H vs Q E hr h => ?_)
  · obtain ⟨w, p, ts, S, rfl, _⟩ := h
    rfl
  · obtain ⟨wb, p, ts, S, rfl, hw, W, q⟩ := h
    refine ⟨_, (@pss_one _ _ _ (@ps_ret _ _ _ _ (@pe_cmpR _ _ _ _ _ _ _ _ (op_eqK K hr.units) (@pe_call _ _ _ _ _ _ _ _ _ _ _ _ _ _ _ _ G_odd_points (hr.mono (by decide)) (by rfl) T.m_odd_points T.k_odd_points T.b_odd_points .nil out_of.passes (@pa_cons _ _ _ _ _ (pv 0) (@pa_cons _ _ _ _ _ (pv 1) pa_nil (by rfl)) (by rfl)) (by decide) (by rfl) (by rfl)) (@pe_lst _ _ _ _ pa_nil) (nomark _)))), ?_⟩
    refine (exq rfl (exq rfl ⟨wb, p, ts, S, rfl, hw, W, ?_⟩))
    rcases q with ⟨m, rfl, hm, q⟩ | ⟨hS, q⟩
    · refine .inl ⟨m, rfl, hm, fun D H1 s1 hD => ⟨dl rfl, fun l hl => ?_⟩⟩
      have s2 : Same H1 (upd H1 l (.lst [])) := Same.new hl
      refine ⟨_, _, .lst (SqL.of (s2 _ _ hD)) (nats_dat _), .lst (SqL.of upd_same) .nil, shaped_nats _, rfl, ?_⟩
      rw [eqv_nil]
      exact q _ (s1.trans s2)
    · exact .inr ⟨hS, q⟩
end
def sp_drawn : Sp := fun vs H Q _ => ∃ (l : Addr) (L : Nat → Nat) (p u v : Nat), vs = [.ref l, .int (u : Int), .int (v : Int)] ∧ H l = some (.lst (mapV L p)) ∧ p ≤ 10 ∧ u < p ∧ v < p ∧
  ∀ D H', H D = none → Same H H' → H' D = some (.lst (mapV (RM.join L u v) p)) → Q (.ref D) H'
def sp_pieces (C : Addr) : Sp := fun vs H Q E => ∃ w p ts, ∃ g : GoodWeb p ts, ∃ S, vs = [.ref w, .int S] ∧ WebAt H w p ts ∧ OrBad ts S (∀ H', Same H H' → E (.ref C) none H') fun m =>
  ∀ D ys H', H D = none → Same H H' → H' D = some (.lst ys) → Paired (LstFr D H H') ys ((rootsOf (labOf p ts g m) p).map (pieceOf (labOf p ts g m) p)) → Q (.ref D) H'
def sp_rank : Sp := fun vs H Q _ => ∃ w p ts, ∃ g : GoodWeb p ts, vs = [.ref w] ∧ WebAt H w p ts ∧ ∀ H', Same H H' → Q (.int ((netOf p ts g).chords.length : Int)) H'
section
variable {P : Program} {w : World} {K : PySem.W.Frag} {mg : Str → Option Value} {base : Heap} {a : Adr}
theorem G_drawn_together (T : Txt K mg a) : FnOk P w K mg base CX0 1 a.f_drawn_together a.d_drawn_together ["leasts", "one", "other"] sp_drawn := by
  refine T.F_drawn_together.ok sc_drawn_together (fun vs H Q E h => ?_) (fun cdv A outer s H vs Q E hr h => ?_)
  · obtain ⟨l, L, p, u, v, rfl, _⟩ := h
    rfl
  · obtain ⟨l, L, p, u, v, rfl, hl, hp, hu, hv, q⟩ := h
    refine ⟨_, (@pss_cons _ _ _ _ _ (@ps_set _ _ 3 _ _ _ _ sc_drawn_together.nd rfl (Or.inr rfl) (@pe_callB _ _ _ _ _ _ _ _ _ (call_min2 rfl) (by rfl) T.n_min PyProof.Rows.boot_min (@pa_cons _ _ _ _ _ (@pe_ix _ _ _ _ _ _ _ (ixL K) (pv 0) (pv 1) (fun _ _ => rfl)) (@pa_cons _ _ _ _ _ (@pe_ix _ _ _ _ _ _ _ (ixL K) (pv 0) (pv 2) (fun _ _ => rfl)) pa_nil (by rfl)) (by rfl)) (by decide) (by decide) (by rfl) (by rfl)) (by rfl) (by first | exact .inl rfl | exact .inr rfl | assumption)) (@pss_cons _ _ _ _ _ (@ps_set _ _ 4 _ _ _ _ sc_drawn_together.nd rfl (Or.inr rfl) (@pe_callB _ _ _ _ _ _ _ _ _ (call_max2 rfl) (by rfl) T.n_max PyProof.Rows.boot_max (@pa_cons _ _ _ _ _ (@pe_ix _ _ _ _ _ _ _ (ixL K) (pv 0) (pv 1) (fun _ _ => rfl)) (@pa_cons _ _ _ _ _ (@pe_ix _ _ _ _ _ _ _ (ixL K) (pv 0) (pv 2) (fun _ _ => rfl)) pa_nil (by rfl)) (by rfl)) (by decide) (by decide) (by rfl) (by rfl)) (by rfl) (by first | exact .inl rfl | exact .inr rfl | assumption)) (@pss_one _ _ _ (@ps_ret _ _ _ _ (@pe_comp _ _ _ _ _ _ _ ["least"] ["low", "high"] [3, 4] _ _ _ _ (compText_of (defScope s_drawn_together) ["leasts", "one", "other", "low", "high"]) rfl (@piL _ _ _ _ K (pv 0) (by rfl)) (fun _ _ _ _ => (pg_name (i := 0) (show (["least", "low", "high"] : List Str).Nodup by decide +kernel) rfl (Or.inl rfl))) (fun _ _ _ _ => pts_nil) (fun _ _ _ _ => (pe_ifExp (pt_cmpR op_eq (pv 0) (pv 2) (nomark _)) (pv 1) (pv 0))) (by intro _; rfl)))))), ?_⟩
    refine hd_drawn_together ?_
    intro zz0 zz1
    refine (exq rfl (exq rfl (ixl (SqL.of hl) (atI_nat (j := u) (mapV_get hu)) (exq rfl (exq rfl (ixl (SqL.of hl) (atI_nat (j := v) (mapV_get hv)) ⟨_, _, rfl, ?_⟩))))))
    refine (exq rfl (exq rfl (ixl (SqL.of hl) (atI_nat (j := u) (mapV_get hu)) (exq rfl (exq rfl (ixl (SqL.of hl) (atI_nat (j := v) (mapV_get hv)) ⟨_, _, rfl, ?_⟩))))))
    refine (exq rfl ⟨l, rfl, ⟨_, SqL.of hl⟩, fun D hD => comp_list (xs := mapV L p) (Mapd (RM.join L u v) H D) (.start hD) (fun i acc H2 _ pd => ⟨SqL.of (pd.1 _ _ hl), pd.len⟩) (by rw [mapV_len]; exact dl (Nat.ble_eq.mpr (by (first | lia | omega)))) ?_ ?_⟩)
    · intro i x acc H2 hx pd
      obtain ⟨hi, rfl⟩ := mapV_of hx
      refine ⟨rfl, exq rfl (exq rfl ⟨rfl, exq rfl (?_)⟩)⟩
      rw [max_int, dec_nat]
      by_cases hm : L i = max (L u) (L v)
      · rw [decide_eq_true hm]
        refine iteT (exq rfl (pd.next hD (Same.refl _) ?_))
        rw [min_int]
        unfold RM.join
        rw [if_pos hm]
      · rw [decide_eq_false hm]
        refine iteF (exq rfl (pd.next hD (Same.refl _) ?_))
        unfold RM.join
        rw [if_neg hm]
    · intro acc H2 pd
      rw [mapV_len] at pd
      exact q D H2 hD pd.1 (by rw [pd.2.1, pd.2.2])
theorem G_pieces (T : Txt K mg a) : FnOk P w K mg base (CX1 P w) 5 a.f_pieces a.d_pieces ["web", "tie_set"] (sp_pieces a.c_BadSet) := by
  have G_triples_in : FnOk P w K mg base (CX1 P w) 4 a.f_triples_in a.d_triples_in ["web", "tie_set"] (sp_triples_in a.c_BadSet) := G_triples_in T
  have G_drawn_together : FnOk P w K mg base CX0 1 a.f_drawn_together a.d_drawn_together ["leasts", "one", "other"] sp_drawn := G_drawn_together T
  refine T.F_pieces.ok1 sc_pieces (fun vs H Q E h => ?_) (fun cdv A outer s H vs Q E hr h => ?_)
  · obtain ⟨w, p, ts, g, S, rfl, _⟩ := h
    rfl
  · obtain ⟨wb, p, ts, g, S, rfl, hw, q⟩ := h
    refine ⟨_, (@pss_cons _ _ _ _ _ (@ps_set _ _ 2 _ _ _ _ sc_pieces.nd rfl (Or.inr rfl) (@pe_callTy _ _ _ _ _ _ _ _ _ (listR rfl) (by rfl) T.n_list PyProof.Rows.boot_list (@pa_cons _ _ _ _ _ (@pe_callTy _ _ _ _ _ _ _ _ _ call_rng (by rfl) T.n_range PyProof.Rows.boot_range (@pa_cons _ _ _ _ _ (@pe_ix _ _ _ _ _ _ _ (ixT K) (pv 0) pe_int (fun _ _ => rfl)) pa_nil (by rfl)) (by decide) (by decide) (by rfl) (by rfl)) pa_nil (by rfl)) (by decide) (by decide) (by rfl) (by rfl)) (by rfl) (by first | exact .inl rfl | exact .inr rfl | assumption)) (@pss_cons _ _ _ _ _ (@ps_for1 _ _ _ _ _ _ _ _ rfl (@piL _ _ _ _ K (@pe_call _ _ _ _ _ _ _ _ _ _ _ _ _ _ _ _ G_triples_in (hr.mono (by decide)) (by rfl) T.m_triples_in T.k_triples_in T.b_triples_in .nil out_of.passes (@pa_cons _ _ _ _ _ (pv 0) (@pa_cons _ _ _ _ _ (pv 1) pa_nil (by rfl)) (by rfl)) (by decide) (by rfl) (by rfl)) (by rfl)) (@pgT _ _ K _ _ 3 _ rfl (@pgs_cons _ _ _ _ _ (pg_name (i := 3) sc_pieces.nd rfl (Or.inl rfl)) (@pgs_cons _ _ _ _ _ (pg_name (i := 4) sc_pieces.nd rfl (Or.inl rfl)) (@pgs_cons _ _ _ _ _ (pg_name (i := 5) sc_pieces.nd rfl (Or.inl rfl)) pgs_nil (by rfl)) (by rfl)) (by rfl)) (by rfl) (by rfl) (by rfl)) (@pss_one _ _ _ (@ps_set _ _ 2 _ _ _ _ sc_pieces.nd rfl (Or.inr rfl) (@pe_call _ _ _ _ _ _ _ _ _ _ _ _ _ _ _ _ G_drawn_together (hr.mono (by decide)) (by rfl) T.m_drawn_together T.k_drawn_together T.b_drawn_together .nil pass0 (@pa_cons _ _ _ _ _ (pv 2) (@pa_cons _ _ _ _ _ (pv 3) (@pa_cons _ _ _ _ _ (pv 4) pa_nil (by rfl)) (by rfl)) (by rfl)) (by decide) (by rfl) (by rfl)) (by rfl) (by first | exact .inl rfl | exact .inr rfl | assumption))) (by intro _; rfl)) (@pss_cons _ _ _ _ _ (@ps_set _ _ 6 _ _ _ _ sc_pieces.nd rfl (Or.inl rfl) (@pe_lst _ _ _ _ pa_nil) (by rfl) (by first | exact .inl rfl | exact .inr rfl | assumption)) (@pss_cons _ _ _ _ _ (@ps_for1 _ _ _ _ _ _ _ _ rfl (@pi_range1 _ _ _ _ _ _ (by rfl) T.n_range (@pa_cons _ _ _ _ _ (@pe_ix _ _ _ _ _ _ _ (ixT K) (pv 0) pe_int (fun _ _ => rfl)) pa_nil (by rfl)) (by rfl)) (pg_name (i := 7) sc_pieces.nd rfl (Or.inr rfl)) (@pss_one _ _ _ (@ps_if _ _ _ _ _ _ _ _ (@pt_cmpR _ _ _ _ _ _ _ _ op_eq (@pe_ix _ _ _ _ _ _ _ (ixL K) (pv 2) (pv 7) (fun _ _ => rfl)) (pv 7) (nomark _)) (@pss_one _ _ _ (@ps_expr _ _ _ _ (@bmK _ _ _ _ _ _ K (@pe_bm _ _ _ _ _ _ _ _ _ _ _ _ PySem.F.plainAttrs_list PySem.F.slot_list_append PySem.F.type_list_append mt_append (pv 6) (@pa_cons _ _ _ _ _ (@pe_comp _ _ _ _ _ _ _ ["point"] ["leasts", "start"] [2, 7] _ _ _ _ (compText_of (defScope s_pieces) ["web", "tie_set", "leasts", "one", "other", "length", "found", "start"]) rfl (@pi_range1 _ _ _ _ _ _ (by rfl) T.n_range (@pa_cons _ _ _ _ _ (@pe_ix _ _ _ _ _ _ _ (ixT K) (pv 0) pe_int (fun _ _ => rfl)) pa_nil (by rfl)) (by rfl)) (fun _ _ _ _ => (pg_name (i := 0) (show (["point", "leasts", "start"] : List Str).Nodup by decide +kernel) rfl (Or.inl rfl))) (fun _ _ _ _ => (pts_one (pt_cmpR op_eq (pe_ix (ixL K) (pv 1) (pv 0) (fun _ _ => rfl)) (pv 2) (nomark _)))) (fun _ _ _ _ => (pv 0)) (by intro _; rfl)) pa_nil (by rfl)) (by rfl) (by rfl) (by rfl) (by rfl) (by rfl)) (by rfl)) (by rfl))) pss_nil)) (by intro _; rfl)) (@pss_one _ _ _ (@ps_ret _ _ _ _ (pv 6))))))), ?_⟩
    refine hd_pieces ?_
    intro zz0 zz1 zz2 zz3 zz4 zz5 zz6
    obtain ⟨b, xs, h1, h2, h3⟩ := id hw.ex
    have W := g.web
    have wp := W.pts
    have wl := W.len
    refine (exq rfl (ixq (SqT.of h1) (atI_nat (j := 0) rfl) (exq rfl (fun r hr => ⟨r, p, rfl, upd_same, by (first | lia | omega), fun l hl => ?_⟩))))
    have s1 : Same H (upd (upd H r (.rng 0 (p : Int))) l (.lst (rngV p))) := (Same.new hr).trans (Same.new hl)
    have hl1 : upd (upd H r (.rng 0 (p : Int))) l (.lst (rngV p)) l = some (.lst (mapV (fun x => x) p)) := upd_same
    generalize upd (upd H r (.rng 0 (p : Int))) l (.lst (rngV p)) = H1 at s1 hl1
    refine (exq rfl (exq rfl ⟨wb, p, ts, S, rfl, hw.same s1, W, ?_⟩))
    rcases q with ⟨m, rfl, hm, q⟩ | ⟨hS, q⟩
    · refine .inl ⟨m, rfl, hm, fun T0 ys H2 hTn s2 hT pr => ⟨T0, rfl, ⟨_, SqL.of hT⟩, ?_⟩⟩
      have hyl : ys.length ≤ 24 := by
        rw [pr.length, List.length_map]
        have hb : Builtin.Int.intBits (m : Int) ≤ ts.length := bits_le hm
        have := List.length_filter_le (bit (m : Int)) (List.range (Builtin.Int.intBits (m : Int)))
        rw [List.length_range] at this
        exact Nat.le_trans this (by (first | lia | omega))
      refine for_list' (K := K) (a := T0) (xs := ys) (fun i σ H3 => ∃ la v3 v4 v5, σ = [some (.ref wb), some (.int (m : Int)), some (.ref la), v3, v4, v5, none, none] ∧ Same H2 H3 ∧ H3 la = some (.lst (mapV (foldJ p ts g ((tiesOf (m : Int)).take i)) p)))
        ⟨l, none, none, none, rfl, Same.refl _, s2 _ _ hl1⟩ (fun i σ H3 _ ⟨_, _, _, _, _, z, _⟩ => SqL.of (z _ _ hT)) ?_ ?_
      · rintro i y D' σ H3 hi ⟨la, v3, v4, v5, rfl, s3, hla⟩
        obtain ⟨t, ht, c, rfl, hc⟩ := Paired.getP pr hi
        have hc3 := s3 _ _ hc
        rw [List.getElem?_map] at ht
        obtain ⟨k, hk, hkt⟩ := Option.map_eq_some_iff.mp ht
        have hkl := ties_lt hm (List.mem_of_getElem? hk)
        have ea := net_a (g := g) hkl
        have eb := net_b (g := g) hkl
        rw [hkt] at ea eb
        have la' := (netOf p ts g).al k hkl
        have lb' := (netOf p ts g).bl k hkl
        refine ⟨c, _, rfl, SqT.of hc3, rfl, _, _, rfl, _, _, rfl, _, _, rfl, rfl, ?_⟩
        refine (exq rfl (exq rfl (exq rfl ⟨la, foldJ p ts g ((tiesOf (m : Int)).take i), p, (netOf p ts g).a k, (netOf p ts g).b k, ?_, hla, wp, la', lb', fun D H4 hDn s4 hD => ?_⟩)))
        · rw [← ea, ← eb]
          rfl
        · refine ⟨D, _, _, _, rfl, s3.trans s4, ?_⟩
          rw [hD, List.take_add_one, hk]
          show _ = some (HO.lst (mapV (foldJ p ts g ((tiesOf (m : Int)).take i ++ [k])) p))
          rw [foldJ_snoc]
      · rintro σ H3 ⟨la, v3, v4, v5, rfl, s3, hla⟩
        have hys : ys.length = (tiesOf (m : Int)).length := by rw [pr.length, List.length_map]
        rw [hys, List.take_length, foldJ_ties hm] at hla
        have s13 : Same H H3 := (s1.trans s2).trans s3
        refine ⟨dl rfl, fun D hD => ?_⟩
        have t0 : Gath (labOf p ts g m) p H3 D 0 (upd H3 D (.lst [])) := Gath.start hD
        generalize upd H3 D (.lst []) = H4 at t0
        refine (exq rfl (ixq (SqT.of (t0.1 _ _ (s13 _ _ h1))) (atI_nat (j := 0) rfl) (exq rfl ⟨(by (first | lia | omega)), (by (first | lia | omega)), ?_⟩)))
        refine for_range' (lo := 0) (n := (p : Int).toNat) (fun i σ H5 => ∃ v7, σ = [some (.ref wb), some (.int (m : Int)), some (.ref la), v3, v4, v5, some (.ref D), v7] ∧ Gath (labOf p ts g m) p H3 D i H5) ⟨none, rfl, t0⟩ ?_ ?_
        · rintro i D' σ H5 hi ⟨v7, rfl, t5⟩
          rw [Int.toNat_natCast] at hi
          rw [Int.zero_add]
          have hla5 := t5.1 _ _ hla
          refine (exq rfl (exq rfl (ixl (SqL.of hla5) (atI_nat (j := i) (mapV_get hi)) (exq rfl ⟨rfl, exq rfl (?_)⟩))))
          rw [dec_nat]
          by_cases hr : labOf p ts g m i = i
          · rw [decide_eq_true hr]
            obtain ⟨ys0, hD5⟩ : ∃ ys, H5 D = some (.lst ys) := let ⟨_, ys, z, _⟩ := t5; ⟨ys, z⟩
            refine iteT (exq rfl ⟨.inl ⟨rfl, _, SqL.of hD5⟩, exq rfl (ixq (SqT.of (t5.1 _ _ (s13 _ _ h1))) (atI_nat (j := 0) rfl) (exq rfl ⟨(by (first | lia | omega)), (by (first | lia | omega)), fun B hB => comp_range (lo := 0) (m := (p : Int).toNat) (Pick (fun x => decide (labOf p ts g m x = i)) H5 B) (.start hB) (fun i acc H6 _ pk => pk.len) (dl (Nat.ble_eq.mpr (by (first | lia | omega)))) ?_ ?_⟩))⟩)
            · intro x acc H6 hx pk
              rw [Int.toNat_natCast] at hx
              rw [Int.zero_add]
              refine ⟨rfl, exq rfl (exq rfl (ixl (SqL.of (pk.1 _ _ hla5)) (atI_nat (j := x) (mapV_get hx)) (exq rfl ⟨rfl, exq rfl (?_)⟩)))⟩
              rw [dec_nat]
              cases hb : decide (labOf p ts g m x = i) with
              | true => exact (exq rfl (pk.yes hB (Same.refl _) hb))
              | false => exact pk.no (Same.refl _) hb
            · intro acc H6 pk
              have hB6 : H6 B = some (.lst (natsV (pieceOf (labOf p ts g m) p i))) := by rw [pk.2.1, pk.2.2, Int.toNat_natCast]; rfl
              obtain ⟨ys1, hD6, hl1, t7⟩ := t5.push hD hr pk.1 hB hB6
              exact ⟨D, ys1, _, rfl, rfl, hD6, smallL (by (first | lia | omega)), exq rfl (t7)⟩
          · rw [decide_eq_false hr]
            exact iteF (exq rfl (t5.skip hr))
        · rintro σ H5 ⟨v7, rfl, t5⟩
          rw [Int.toNat_natCast] at t5
          obtain ⟨s5, ys5, hD5, pr5, hl5⟩ := t5
          exact (exq rfl (q D ys5 H5 (s13.free hD) (s13.trans s5) hD5 (Paired.imp' (fun _ _ ⟨e, he, hn, h0, z⟩ => ⟨e, he, hn, s13.free h0, z⟩) pr5)))
    · exact .inr ⟨hS, q _ s1⟩
theorem G_rank (T : Txt K mg a) : FnOk P w K mg base CX0 6 a.f_rank a.d_rank ["web"] sp_rank := by
  have G_pieces : FnOk P w K mg base (CX1 P w) 5 a.f_pieces a.d_pieces ["web", "tie_set"] (sp_pieces a.c_BadSet) := G_pieces T
  have G_all_ties : FnOk P w K mg base CX0 1 a.f_all_ties a.d_all_ties ["web"] sp_all_ties := G_all_ties T
  refine T.F_rank.ok sc_rank (fun vs H Q E h => ?_) (fun cdv A outer s H vs Q E hr h => ?_)
  · obtain ⟨w, p, ts, g, rfl, _⟩ := h
    rfl
  · obtain ⟨wb, p, ts, g, rfl, hw, q⟩ := h
    refine ⟨_, (@pss_one _ _ _ (@ps_ret _ _ _ _ (@pe_op _ _ _ _ _ _ _ _ op_add (@pe_op _ _ _ _ _ _ _ _ op_sub (@pe_callB _ _ _ _ _ _ _ _ _ (lenK K) (by rfl) T.n_len PySem.boot_len (@pa_cons _ _ _ _ _ (@pe_ix _ _ _ _ _ _ _ (ixT K) (pv 0) pe_int (fun _ _ => rfl)) pa_nil (by rfl)) (by decide) (by decide) (by rfl) (by rfl)) (@pe_ix _ _ _ _ _ _ _ (ixT K) (pv 0) pe_int (fun _ _ => rfl))) (@pe_callB _ _ _ _ _ _ _ _ _ (lenK K) (by rfl) T.n_len PySem.boot_len (@pa_cons _ _ _ _ _ (@pe_call _ _ _ _ _ _ _ _ _ _ _ _ _ _ _ _ G_pieces (hr.mono (by decide)) (by rfl) T.m_pieces T.k_pieces T.b_pieces .nil passN (@pa_cons _ _ _ _ _ (pv 0) (@pa_cons _ _ _ _ _ (@pe_call _ _ _ _ _ _ _ _ _ _ _ _ _ _ _ _ G_all_ties (hr.mono (by decide)) (by rfl) T.m_all_ties T.k_all_ties T.b_all_ties .nil pass0 (@pa_cons _ _ _ _ _ (pv 0) pa_nil (by rfl)) (by decide) (by rfl) (by rfl)) pa_nil (by rfl)) (by rfl)) (by decide) (by rfl) (by rfl)) pa_nil (by rfl)) (by decide) (by decide) (by rfl) (by rfl))))), ?_⟩
    obtain ⟨b, xs, h1, h2, h3⟩ := id hw.ex
    have hxl := h3.length
    have e2 : ((2 : Int) ^ ts.length - 1) = ((2 ^ ts.length - 1 : Nat) : Int) := by
      have h : ((2 : Int) ^ ts.length) = ((2 ^ ts.length : Nat) : Int) := by simp
      have := Nat.two_pow_pos ts.length
      (first | lia | omega)
    have hlt : 2 ^ ts.length - 1 < 2 ^ ts.length := by have := Nat.two_pow_pos ts.length; (first | lia | omega)
    refine (exq rfl (ixq (SqT.of h1) (atI_nat (j := 1) rfl) (lnq rfl (.inr (SqT.of h2)) (exq rfl (ixq (SqT.of h1) (atI_nat (j := 0) rfl) (ijq (?_)))))))
    refine (exq rfl (exq rfl ⟨wb, p, ts, rfl, hw, g.web, wb, p, ts, g, _, rfl, hw, .inl ⟨2 ^ ts.length - 1, e2, hlt, fun D ys H' hDn s' hD pr => (lnq rfl (.inl (SqL.of hD)) (ijq (?_)))⟩⟩))
    have hv := rank_is (g := g)
    have hy : ys.length = (rootsOf (labOf p ts g (2 ^ ts.length - 1)) p).length := by rw [pr.length, List.length_map]
    show Q (.int ((xs.length : Int) - (p : Int) + (ys.length : Int))) H'
    rw [hxl, hy, hv]
    exact q H' s'
end
def sp_is_ring (C : Addr) : Sp := fun vs H Q E => ∃ w p ts, ∃ g : GoodWeb p ts, ∃ S, vs = [.ref w, .int S] ∧ WebAt H w p ts ∧ OrBad ts S (∀ H', Same H H' → E (.ref C) none H') fun m => ∀ H', Same H H' → Q (.bl (ringB p ts g m)) H'
section
variable {P : Program} {w : World} {K : PySem.W.Frag} {mg : Str → Option Value} {base : Heap} {a : Adr}
theorem G_is_ring (T : Txt K mg a) : FnOk P w K mg base (CX1 P w) 7 a.f_is_ring a.d_is_ring ["web", "tie_set"] (sp_is_ring a.c_BadSet) := by
  have G_is_even : FnOk P w K mg base (CX1 P w) 6 a.f_is_even a.d_is_even ["web", "tie_set"] (sp_is_even a.c_BadSet) := G_is_even T
  have G_pieces : FnOk P w K mg base (CX1 P w) 5 a.f_pieces a.d_pieces ["web", "tie_set"] (sp_pieces a.c_BadSet) := G_pieces T
  have G_ties_in : FnOk P w K mg base CX0 2 a.f_ties_in a.d_ties_in ["tie_set"] sp_ties_in := G_ties_in T
  refine T.F_is_ring.ok1 sc_is_ring (fun vs H Q E h => ?_) (fun cdv A outer s H vs Q E hr h => ?_)
  · obtain ⟨w, p, ts, g, S, rfl, _⟩ := h
    rfl
  · obtain ⟨wb, p, ts, g, S, rfl, hw, q⟩ := h
    refine ⟨_, (@pss_cons _ _ _ _ _ (@ps_if _ _ _ _ _ _ _ _ (@pt_not _ _ _ _ (@pt_val _ _ _ (@pe_call _ _ _ _ _ _ _ _ _ _ _ _ _ _ _ _ G_is_even (hr.mono (by decide)) (by rfl) T.m_is_even T.k_is_even T.b_is_even .nil out_of.passes (@pa_cons _ _ _ _ _ (pv 0) (@pa_cons _ _ _ _ _ (pv 1) pa_nil (by rfl)) (by rfl)) (by decide) (by rfl) (by rfl)) (by intro _; rfl))) (@pss_one _ _ _ (@ps_ret _ _ _ _ pe_bl)) pss_nil) (@pss_cons _ _ _ _ _ (@ps_comp _ _ _ _ _ _ _ ["piece"] [] [] _ _ _ _ 2 _ _ _ sc_is_ring.nd rfl rfl (compText_of (defScope s_is_ring) ["web", "tie_set", "touched"]) rfl (@piL _ _ _ _ K (@pe_call _ _ _ _ _ _ _ _ _ _ _ _ _ _ _ _ G_pieces (hr.mono (by decide)) (by rfl) T.m_pieces T.k_pieces T.b_pieces .nil out_of.passes (@pa_cons _ _ _ _ _ (pv 0) (@pa_cons _ _ _ _ _ (pv 1) pa_nil (by rfl)) (by rfl)) (by decide) (by rfl) (by rfl)) (by rfl)) (fun _ _ _ _ => (pg_name (i := 0) (show (["piece"] : List Str).Nodup by decide +kernel) rfl (Or.inl rfl))) (fun _ _ _ _ => (pts_one (pt_cmpR op_gt (pe_callB (lenK K) (by rfl) T.n_len PySem.boot_len (pa_cons (pv 0) pa_nil)) pe_int (nomark _)))) (fun _ _ _ _ => (pv 0)) (by rfl) (by intro _; rfl)) (@pss_one _ _ _ (@ps_ret _ _ _ _ (@pe_and _ _ _ _ _ _ _ (@pe_cmpR _ _ _ _ _ _ _ _ op_eq (@pe_callB _ _ _ _ _ _ _ _ _ (lenK K) (by rfl) T.n_len PySem.boot_len (@pa_cons _ _ _ _ _ (pv 2) pa_nil (by rfl)) (by decide) (by decide) (by rfl) (by rfl)) pe_int (nomark _)) (@pe_one _ _ _ _ _ (@pe_cmpR _ _ _ _ _ _ _ _ op_eq (@pe_callB _ _ _ _ _ _ _ _ _ (lenK K) (by rfl) T.n_len PySem.boot_len (@pa_cons _ _ _ _ _ (@pe_ix _ _ _ _ _ _ _ (ixL K) (pv 2) pe_int (fun _ _ => rfl)) pa_nil (by rfl)) (by decide) (by decide) (by rfl) (by rfl)) (@pe_callB _ _ _ _ _ _ _ _ _ (lenK K) (by rfl) T.n_len PySem.boot_len (@pa_cons _ _ _ _ _ (@pe_call _ _ _ _ _ _ _ _ _ _ _ _ _ _ _ _ G_ties_in (hr.mono (by decide)) (by rfl) T.m_ties_in T.k_ties_in T.b_ties_in .nil pass0 (@pa_cons _ _ _ _ _ (pv 1) pa_nil (by rfl)) (by decide) (by rfl) (by rfl)) pa_nil (by rfl)) (by decide) (by decide) (by rfl) (by rfl)) (nomark _)))))))), ?_⟩
    refine hd_is_ring ?_
    intro zz0 zz1 zz2
    have W := g.web
    have wp := g.p2
    have wl := g.len
    refine (exq rfl (exq rfl ⟨wb, p, ts, S, rfl, hw, W, ?_⟩))
    rcases q with ⟨m, rfl, hm, q⟩ | ⟨hS, q⟩
    · refine .inl ⟨m, rfl, hm, fun H1 s1 => (exq rfl (?_))⟩
      by_cases ev : oddOf p ts (m : Int) = []
      · rw [decide_eq_true ev]
        rw [ringB_even ev] at q
        refine iteF (exq rfl (exq rfl ⟨wb, p, ts, g, _, rfl, hw.same s1, .inl ⟨m, rfl, hm, fun D ys H2 hDn s2 hD pr => ⟨D, rfl, ⟨_, SqL.of hD⟩, fun C hC => ?_⟩⟩⟩))
        have hyl : ys.length ≤ 10 := by
          rw [pr.length, List.length_map]
          unfold rootsOf
          have := List.length_filter_le (fun x => decide (labOf p ts g m x = x)) (List.range p)
          rw [List.length_range] at this
          exact Nat.le_trans this wp
        refine comp_list (xs := ys) (Sift (fun l => decide (1 < l.length)) ((rootsOf (labOf p ts g m) p).map (pieceOf (labOf p ts g m) p)) H2 C) (.start hC) (fun i acc H3 _ sf => ⟨SqL.of (sf.1 _ _ hD), sf.len⟩) (small24 (by (first | lia | omega))) ?_ ?_
        · intro i x acc H3 hx sf
          obtain ⟨l, hl, b, rfl, hbn, hb0, hb⟩ := Paired.getP pr hx
          refine ⟨rfl, exq rfl (lnq rfl (.inl (SqL.of (sf.1 _ _ hb))) (ijq (exq rfl (?_))))⟩
          cases hb2 : decide (1 < l.length) with
          | true =>
            have e : decide ((1 : Int) < ((natsV l).length : Int)) = true := decide_eq_true (by have := of_decide_eq_true hb2; rw [natsV_len]; (first | lia | omega))
            show if decide ((1 : Int) < ((natsV l).length : Int)) = true then _ else _
            rw [e]
            exact iteT (exq rfl (sf.yes hC hl hb2 ⟨b, rfl, hb⟩))
          | false =>
            have e : decide ((1 : Int) < ((natsV l).length : Int)) = false := decide_eq_false (by have := of_decide_eq_false hb2; rw [natsV_len]; (first | lia | omega))
            show if decide ((1 : Int) < ((natsV l).length : Int)) = true then _ else _
            rw [e]
            exact iteF (sf.no hl hb2)
        · intro acc H3 sf
          have pa : Paired (LstA H2) acc ((touchedOf (labOf p ts g m) p).map (pieceOf (labOf p ts g m) p)) := by
            have h := sf.2.2
            rw [pr.length, List.take_length, List.filter_map] at h
            exact h
          have hal := pa.length
          rw [List.length_map] at hal
          refine (exq rfl (lnq rfl (.inl (SqL.of sf.2.1)) ⟨rfl, exq rfl (?_)⟩))
          have s13 := (s1.trans s2).trans sf.1
          have hb24 : Builtin.Int.intBits (m : Int) ≤ ts.length := bits_le hm
          generalize touchedOf (labOf p ts g m) p = tl at q pa hal
          cases tl with
          | nil =>
            have hal : acc.length = 0 := hal
            rw [hal]
            exact iteF (q H3 s13)
          | cons s r =>
            cases r with
            | nil =>
              cases pa with
              | cons hy pn =>
                cases pn
                obtain ⟨b, rfl, hb⟩ := hy
                refine iteT (exq rfl (ixl (SqL.of sf.2.1) (atI_nat (j := 0) rfl) (lnq rfl (.inl (SqL.of (sf.1 _ _ hb))) (exq rfl ⟨m, rfl, by (first | lia | omega), fun D4 H4 hn4 s4 hD4 => (lnq rfl (.inl (SqL.of hD4)) ⟨rfl, ?_⟩)⟩))))
                rw [natsV_len, natsV_len, dec_nat]
                exact q H4 (s13.trans s4)
            | cons t r =>
              have hal : acc.length = r.length + 2 := hal
              have e : decide (V.int ((acc.length : Nat) : Int) = V.int 1) = false := decide_eq_false fun z => by
                have := V.int.inj z
                (first | lia | omega)
              rw [e]
              exact iteF (q H3 s13)
      · rw [decide_eq_false ev]
        have er : ringB p ts g m = false := by
          unfold ringB
          rw [decide_eq_false ev, Bool.false_and]
        rw [er] at q
        exact iteT (q H1 s1)
    · exact .inr ⟨hS, q⟩
end
def sp_check_ring (C R : Addr) : Sp := fun vs H Q E => ∃ w p ts, ∃ g : GoodWeb p ts, ∃ S, vs = [.ref w, .int S] ∧ WebAt H w p ts ∧ OrBad ts S (∀ H', Same H H' → E (.ref C) none H') fun m => ((netOf p ts g).Ring m → ∀ H', Same H H' → Q .non H') ∧ (¬ (netOf p ts g).Ring m → ∀ H', Same H H' → E (.ref R) none H')
def sp_tie_at : Sp := fun vs H Q _ => ∃ w p ts, ∃ g : GoodWeb p ts, ∃ S, ∃ m x t : Nat, vs = [.ref w, .int S, .int (x : Int)] ∧ S = (m : Int) ∧ WebAt H w p ts ∧ m < 2 ^ ts.length ∧ ((netOf p ts g).tiesAt m x)[0]? = some t ∧ ∀ H', Same H H' → Q (.int (t : Int)) H'
def sp_far_end : Sp := fun vs H Q _ => ∃ w p ts, ∃ g : GoodWeb p ts, ∃ t x : Nat, vs = [.ref w, .int (t : Int), .int (x : Int)] ∧ WebAt H w p ts ∧ t < ts.length ∧ Q (.int (((netOf p ts g).far t x : Nat) : Int)) H
def sp_walked (C R : Addr) : Sp := fun vs H Q E => ∃ w p ts, ∃ g : GoodWeb p ts, ∃ S, vs = [.ref w, .int S] ∧ WebAt H w p ts ∧ OrBad ts S (∀ H', Same H H' → E (.ref C) none H') fun m =>
  ((netOf p ts g).Ring m → ∀ D H' t0 acc v, H D = none → Same H H' → m.testBit t0 = true → (tiesOf (m : Int))[0]? = some t0 → RM.Wk (netOf p ts g) m t0 acc v 0 → WalkAt H' D acc → Q (.ref D) H') ∧ (¬ (netOf p ts g).Ring m → ∀ H', Same H H' → E (.ref R) none H')
theorem cut_two (u v z : V) : cutV [u, v, z] none (some 2) = [u, v] := rfl
theorem in_two (x u v : Nat) : inV (.int (x : Int)) [.int (u : Int), .int (v : Int)] = decide (u = x ∨ v = x) := by
  have e : ([.int (u : Int), .int (v : Int)] : List V) = natsV [u, v] := rfl
  rw [e, inV_nats]
  refine decide_eq_decide.mpr ?_
  simp [eq_comm]
theorem tiesAt_is {p : Nat} {ts : List Tie} {g : GoodWeb p ts} {m x : Nat} (hm : m < 2 ^ ts.length) : (tiesOf (m : Int)).filter (fun t => decide ((netOf p ts g).a t = x ∨ (netOf p ts g).b t = x)) = (netOf p ts g).tiesAt m x := by
  rw [ties_nat hm, List.filter_filter]
  unfold RM.Net.tiesAt
  refine List.filter_congr fun k _ => ?_
  rw [Bool.and_comm, Bool.decide_or]
section
variable {P : Program} {w : World} {K : PySem.W.Frag} {mg : Str → Option Value} {base : Heap} {a : Adr}
theorem G_check_ring (T : Txt K mg a) : FnOk P w K mg base (CX1 P w) 8 a.f_check_ring a.d_check_ring ["web", "ring"] (sp_check_ring a.c_BadSet a.c_NotRing) := by
  have G_is_ring : FnOk P w K mg base (CX1 P w) 7 a.f_is_ring a.d_is_ring ["web", "tie_set"] (sp_is_ring a.c_BadSet) := G_is_ring T
  refine T.F_check_ring.ok1 sc_check_ring (fun vs H Q E h => ?_) (fun cdv A outer s H vs Q E hr h => ?_)
  · obtain ⟨w, p, ts, g, S, rfl, _⟩ := h
    rfl
  · obtain ⟨wb, p, ts, g, S, rfl, hw, q⟩ := h
    refine ⟨_, (@pss_one _ _ _ (@ps_if _ _ _ _ _ _ _ _ (@pt_not _ _ _ _ (@pt_val _ _ _ (@pe_call _ _ _ _ _ _ _ _ _ _ _ _ _ _ _ _ G_is_ring (hr.mono (by decide)) (by rfl) T.m_is_ring T.k_is_ring T.b_is_ring .nil out_of.passes (@pa_cons _ _ _ _ _ (pv 0) (@pa_cons _ _ _ _ _ (pv 1) pa_nil (by rfl)) (by rfl)) (by decide) (by rfl) (by rfl)) (by intro _; rfl))) (@pss_one _ _ _ (@ps_raise _ _ _ _ _ _ _ _ _ _ _ _ _ _ out_of.thr rfl (by rfl) T.x_NotRing PySem.F.excBase_ValueError (@pa_cons _ _ _ _ _ pe_str pa_nil (by rfl)) (by rfl) (by rfl) (by decide))) pss_nil)), ?_⟩
    refine hd_check_ring ?_
    intro zz0
    refine (exq rfl (exq rfl ⟨wb, p, ts, g, S, rfl, hw, ?_⟩))
    rcases q with ⟨m, rfl, hm, q1, q2⟩ | ⟨hS, q⟩
    · refine .inl ⟨m, rfl, hm, fun H1 s1 => ?_⟩
      by_cases r : (netOf p ts g).Ring m
      · rw [(ringB_iff g hm).mpr r]
        exact (exq rfl (iteF (q1 r H1 s1)))
      · rw [show ringB p ts g m = false from Bool.eq_false_iff.mpr fun z => r ((ringB_iff g hm).mp z)]
        exact (exq rfl (iteT ⟨dl rfl, q2 r H1 s1⟩))
    · exact .inr ⟨hS, q⟩
theorem G_tie_at (T : Txt K mg a) : FnOk P w K mg base CX0 3 a.f_tie_at a.d_tie_at ["web", "tie_set", "point"] sp_tie_at := by
  have G_ties_in : FnOk P w K mg base CX0 2 a.f_ties_in a.d_ties_in ["tie_set"] sp_ties_in := G_ties_in T
  refine T.F_tie_at.ok sc_tie_at (fun vs H Q E h => ?_) (fun cdv A outer s H vs Q E hr h => ?_)
  · obtain ⟨w, p, ts, g, S, m, x, t, rfl, _⟩ := h
    rfl
  · obtain ⟨wb, p, ts, g, S, m, x, t0, rfl, rfl, hw, hm, ht0, q⟩ := h
    refine ⟨_, (@pss_one _ _ _ (@ps_ret _ _ _ _ (@pe_ix _ _ _ _ _ _ _ (ixL K) (@pe_comp _ _ _ _ _ _ _ ["tie"] ["web", "point"] [0, 2] _ _ _ _ (compText_of (defScope s_tie_at) ["web", "tie_set", "point"]) rfl (@piL _ _ _ _ K (@pe_call _ _ _ _ _ _ _ _ _ _ _ _ _ _ _ _ G_ties_in (hr.mono (by decide)) (by rfl) T.m_ties_in T.k_ties_in T.b_ties_in .nil pass0 (@pa_cons _ _ _ _ _ (pv 1) pa_nil (by rfl)) (by decide) (by rfl) (by rfl)) (by rfl)) (fun _ _ _ _ => (pg_name (i := 0) (show (["tie", "web", "point"] : List Str).Nodup by decide +kernel) rfl (Or.inl rfl))) (fun _ _ _ _ => (pts_one (pt_cmpR (inK K) (pv 2) (pe_slice (slT K) (pe_ix (ixT K) (pe_ix (ixT K) (pv 1) pe_int (fun _ _ => rfl)) (pv 0) (fun _ _ => rfl)) po_none (po_some pe_int)) (by with_unfolding_all rfl)))) (fun _ _ _ _ => (pv 0)) (by intro _; rfl)) pe_int (fun _ _ => rfl)))), ?_⟩
    obtain ⟨bt, xs, h1, h2, h3⟩ := id hw.ex
    have hxl := h3.length
    have wl := g.len
    have hb24 : Builtin.Int.intBits (m : Int) ≤ ts.length := bits_le hm
    refine (exq rfl ⟨m, rfl, by (first | lia | omega), fun D H1 hn1 s1 hD => ⟨D, rfl, ⟨_, SqL.of hD⟩, fun C hC => comp_list (xs := natsV (tiesOf (m : Int))) (Filt (fun t => decide ((netOf p ts g).a t = x ∨ (netOf p ts g).b t = x)) (tiesOf (m : Int)) H1 C) (.start hC) (fun i acc H2 _ f => ⟨SqL.of (f.1 _ _ hD), f.len⟩) ?_ ?_ ?_⟩⟩)
    · rw [natsV_len]
      refine small24 (Nat.le_trans (List.length_filter_le _ _) ?_)
      rw [List.length_range]
      (first | lia | omega)
    · intro i y acc H2 hy f
      obtain ⟨t, ht, rfl⟩ := natsV_get hy
      have htl := ties_lt hm (List.mem_of_getElem? ht)
      obtain ⟨b, hxb, hct⟩ := tie_in (g := g) h3 htl
      have s2 := s1.trans f.1
      refine ⟨rfl, exq rfl (exq rfl (ixq (SqT.of (s2 _ _ h1)) (atI_nat (j := 1) rfl) (exq rfl (ixq (SqT.of (s2 _ _ h2)) (atI_nat (j := t) hxb) (?_)))))⟩
      refine (exq rfl ⟨b, _, rfl, SqT.of (s2 _ _ hct), (fun z => absurd (show HT.sIx 3 3 (some 2) = 3 from z.2) (by decide)), fun u hu => ?_⟩)
      rw [cut_two]
      refine (lnq rfl (.inr (SqT.of upd_same)) ⟨rfl, rfl, exq rfl (?_)⟩)
      dsimp only
      rw [in_two]
      cases hb : decide ((netOf p ts g).a t = x ∨ (netOf p ts g).b t = x) with
      | true => exact (exq rfl (f.yes hC (Same.new hu) ht hb))
      | false => exact f.no (Same.new hu) ht hb
    · intro acc H2 f
      rw [natsV_len] at f
      have hC2 := f.fin
      rw [tiesAt_is hm] at hC2
      exact (ixl (SqL.of hC2) (atI_nat (j := 0) (nats_at ht0)) (q H2 (s1.trans f.1)))
theorem G_far_end (T : Txt K mg a) : FnOk P w K mg base CX0 1 a.f_far_end a.d_far_end ["web", "tie", "point"] sp_far_end := by
  refine T.F_far_end.ok sc_far_end (fun vs H Q E h => ?_) (fun cdv A outer s H vs Q E hr h => ?_)
  · obtain ⟨w, p, ts, g, t, x, rfl, _⟩ := h
    rfl
  · obtain ⟨wb, p, ts, g, t, x, rfl, hw, ht, q⟩ := h
    refine ⟨_, (@pss_cons _ _ _ _ _ (@ps_set _ _ 3 _ _ _ _ sc_far_end.nd rfl (Or.inl rfl) (@pe_ix _ _ _ _ _ _ _ (ixT K) (@pe_ix _ _ _ _ _ _ _ (ixT K) (pv 0) pe_int (fun _ _ => rfl)) (pv 1) (fun _ _ => rfl)) (by rfl) (by first | exact .inl rfl | exact .inr rfl | assumption)) (@pss_one _ _ _ (@ps_ret _ _ _ _ (@pe_ifExp _ _ _ _ _ _ _ _ (@pt_cmpR _ _ _ _ _ _ _ _ op_eq (@pe_ix _ _ _ _ _ _ _ (ixT K) (pv 3) pe_int (fun _ _ => rfl)) (pv 2) (nomark _)) (@pe_ix _ _ _ _ _ _ _ (ixT K) (pv 3) pe_int (fun _ _ => rfl)) (@pe_ix _ _ _ _ _ _ _ (ixT K) (pv 3) pe_int (fun _ _ => rfl)))))), ?_⟩
    refine hd_far_end ?_
    intro zz0
    obtain ⟨bt, xs, h1, h2, h3⟩ := id hw.ex
    obtain ⟨b, hxb, hct⟩ := tie_in (g := g) h3 ht
    refine (exq rfl (ixq (SqT.of h1) (atI_nat (j := 1) rfl) (exq rfl (ixq (SqT.of h2) (atI_nat (j := t) hxb) (?_)))))
    refine (exq rfl (ixq (SqT.of hct) (atI_nat (j := 0) rfl) (exq rfl ⟨rfl, exq rfl (?_)⟩)))
    rw [dec_nat]
    unfold RM.Net.far at q
    by_cases e : (netOf p ts g).a t = x
    · rw [if_pos e] at q
      rw [decide_eq_true e]
      exact iteT (exq rfl (ixq (SqT.of hct) (atI_nat (j := 1) rfl) (q)))
    · rw [if_neg e] at q
      rw [decide_eq_false e]
      exact iteF (exq rfl (ixq (SqT.of hct) (atI_nat (j := 0) rfl) (q)))
theorem G_walked (T : Txt K mg a) : FnOk P w K mg base (CX1 P w) 9 a.f_walked a.d_walked ["web", "ring"] (sp_walked a.c_BadSet a.c_NotRing) := by
  have G_check_ring : FnOk P w K mg base (CX1 P w) 8 a.f_check_ring a.d_check_ring ["web", "ring"] (sp_check_ring a.c_BadSet a.c_NotRing) := G_check_ring T
  have G_ties_in : FnOk P w K mg base CX0 2 a.f_ties_in a.d_ties_in ["tie_set"] sp_ties_in := G_ties_in T
  have G_tie_at : FnOk P w K mg base CX0 3 a.f_tie_at a.d_tie_at ["web", "tie_set", "point"] sp_tie_at := G_tie_at T
  have G_far_end : FnOk P w K mg base CX0 1 a.f_far_end a.d_far_end ["web", "tie", "point"] sp_far_end := G_far_end T
  refine T.F_walked.ok1 sc_walked (fun vs H Q E h => ?_) (fun cdv A outer s H vs Q E hr h => ?_)
  · obtain ⟨w, p, ts, g, S, rfl, _⟩ := h
    rfl
  · obtain ⟨wb, p, ts, g, S, rfl, hw, q⟩ := h
    refine ⟨_, (@pss_cons _ _ _ _ _ (@ps_expr _ _ _ _ (@pe_call _ _ _ _ _ _ _ _ _ _ _ _ _ _ _ _ G_check_ring (hr.mono (by decide)) (by rfl) T.m_check_ring T.k_check_ring T.b_check_ring .nil out_of.passes (@pa_cons _ _ _ _ _ (pv 0) (@pa_cons _ _ _ _ _ (pv 1) pa_nil (by rfl)) (by rfl)) (by decide) (by rfl) (by rfl)) (by rfl)) (@pss_cons _ _ _ _ _ (@ps_set _ _ 2 _ _ _ _ sc_walked.nd rfl (Or.inl rfl) (@pe_ix _ _ _ _ _ _ _ (ixL K) (@pe_call _ _ _ _ _ _ _ _ _ _ _ _ _ _ _ _ G_ties_in (hr.mono (by decide)) (by rfl) T.m_ties_in T.k_ties_in T.b_ties_in .nil pass0 (@pa_cons _ _ _ _ _ (pv 1) pa_nil (by rfl)) (by decide) (by rfl) (by rfl)) pe_int (fun _ _ => rfl)) (by rfl) (by first | exact .inl rfl | exact .inr rfl | assumption)) (@pss_cons _ _ _ _ _ (@ps_set _ _ 3 _ _ _ _ sc_walked.nd rfl (Or.inl rfl) (@pe_lst _ _ _ _ (@pa_cons _ _ _ _ _ (@pe_tup _ _ _ _ _ (@pa_cons _ _ _ _ _ (pv 2) (@pa_cons _ _ _ _ _ pe_int pa_nil (by rfl)) (by rfl))) pa_nil (by rfl))) (by rfl) (by first | exact .inl rfl | exact .inr rfl | assumption)) (@pss_cons _ _ _ _ _ (@ps_set _ _ 4 _ _ _ _ sc_walked.nd rfl (Or.inl rfl) (@pe_ix _ _ _ _ _ _ _ (ixT K) (@pe_ix _ _ _ _ _ _ _ (ixT K) (@pe_ix _ _ _ _ _ _ _ (ixT K) (pv 0) pe_int (fun _ _ => rfl)) (pv 2) (fun _ _ => rfl)) pe_int (fun _ _ => rfl)) (by rfl) (by first | exact .inl rfl | exact .inr rfl | assumption)) (@pss_cons _ _ _ _ _ (@ps_set _ _ 5 _ _ _ _ sc_walked.nd rfl (Or.inl rfl) (@pe_op _ _ _ _ _ _ _ _ op_xor (pv 1) (@pe_op _ _ _ _ _ _ _ _ op_shl pe_int (pv 2))) (by rfl) (by first | exact .inl rfl | exact .inr rfl | assumption)) (@pss_cons _ _ _ _ _ (@ps_while _ _ _ _ _ _ PassesOwn.leaving (@pt_cmpR _ _ _ _ _ _ _ _ op_gt (pv 5) pe_int (nomark _)) (@pss_cons _ _ _ _ _ (@ps_set _ _ 6 _ _ _ _ sc_walked.nd rfl (Or.inl rfl) (@pe_call _ _ _ _ _ _ _ _ _ _ _ _ _ _ _ _ G_tie_at (hr.mono (by decide)) (by rfl) T.m_tie_at T.k_tie_at T.b_tie_at .nil pass0 (@pa_cons _ _ _ _ _ (pv 0) (@pa_cons _ _ _ _ _ (pv 5) (@pa_cons _ _ _ _ _ (pv 4) pa_nil (by rfl)) (by rfl)) (by rfl)) (by decide) (by rfl) (by rfl)) (by rfl) (by first | exact .inl rfl | exact .inr rfl | assumption)) (@pss_cons _ _ _ _ _ (@ps_expr _ _ _ _ (@bmK _ _ _ _ _ _ K (@pe_bm _ _ _ _ _ _ _ _ _ _ _ _ PySem.F.plainAttrs_list PySem.F.slot_list_append PySem.F.type_list_append mt_append (pv 3) (@pa_cons _ _ _ _ _ (@pe_tup _ _ _ _ _ (@pa_cons _ _ _ _ _ (pv 6) (@pa_cons _ _ _ _ _ (@pe_ifExp _ _ _ _ _ _ _ _ (@pt_cmpR _ _ _ _ _ _ _ _ op_eq (@pe_ix _ _ _ _ _ _ _ (ixT K) (@pe_ix _ _ _ _ _ _ _ (ixT K) (@pe_ix _ _ _ _ _ _ _ (ixT K) (pv 0) pe_int (fun _ _ => rfl)) (pv 6) (fun _ _ => rfl)) pe_int (fun _ _ => rfl)) (pv 4) (nomark _)) pe_int (@pe_un _ _ _ _ _ _ un_neg pe_int)) pa_nil (by rfl)) (by rfl))) pa_nil (by rfl)) (by rfl) (by rfl) (by rfl) (by rfl) (by rfl)) (by rfl)) (by rfl)) (@pss_cons _ _ _ _ _ (@ps_set _ _ 4 _ _ _ _ sc_walked.nd rfl (Or.inl rfl) (@pe_call _ _ _ _ _ _ _ _ _ _ _ _ _ _ _ _ G_far_end (hr.mono (by decide)) (by rfl) T.m_far_end T.k_far_end T.b_far_end .nil pass0 (@pa_cons _ _ _ _ _ (pv 0) (@pa_cons _ _ _ _ _ (pv 6) (@pa_cons _ _ _ _ _ (pv 4) pa_nil (by rfl)) (by rfl)) (by rfl)) (by decide) (by rfl) (by rfl)) (by rfl) (by first | exact .inl rfl | exact .inr rfl | assumption)) (@pss_one _ _ _ (@ps_aug _ _ 5 _ _ _ _ _ _ sc_walked.nd rfl (Or.inl rfl) (@pe_op _ _ _ _ _ _ _ _ op_shl pe_int (pv 6)) iop_xor (by first | exact .inl rfl | exact .inr rfl | assumption))))))) (@pss_one _ _ _ (@ps_ret _ _ _ _ (pv 3))))))))), ?_⟩
    refine hd_walked ?_
    intro zz0 zz1 zz2 zz3 zz4 zz5 zz6 zz7 zz8 zz9
    obtain ⟨bt, xs, h1, h2, h3⟩ := id hw.ex
    have wl := g.len
    have wp := g.p2
    refine (exq rfl (exq rfl ⟨wb, p, ts, g, S, rfl, hw, ?_⟩))
    rcases q with ⟨m, rfl, hm, q1, q2⟩ | ⟨hS, q⟩
    case inr => exact .inr ⟨hS, q⟩
    refine .inl ⟨m, rfl, hm, fun r H1 s1 => ?_, q2⟩
    have hb24 : Builtin.Int.intBits (m : Int) ≤ ts.length := bits_le hm
    obtain ⟨c, hc0, hcb⟩ := first_tie r.1
    have hcl := RM.bits_lt hm hcb
    obtain ⟨b, hxb, hct⟩ := tie_in (g := g) h3 hcl
    refine (exq rfl ⟨m, rfl, by (first | lia | omega), fun D H2 hn2 s2 hD => (ixl (SqL.of hD) (atI_nat (j := 0) (nats_at hc0)) (?_))⟩)
    have s12 : Same H H2 := s1.trans s2
    refine (exq rfl ⟨dl rfl, fun b0 hb0 => ⟨dl rfl, fun Dw hDw => ?_⟩⟩)
    have s4 : Same H (upd (upd H2 b0 (.tup [.int ((c : Nat) : Int), .int 1])) Dw (.lst [.ref b0])) := (s12.trans (Same.new hb0)).trans (Same.new hDw)
    have hDn : H Dw = none := (s12.trans (Same.new hb0)).free hDw
    have w4 : WalkAt (upd (upd H2 b0 (.tup [.int ((c : Nat) : Int), .int 1])) Dw (.lst [.ref b0])) Dw [(c, 1)] :=
      ⟨[.ref b0], upd_same, .cons ⟨b0, rfl, Same.new hDw _ _ upd_same⟩ .nil⟩
    generalize upd (upd H2 b0 (.tup [.int ((c : Nat) : Int), .int 1])) Dw (.lst [.ref b0]) = H4 at s4 w4
    refine (exq rfl (ixq (SqT.of (s4 _ _ h1)) (atI_nat (j := 1) rfl) (exq rfl (ixq (SqT.of (s4 _ _ h2)) (atI_nat (j := c) hxb) (ixq (SqT.of (s4 _ _ hct)) (atI_nat (j := 1) rfl) (?_))))))
    refine (exq rfl (exq rfl (ijq ⟨⟨by (first | lia | omega), by (first | lia | omega), by decide⟩, ijq (?_)⟩)))
    refine ⟨fun k σ H5 => ∃ acc v left v6, σ = [some (.ref wb), some (.int (m : Int)), some (.int ((c : Nat) : Int)), some (.ref Dw), some (.int ((v : Nat) : Int)), some (.int ((left : Nat) : Int)), v6] ∧ Same H H5 ∧ WalkAt H5 Dw acc ∧ RM.Wk (netOf p ts g) m c acc v left ∧ k = RM.cnt (fun j => left.testBit j) ts.length, ⟨_, [(c, 1)], (netOf p ts g).b c, m ^^^ 2 ^ c, none, by show [_, _, _, _, _, some (V.int (Builtin.bitXor _ (1 * 2 ^ (c : Int).toNat))), _] = _; rw [shl_int, xor_int], s4, w4, .start, rfl⟩, ?_⟩
    rintro k σ H5 ⟨acc, v, left, v6, rfl, s5, w5, wk, rfl⟩
    refine (exq rfl (ijq (exq rfl (ite2 (fun hpos => ?_) (fun hpos => ?_)))))
    · have hpos : (0 : Int) < ((left : Nat) : Int) := of_decide_eq_true hpos
      have hne : left ≠ 0 := by (first | lia | omega)
      obtain ⟨t, ht⟩ := RM.wk_on hm r hcb wk hne
      have htm := RM.tiesAt_mem.mp (List.mem_of_getElem? ht)
      have htl : t < ts.length := htm.1
      have hll : left < 2 ^ ts.length := (RM.wk_v hm r hcb wk).2.1
      have hdec : RM.cnt (fun j => left.testBit j) ts.length = RM.cnt (fun j => (left ^^^ 2 ^ t).testBit j) ts.length + 1 := RM.cnt_less htl htm.2.1
      have hlen := RM.wk_len hm hcb wk
      have hc24 : RM.cnt (fun j => m.testBit j) ts.length ≤ ts.length := by
        have := RM.cnt_not (fun j => m.testBit j) ts.length
        (first | lia | omega)
      have hlen : acc.length + RM.cnt (fun j => left.testBit j) ts.length = RM.cnt (fun j => m.testBit j) ts.length := hlen
      refine ⟨fun σ H6 => ∃ acc v left' v6, σ = [some (.ref wb), some (.int (m : Int)), some (.int ((c : Nat) : Int)), some (.ref Dw), some (.int ((v : Nat) : Int)), some (.int ((left' : Nat) : Int)), v6] ∧ Same H H6 ∧ WalkAt H6 Dw acc ∧ RM.Wk (netOf p ts g) m c acc v left' ∧ RM.cnt (fun j => left'.testBit j) ts.length < RM.cnt (fun j => left.testBit j) ts.length, fun σ H6 ⟨acc, v, left', v6, z1, z2, z3, z4, z5⟩ => ⟨_, z5, acc, v, left', v6, z1, z2, z3, z4, rfl⟩, ?_⟩
      refine (exq rfl (exq rfl (exq rfl ⟨wb, p, ts, g, _, left, v, t, rfl, rfl, hw.same s5, hll, ht, fun H6 s6 => ?_⟩)))
      have s56 := s5.trans s6
      obtain ⟨ws, hws, hwp⟩ := w5.same s6
      obtain ⟨bb, hxbb, hctt⟩ := tie_in (g := g) h3 htl
      refine (exq rfl ⟨.inl ⟨rfl, _, SqL.of hws⟩, exq rfl (exq rfl (ixq (SqT.of (s56 _ _ h1)) (atI_nat (j := 1) rfl) (exq rfl (ixq (SqT.of (s56 _ _ h2)) (atI_nat (j := t) hxbb) (ixq (SqT.of (s56 _ _ hctt)) (atI_nat (j := 0) rfl) (exq rfl ⟨rfl, exq rfl (?_)⟩))))))⟩)
      rw [dec_nat]
      have hwsl : ws.length < sizeLine := by
        rw [hwp.length]
        exact smallL (by (first | lia | omega))
      have fin : ∀ y : Int, y = (if (netOf p ts g).a t = v then 1 else -1) → ∀ b1, H6 b1 = none → 
          (fun (σ' : St) (H6' : Hp) => ∃ acc v left' v6, σ' = [some (.ref wb), some (.int (m : Int)), some (.int ((c : Nat) : Int)), some (.ref Dw), some (.int ((v : Nat) : Int)), some (.int ((left' : Nat) : Int)), v6] ∧ Same H H6' ∧ WalkAt H6' Dw acc ∧ RM.Wk (netOf p ts g) m c acc v left' ∧ RM.cnt (fun j => left'.testBit j) ts.length < RM.cnt (fun j => left.testBit j) ts.length) [some (.ref wb), some (.int (m : Int)), some (.int ((c : Nat) : Int)), some (.ref Dw), some (.int (((netOf p ts g).far t v : Nat) : Int)), some (.int ((left ^^^ 2 ^ t : Nat) : Int)), some (.int ((t : Nat) : Int))] (upd (upd H6 b1 (.tup [.int ((t : Nat) : Int), .int y])) Dw (.lst (ws ++ [.ref b1]))) := by
        rintro y rfl b1 hb1
        have s7 : Same H6 (upd H6 b1 (.tup [.int ((t : Nat) : Int), .int (if (netOf p ts g).a t = v then 1 else -1)])) := Same.new hb1
        exact ⟨_, _, _, _, rfl, (s56.trans s7).put hDn, WalkAt.push (q := (t, if (netOf p ts g).a t = v then 1 else -1)) (s7 _ _ hws) (Paired.imp' (fun _ _ z => PrA.same s7 z) hwp) upd_same, .next wk hne ht, by (first | lia | omega)⟩
      have shf : Builtin.bitXor ((left : Nat) : Int) (1 * 2 ^ ((t : Nat) : Int).toNat) = ((left ^^^ 2 ^ t : Nat) : Int) := by rw [shl_int, xor_int]
      by_cases e : (netOf p ts g).a t = v
      · rw [decide_eq_true e]
        refine iteT ⟨dl rfl, fun b1 hb1 => ⟨Dw, ws, _, rfl, rfl, Same.new hb1 _ _ hws, hwsl, ?_⟩⟩
        have f := fin 1 (by rw [if_pos e]) b1 hb1
        have s8 : Same H (upd (upd H6 b1 (.tup [.int ((t : Nat) : Int), .int 1])) Dw (.lst (ws ++ [.ref b1]))) := (s56.trans (Same.new hb1)).put hDn
        generalize upd (upd H6 b1 (.tup [.int ((t : Nat) : Int), .int 1])) Dw (.lst (ws ++ [.ref b1])) = H8 at f s8
        refine (exq rfl (exq rfl (exq rfl ⟨wb, p, ts, g, t, v, rfl, hw.same s8, htl, _, rfl, exq rfl (ijq ⟨⟨by (first | lia | omega), by (first | lia | omega), by decide⟩, ijq (?_)⟩)⟩)))
        dsimp only
        rw [shf]
        exact f
      · rw [decide_eq_false e]
        refine iteF (exq rfl ⟨dl rfl, fun b1 hb1 => ⟨Dw, ws, _, rfl, rfl, Same.new hb1 _ _ hws, hwsl, ?_⟩⟩)
        have f := fin (-1) (by rw [if_neg e]) b1 hb1
        have s8 : Same H (upd (upd H6 b1 (.tup [.int ((t : Nat) : Int), .int (-1)])) Dw (.lst (ws ++ [.ref b1]))) := (s56.trans (Same.new hb1)).put hDn
        generalize upd (upd H6 b1 (.tup [.int ((t : Nat) : Int), .int (-1)])) Dw (.lst (ws ++ [.ref b1])) = H8 at f s8
        refine (exq rfl (exq rfl (exq rfl ⟨wb, p, ts, g, t, v, rfl, hw.same s8, htl, _, rfl, exq rfl (ijq ⟨⟨by (first | lia | omega), by (first | lia | omega), by decide⟩, ijq (?_)⟩)⟩)))
        dsimp only
        rw [shf]
        exact f
    · have hz : left = 0 := by
        have : ¬ (0 : Int) < ((left : Nat) : Int) := fun z => hpos (decide_eq_true z)
        (first | lia | omega)
      subst hz
      exact (exq rfl (q1 r Dw H5 c acc v hDn s5 hcb hc0 wk w5))
end
def waysL (acc : List (Nat × Int)) (n : Nat) : List Int := acc.foldl (fun l q => l.set q.1 q.2) (List.replicate n 0)
def WaysIs (p : Nat) (ts : List Tie) (g : GoodWeb p ts) (S : Int) (l : List Int) : Prop := ∃ (m t0 v : Nat) (acc : List (Nat × Int)), S = (m : Int) ∧ m < 2 ^ ts.length ∧ (netOf p ts g).Ring m ∧ m.testBit t0 = true ∧ (tiesOf (m : Int))[0]? = some t0 ∧ RM.Wk (netOf p ts g) m t0 acc v 0 ∧ l = waysL acc ts.length
def sp_ways_of (C R : Addr) : Sp := fun vs H Q E => ∃ w p ts, ∃ g : GoodWeb p ts, ∃ S, vs = [.ref w, .int S] ∧ WebAt H w p ts ∧ OrBad ts S (∀ H', Same H H' → E (.ref C) none H') fun m =>
  ((netOf p ts g).Ring m → ∀ D H' l, H D = none → Same H H' → WaysIs p ts g (m : Int) l → H' D = some (.lst (intsV l)) → Q (.ref D) H') ∧ (¬ (netOf p ts g).Ring m → ∀ H', Same H H' → E (.ref R) none H')
def GoodR (p : Nat) (ts : List Tie) (g : GoodWeb p ts) (S : Int) : Prop := ∃ m : Nat, S = (m : Int) ∧ m < 2 ^ ts.length ∧ (netOf p ts g).Ring m
theorem waysL_snoc (acc : List (Nat × Int)) (q : Nat × Int) (n : Nat) : waysL (acc ++ [q]) n = (waysL acc n).set q.1 q.2 := by
  unfold waysL
  rw [List.foldl_append]
  rfl
theorem waysL_len (acc : List (Nat × Int)) (n : Nat) : (waysL acc n).length = n := by
  unfold waysL
  have : ∀ (acc : List (Nat × Int)) (l : List Int), (acc.foldl (fun l q => l.set q.1 q.2) l).length = l.length := fun acc => by
    induction acc with
    | nil => exact fun l => rfl
    | cons q acc ih =>
      intro l
      rw [List.foldl_cons, ih, List.length_set]
  rw [this, List.length_replicate]
theorem waysL_vals {acc : List (Nat × Int)} (h : ∀ q ∈ acc, q.2 = 1 ∨ q.2 = -1) (n : Nat) : ∀ x ∈ waysL acc n, x = 0 ∨ x = 1 ∨ x = -1 := by
  unfold waysL
  have : ∀ (acc : List (Nat × Int)) (l : List Int), (∀ q ∈ acc, q.2 = 1 ∨ q.2 = -1) → (∀ x ∈ l, x = 0 ∨ x = 1 ∨ x = -1) → ∀ x ∈ acc.foldl (fun l q => l.set q.1 q.2) l, x = 0 ∨ x = 1 ∨ x = -1 := fun acc => by
    induction acc with
    | nil => exact fun l _ h => h
    | cons q acc ih =>
      intro l h1 h2
      rw [List.foldl_cons]
      refine ih _ (fun q hq => h1 q (List.mem_cons_of_mem _ hq)) fun x hx => ?_
      rcases List.mem_or_eq_of_mem_set hx with z | z
      · exact h2 x z
      · rw [z]
        exact .inr (h1 q List.mem_cons_self)
  exact this acc _ h fun x hx => .inl (List.eq_of_mem_replicate hx)
theorem WaysIs.len {p : Nat} {ts : List Tie} {g : GoodWeb p ts} {S : Int} {l : List Int} (h : WaysIs p ts g S l) : l.length = ts.length := by
  obtain ⟨m, t0, v, acc, _, _, _, _, _, _, rfl⟩ := h
  exact waysL_len _ _
theorem WaysIs.vals {p : Nat} {ts : List Tie} {g : GoodWeb p ts} {S : Int} {l : List Int} (h : WaysIs p ts g S l) : ∀ x ∈ l, x = 0 ∨ x = 1 ∨ x = -1 := by
  obtain ⟨m, t0, v, acc, _, _, _, _, _, wk, rfl⟩ := h
  exact waysL_vals (wk_way1 wk) _
theorem paired_right {α β : Type} {F : α → β → Prop} : ∀ {l : List α} {r : List β}, Paired F l r → ∀ {y : β}, y ∈ r → ∃ x, x ∈ l ∧ F x y
  | _, _, .cons h1 h2, y, hy => by
    rcases List.mem_cons.mp hy with rfl | hy
    · exact ⟨_, List.mem_cons_self, h1⟩
    · obtain ⟨x, hx, hf⟩ := paired_right h2 hy
      exact ⟨x, List.mem_cons_of_mem _ hx, hf⟩
theorem rep_zero : ∀ p : Nat, (List.replicate p [V.int 0]).flatten = intsV (List.replicate p 0)
  | 0 => rfl
  | p + 1 => by
    rw [List.replicate_succ, List.flatten_cons, rep_zero p, List.replicate_succ]
    rfl
theorem ints_snoc (l : List Int) (x : Int) : intsV l ++ [.int x] = intsV (l ++ [x]) := by
  unfold intsV
  rw [List.map_append]
  rfl
section
variable {P : Program} {w : World} {K : PySem.W.Frag} {mg : Str → Option Value} {base : Heap} {a : Adr}
theorem G_ways_of (T : Txt K mg a) : FnOk P w K mg base (CX1 P w) 10 a.f_ways_of a.d_ways_of ["web", "ring"] (sp_ways_of a.c_BadSet a.c_NotRing) := by
  have G_walked : FnOk P w K mg base (CX1 P w) 9 a.f_walked a.d_walked ["web", "ring"] (sp_walked a.c_BadSet a.c_NotRing) := G_walked T
  refine T.F_ways_of.ok1 sc_ways_of (fun vs H Q E h => ?_) (fun cdv A outer s H vs Q E hr h => ?_)
  · obtain ⟨w, p, ts, g, S, rfl, _⟩ := h
    rfl
  · obtain ⟨wb, p, ts, g, S, rfl, hw, q⟩ := h
    refine ⟨_, (@pss_cons _ _ _ _ _ (@ps_set _ _ 2 _ _ _ _ sc_ways_of.nd rfl (Or.inl rfl) (@pe_op _ _ _ _ _ _ _ _ op_rep (@pe_lst _ _ _ _ (@pa_cons _ _ _ _ _ pe_int pa_nil (by rfl))) (@pe_callB _ _ _ _ _ _ _ _ _ (lenK K) (by rfl) T.n_len PySem.boot_len (@pa_cons _ _ _ _ _ (@pe_ix _ _ _ _ _ _ _ (ixT K) (pv 0) pe_int (fun _ _ => rfl)) pa_nil (by rfl)) (by decide) (by decide) (by rfl) (by rfl))) (by rfl) (by first | exact .inl rfl | exact .inr rfl | assumption)) (@pss_cons _ _ _ _ _ (@ps_for1 _ _ _ _ _ _ _ _ rfl (@piL _ _ _ _ K (@pe_call _ _ _ _ _ _ _ _ _ _ _ _ _ _ _ _ G_walked (hr.mono (by decide)) (by rfl) T.m_walked T.k_walked T.b_walked .nil out_of.passes (@pa_cons _ _ _ _ _ (pv 0) (@pa_cons _ _ _ _ _ (pv 1) pa_nil (by rfl)) (by rfl)) (by decide) (by rfl) (by rfl)) (by rfl)) (@pgT _ _ K _ _ 2 _ rfl (@pgs_cons _ _ _ _ _ (pg_name (i := 3) sc_ways_of.nd rfl (Or.inl rfl)) (@pgs_cons _ _ _ _ _ (pg_name (i := 4) sc_ways_of.nd rfl (Or.inl rfl)) pgs_nil (by rfl)) (by rfl)) (by rfl) (by rfl) (by rfl)) (@pss_one _ _ _ (@ps_asg _ _ _ _ _ _ (pv 4) (@pg_sub _ _ _ _ _ _ _ (pv 2) (pv 3) set_list (by intro _; rfl)) (by rfl) (by rfl) (by rfl))) (by intro _; rfl)) (@pss_one _ _ _ (@ps_ret _ _ _ _ (pv 2))))), ?_⟩
    refine hd_ways_of ?_
    intro zz0 zz1 zz2
    obtain ⟨bt, xs, h1, h2, h3⟩ := id hw.ex
    have hxl := h3.length
    have wl := g.len
    refine ⟨dl rfl, fun l1 hl1 => (exq rfl (ixq (SqT.of (Same.new hl1 _ _ h1)) (atI_nat (j := 1) rfl) (lnq rfl (.inr (SqT.of (Same.new hl1 _ _ h2))) ⟨l1, ((xs.length : Nat) : Int), exq rfl ⟨rfl, upd_same, by (first | lia | omega), by (first | lia | omega), (by rw [Int.toNat_natCast]; show 1 * xs.length ≤ sizeLine; exact small24 (by (first | lia | omega))), fun Z hZ => ?_⟩⟩)))⟩
    have hZn : H Z = none := (Same.new (o := .lst [.int 0]) hl1).free hZ
    have s1 : Same H (upd (upd H l1 (.lst [.int 0])) Z (.lst (List.replicate ((xs.length : Nat) : Int).toNat [V.int 0]).flatten)) := (Same.new hl1).trans (Same.new hZ)
    have hZ1 : upd (upd H l1 (.lst [.int 0])) Z (.lst (List.replicate ((xs.length : Nat) : Int).toNat [V.int 0]).flatten) Z = some (.lst (intsV (waysL [] ts.length))) := by rw [upd_same, Int.toNat_natCast, rep_zero, hxl]; rfl
    generalize upd (upd H l1 (.lst [.int 0])) Z (.lst (List.replicate ((xs.length : Nat) : Int).toNat [V.int 0]).flatten) = H1 at s1 hZ1
    refine (exq rfl (exq rfl ⟨wb, p, ts, g, S, rfl, hw.same s1, ?_⟩))
    rcases q with ⟨m, rfl, hm, q1, q2⟩ | ⟨hS, qb⟩
    case inr => exact .inr ⟨hS, fun H' s' => qb H' (s1.trans s')⟩
    refine .inl ⟨m, rfl, hm, fun rg D H2 t0 acc v hD s2 hb h0 wk wa => ?_, fun nr H' s' => q2 nr H' (s1.trans s')⟩
    obtain ⟨ws, hws, hwp⟩ := wa
    have hDZ : D ≠ Z := fun z => by
      rw [z, hZ1] at hD
      cases hD
    refine ⟨D, rfl, ⟨_, SqL.of hws⟩, for_list' (K := K) (a := D) (xs := ws) (fun i σ H3 => ∃ v3 v4, σ = [some (.ref wb), some (.int (m : Int)), some (.ref Z), v3, v4] ∧ Same H H3 ∧ H3 D = some (.lst ws) ∧ Paired (PrA H3) ws acc ∧ H3 Z = some (.lst (intsV (waysL (acc.take i) ts.length)))) ⟨_, _, rfl, s1.trans s2, hws, hwp, s2 _ _ hZ1⟩ (fun i σ H3 _ ⟨_, _, _, _, z, _⟩ => SqL.of z) ?_ ?_⟩
    · rintro i x D' σ H3 hx ⟨v3, v4, rfl, s3, hD3, hp3, hZ3⟩
      obtain ⟨y, hy, bq, rfl, hbq⟩ := L2.Paired.getP hp3 hx
      have hyl : y.1 < ts.length := (RM.wk_v (N := netOf p ts g) hm rg hb wk).2.2 y (List.mem_of_getElem? hy)
      refine ⟨bq, _, rfl, SqT.of hbq, rfl, _, _, rfl, _, _, rfl, rfl, ?_⟩
      refine (exq rfl (exq rfl (exq rfl ⟨Z, _, _, y.1, rfl, rfl, hZ3, (by rw [intsV_len, waysL_len]; exact ixN_nat hyl), ?_⟩)))
      refine ⟨_, _, rfl, s3.put hZn, by rw [upd_ne hDZ]; exact hD3, Paired.imp' (fun _ _ z => PrA.put hZ3 z) hp3, ?_⟩
      rw [upd_same, List.take_add_one, hy]
      show _ = some (HO.lst (intsV (waysL (acc.take i ++ [y]) ts.length)))
      rw [waysL_snoc, intsV_set]
    · rintro σ H3 ⟨v3, v4, rfl, s3, hD3, hp3, hZ3⟩
      rw [hwp.length, List.take_length] at hZ3
      exact (exq rfl (q1 rg Z H3 _ hZn s3 ⟨m, t0, v, acc, rfl, hm, rg, hb, h0, wk, rfl⟩ hZ3))
end
def sp_trails : Sp := fun vs H Q _ => ∃ w p ts, ∃ g : GoodWeb p ts, vs = [.ref w] ∧ WebAt H w p ts ∧ ∀ D H', H D = none → Same H H' → H' D = some (.lst (mapV ((netOf p ts g).trail ts.length) p)) → Q (.ref D) H'
def sp_forest : Sp := fun vs H Q _ => ∃ w p ts, ∃ g : GoodWeb p ts, vs = [.ref w] ∧ WebAt H w p ts ∧ ∀ H', Same H H' → Q (.int ((forestN p ts g : Nat) : Int)) H'
def sp_chords : Sp := fun vs H Q _ => ∃ w p ts, ∃ g : GoodWeb p ts, vs = [.ref w] ∧ WebAt H w p ts ∧ ∀ D H', H D = none → Same H H' → H' D = some (.lst (natsV (netOf p ts g).chords)) → Q (.ref D) H'
section
variable {P : Program} {w : World} {K : PySem.W.Frag} {mg : Str → Option Value} {base : Heap} {a : Adr}
theorem tie_at {H : Hp} {xs : List V} {p : Nat} {ts : List Tie} {g : GoodWeb p ts} {k : Nat} (h3 : Paired (TupAt H) xs ts) (hk : k < ts.length) : ∃ c, xs[k]? = some (.ref c) ∧ H c = some (.tup [.int (((netOf p ts g).a k : Nat) : Int), .int (((netOf p ts g).b k : Nat) : Int), .int (tieAt ts k).2.2]) := by
  have hkx : k < xs.length := by rw [h3.length]; exact hk
  obtain ⟨t, ht, c, hc, hct⟩ := Paired.getP h3 (i := k) (x := xs[k]) (by simp [hkx])
  have htt : t = tieAt ts k := by
    have z := tieAt_get hk
    rw [ht] at z
    exact Option.some.inj z
  refine ⟨c, by rw [← hc]; simp [hkx], ?_⟩
  rw [hct, ← net_a hk, ← net_b hk, htt]
  rfl
theorem G_forest_trails (T : Txt K mg a) : FnOk P w K mg base CX0 2 a.f_forest_trails a.d_forest_trails ["web"] sp_trails := by
  have G_drawn_together : FnOk P w K mg base CX0 1 a.f_drawn_together a.d_drawn_together ["leasts", "one", "other"] sp_drawn := G_drawn_together T
  refine T.F_forest_trails.ok sc_forest_trails (fun vs H Q E h => ?_) (fun cdv A outer s H vs Q E hr h => ?_)
  · obtain ⟨w, p, ts, g, rfl, _⟩ := h
    rfl
  · obtain ⟨wb, p, ts, g, rfl, hw, q⟩ := h
    refine ⟨_, (@pss_cons _ _ _ _ _ (@ps_set _ _ 1 _ _ _ _ sc_forest_trails.nd rfl (Or.inl rfl) (@pe_callTy _ _ _ _ _ _ _ _ _ (listR rfl) (by rfl) T.n_list PyProof.Rows.boot_list (@pa_cons _ _ _ _ _ (@pe_callTy _ _ _ _ _ _ _ _ _ call_rng (by rfl) T.n_range PyProof.Rows.boot_range (@pa_cons _ _ _ _ _ (@pe_ix _ _ _ _ _ _ _ (ixT K) (pv 0) pe_int (fun _ _ => rfl)) pa_nil (by rfl)) (by decide) (by decide) (by rfl) (by rfl)) pa_nil (by rfl)) (by decide) (by decide) (by rfl) (by rfl)) (by rfl) (by first | exact .inl rfl | exact .inr rfl | assumption)) (@pss_cons _ _ _ _ _ (@ps_set _ _ 2 _ _ _ _ sc_forest_trails.nd rfl (Or.inl rfl) (@pe_op _ _ _ _ _ _ _ _ op_rep (@pe_lst _ _ _ _ (@pa_cons _ _ _ _ _ pe_int pa_nil (by rfl))) (@pe_ix _ _ _ _ _ _ _ (ixT K) (pv 0) pe_int (fun _ _ => rfl))) (by rfl) (by first | exact .inl rfl | exact .inr rfl | assumption)) (@pss_cons _ _ _ _ _ (@ps_for _ _ _ _ _ _ _ _ PassesOwn.never rfl (@pi_range1 _ _ _ _ _ _ (by rfl) T.n_range (@pa_cons _ _ _ _ _ (@pe_callB _ _ _ _ _ _ _ _ _ (lenK K) (by rfl) T.n_len PySem.boot_len (@pa_cons _ _ _ _ _ (@pe_ix _ _ _ _ _ _ _ (ixT K) (pv 0) pe_int (fun _ _ => rfl)) pa_nil (by rfl)) (by decide) (by decide) (by rfl) (by rfl)) pa_nil (by rfl)) (by rfl)) (pg_name (i := 3) sc_forest_trails.nd rfl (Or.inl rfl)) (@pss_cons _ _ _ _ _ (@ps_set _ _ 4 _ _ _ _ sc_forest_trails.nd rfl (Or.inl rfl) (@pe_ix _ _ _ _ _ _ _ (ixT K) (@pe_ix _ _ _ _ _ _ _ (ixT K) (@pe_ix _ _ _ _ _ _ _ (ixT K) (pv 0) pe_int (fun _ _ => rfl)) (pv 3) (fun _ _ => rfl)) pe_int (fun _ _ => rfl)) (by rfl) (by first | exact .inl rfl | exact .inr rfl | assumption)) (@pss_cons _ _ _ _ _ (@ps_set _ _ 5 _ _ _ _ sc_forest_trails.nd rfl (Or.inl rfl) (@pe_ix _ _ _ _ _ _ _ (ixT K) (@pe_ix _ _ _ _ _ _ _ (ixT K) (@pe_ix _ _ _ _ _ _ _ (ixT K) (pv 0) pe_int (fun _ _ => rfl)) (pv 3) (fun _ _ => rfl)) pe_int (fun _ _ => rfl)) (by rfl) (by first | exact .inl rfl | exact .inr rfl | assumption)) (@pss_one _ _ _ (@ps_if _ _ _ _ _ _ _ _ (@pt_cmpR _ _ _ _ _ _ _ _ op_ne (@pe_ix _ _ _ _ _ _ _ (ixL K) (pv 1) (pv 4) (fun _ _ => rfl)) (@pe_ix _ _ _ _ _ _ _ (ixL K) (pv 1) (pv 5) (fun _ _ => rfl)) (nomark _)) (@pss_cons _ _ _ _ _ (@ps_set _ _ 6 _ _ _ _ sc_forest_trails.nd rfl (Or.inr rfl) (@pe_op _ _ _ _ _ _ _ _ op_xor (@pe_op _ _ _ _ _ _ _ _ op_xor (@pe_ix _ _ _ _ _ _ _ (ixL K) (pv 2) (pv 4) (fun _ _ => rfl)) (@pe_ix _ _ _ _ _ _ _ (ixL K) (pv 2) (pv 5) (fun _ _ => rfl))) (@pe_op _ _ _ _ _ _ _ _ op_shl pe_int (pv 3))) (by rfl) (by first | exact .inl rfl | exact .inr rfl | assumption)) (@pss_cons _ _ _ _ _ (@ps_set _ _ 7 _ _ _ _ sc_forest_trails.nd rfl (Or.inr rfl) (@pe_callB _ _ _ _ _ _ _ _ _ (call_max2 rfl) (by rfl) T.n_max PyProof.Rows.boot_max (@pa_cons _ _ _ _ _ (@pe_ix _ _ _ _ _ _ _ (ixL K) (pv 1) (pv 4) (fun _ _ => rfl)) (@pa_cons _ _ _ _ _ (@pe_ix _ _ _ _ _ _ _ (ixL K) (pv 1) (pv 5) (fun _ _ => rfl)) pa_nil (by rfl)) (by rfl)) (by decide) (by decide) (by rfl) (by rfl)) (by rfl) (by first | exact .inl rfl | exact .inr rfl | assumption)) (@pss_cons _ _ _ _ _ (@ps_comp _ _ _ _ _ _ _ ["trail", "least"] ["bridge", "moved"] [6, 7] _ _ _ _ 2 _ _ _ sc_forest_trails.nd rfl rfl (compText_of (defScope s_forest_trails) ["web", "leasts", "trails", "tie", "one", "other", "bridge", "moved"]) rfl (@pi_zip _ _ _ _ K _ _ _ _ _ (by rfl) T.n_zip (@pa_cons _ _ _ _ _ (pv 2) (@pa_cons _ _ _ _ _ (pv 1) pa_nil (by rfl)) (by rfl)) (by rfl) (by rfl) (by rfl)) (fun _ _ _ _ => (pgT K (n := 2) rfl (pgs_cons (pg_name (i := 0) (show (["trail", "least", "bridge", "moved"] : List Str).Nodup by decide +kernel) rfl (Or.inl rfl)) (pgs_cons (pg_name (i := 1) (show (["trail", "least", "bridge", "moved"] : List Str).Nodup by decide +kernel) rfl (Or.inl rfl)) pgs_nil)))) (fun _ _ _ _ => pts_nil) (fun _ _ _ _ => (pe_ifExp (pt_cmpR op_eq (pv 1) (pv 3) (nomark _)) (pe_op op_xor (pv 0) (pv 2)) (pv 0))) (by rfl) (by intro _; rfl)) (@pss_one _ _ _ (@ps_set _ _ 1 _ _ _ _ sc_forest_trails.nd rfl (Or.inl rfl) (@pe_call _ _ _ _ _ _ _ _ _ _ _ _ _ _ _ _ G_drawn_together (hr.mono (by decide)) (by rfl) T.m_drawn_together T.k_drawn_together T.b_drawn_together .nil pass0 (@pa_cons _ _ _ _ _ (pv 1) (@pa_cons _ _ _ _ _ (pv 4) (@pa_cons _ _ _ _ _ (pv 5) pa_nil (by rfl)) (by rfl)) (by rfl)) (by decide) (by rfl) (by rfl)) (by rfl) (by first | exact .inl rfl | exact .inr rfl | assumption)))))) pss_nil)))) (by intro _; rfl)) (@pss_one _ _ _ (@ps_ret _ _ _ _ (pv 2)))))), ?_⟩
    refine hd_forest_trails ?_
    intro zz0 zz1 zz2 zz3 zz4 zz5 zz6 zz7 zz8 zz9
    obtain ⟨bt, xs, h1, h2, h3⟩ := id hw.ex
    have wp := g.p2
    have wl := g.len
    have hxl := h3.length
    refine (exq rfl (ixq (SqT.of h1) (atI_nat (j := 0) rfl) (exq rfl (fun r hr => ⟨r, p, rfl, upd_same, by (first | lia | omega), fun l hl => ?_⟩))))
    have s1 : Same H (upd (upd H r (.rng 0 (p : Int))) l (.lst (rngV p))) := (Same.new hr).trans (Same.new hl)
    have hl1 : upd (upd H r (.rng 0 (p : Int))) l (.lst (rngV p)) l = some (.lst (mapV ((netOf p ts g).lab 0) p)) := upd_same
    generalize upd (upd H r (.rng 0 (p : Int))) l (.lst (rngV p)) = H1 at s1 hl1
    refine ⟨dl rfl, fun l0 hl0 => ?_⟩
    have s0 : Same H1 (upd H1 l0 (.lst [.int 0])) := Same.new hl0
    refine (exq rfl (ixq (SqT.of (s0 _ _ (s1 _ _ h1))) (atI_nat (j := 0) rfl) ⟨l0, (p : Int), exq rfl ⟨rfl, upd_same, by (first | lia | omega), by (first | lia | omega), (by rw [Int.toNat_natCast]; show 1 * p ≤ sizeLine; exact dl (Nat.ble_eq.mpr (by (first | lia | omega)))), fun e he => ?_⟩⟩))
    have s2 := s0.trans (Same.new (o := .lst (List.replicate (p : Int).toNat [V.int 0]).flatten) he)
    have he2 : upd (upd H1 l0 (.lst [.int 0])) e (.lst (List.replicate (p : Int).toNat [V.int 0]).flatten) e = some (.lst (mapV ((netOf p ts g).trail 0) p)) := by
      rw [upd_same, Int.toNat_natCast, rep_mapV]
      rfl
    generalize upd (upd H1 l0 (.lst [.int 0])) e (.lst (List.replicate (p : Int).toNat [V.int 0]).flatten) = H2 at s2 he2
    refine (exq rfl (ixq (SqT.of ((s1.trans s2) _ _ h1)) (atI_nat (j := 1) rfl) (lnq rfl (.inr (SqT.of ((s1.trans s2) _ _ h2))) (exq rfl ⟨(by (first | lia | omega)), (by (first | lia | omega)), ?_⟩))))
    refine for_range' (lo := 0) (n := (xs.length : Int).toNat) (fun k σ H3 => ∃ la ta v3 v4 v5 v6 v7, σ = [some (.ref wb), some (.ref la), some (.ref ta), v3, v4, v5, v6, v7] ∧ Same H H3 ∧ H3 la = some (.lst (mapV ((netOf p ts g).lab k) p)) ∧ H3 ta = some (.lst (mapV ((netOf p ts g).trail k) p)) ∧ H ta = none)
      ⟨l, e, none, none, none, none, none, rfl, s1.trans s2, s2 _ _ hl1, he2, s1.free (s0.free he)⟩ ?_ ?_
    · rintro k D' σ H3 hk ⟨la, ta, v3, v4, v5, v6, v7, rfl, s3, hla, hta, htn⟩
      rw [Int.toNat_natCast, hxl] at hk
      rw [Int.zero_add]
      obtain ⟨c, hxc, hct⟩ := tie_at (g := g) h3 hk
      have hA := (netOf p ts g).al k hk
      have hB := (netOf p ts g).bl k hk
      have hls := RM.lab_succ (N := netOf p ts g) k
      have hinF : (netOf p ts g).inF k = !decide ((netOf p ts g).lab k ((netOf p ts g).a k) = (netOf p ts g).lab k ((netOf p ts g).b k)) := rfl
      have htr : (netOf p ts g).trail (k + 1) = if (netOf p ts g).inF k = true then fun v => if (netOf p ts g).lab k v = max ((netOf p ts g).lab k ((netOf p ts g).a k)) ((netOf p ts g).lab k ((netOf p ts g).b k)) then (netOf p ts g).trail k v ^^^ ((netOf p ts g).trail k ((netOf p ts g).a k) ^^^ (netOf p ts g).trail k ((netOf p ts g).b k) ^^^ 2 ^ k) else (netOf p ts g).trail k v else (netOf p ts g).trail k := rfl
      generalize (netOf p ts g).a k = A0 at *
      generalize (netOf p ts g).b k = B0 at *
      refine (exq rfl (ixq (SqT.of (s3 _ _ h1)) (atI_nat (j := 1) rfl) (exq rfl (ixq (SqT.of (s3 _ _ h2)) (atI_nat (j := k) hxc) (ixq (SqT.of (s3 _ _ hct)) (atI_nat (j := 0) rfl) (?_))))))
      refine (exq rfl (ixq (SqT.of (s3 _ _ h1)) (atI_nat (j := 1) rfl) (exq rfl (ixq (SqT.of (s3 _ _ h2)) (atI_nat (j := k) hxc) (ixq (SqT.of (s3 _ _ hct)) (atI_nat (j := 1) rfl) (?_))))))
      refine (exq rfl (exq rfl (ixl (SqL.of hla) (atI_nat (j := A0) (mapV_get hA)) (exq rfl (exq rfl (ixl (SqL.of hla) (atI_nat (j := B0) (mapV_get hB)) ⟨rfl, exq rfl (?_)⟩))))))
      rw [dec_nat]
      by_cases he : (netOf p ts g).lab k A0 = (netOf p ts g).lab k B0
      · rw [decide_eq_true he] at hinF
        rw [hinF, if_neg (by decide)] at hls htr
        rw [decide_eq_true he]
        exact iteF ⟨la, ta, _, _, _, _, _, rfl, s3, by rw [hls]; exact hla, by rw [htr]; exact hta, htn⟩
      · rw [decide_eq_false he] at hinF
        rw [hinF, if_pos (by rfl)] at hls htr
        rw [decide_eq_false he]
        have hbr : Builtin.bitXor (Builtin.bitXor (((netOf p ts g).trail k A0 : Nat) : Int) (((netOf p ts g).trail k B0 : Nat) : Int)) (1 * 2 ^ (k : Int).toNat) = (((netOf p ts g).trail k A0 ^^^ (netOf p ts g).trail k B0 ^^^ 2 ^ k : Nat) : Int) := by
          rw [shl_int, xor_int, xor_int]
        refine iteT (exq rfl (exq rfl (ixl (SqL.of hta) (atI_nat (j := A0) (mapV_get hA)) (exq rfl (exq rfl (ixl (SqL.of hta) (atI_nat (j := B0) (mapV_get hB)) (ijq (exq rfl (ijq ⟨⟨by (first | lia | omega), by (first | lia | omega), by decide⟩, ijq (?_)⟩)))))))))
        refine (exq rfl (exq rfl (ixl (SqL.of hla) (atI_nat (j := A0) (mapV_get hA)) (exq rfl (exq rfl (ixl (SqL.of hla) (atI_nat (j := B0) (mapV_get hB)) ⟨_, _, rfl, ?_⟩))))))
        refine (exq rfl (exq rfl ⟨ta, la, rfl, ⟨_, SqL.of hta⟩, ⟨_, SqL.of hla⟩, fun D hD => comp_zip (xs := mapV ((netOf p ts g).trail k) p) (ys := mapV ((netOf p ts g).lab k) p) (by rw [mapV_len, mapV_len]) (Mapd ((netOf p ts g).trail (k + 1)) H3 D) (.start hD) (fun i acc H4 _ pd => ⟨SqL.of (pd.1 _ _ hta), SqL.of (pd.1 _ _ hla), pd.len⟩) (by rw [mapV_len]; exact dl (Nat.ble_eq.mpr (by (first | lia | omega)))) ?_ ?_⟩))
        · intro i x y T0 acc H4 hx hy pd hT
          obtain ⟨hi, rfl⟩ := mapV_of hx
          obtain ⟨_, rfl⟩ := mapV_of hy
          refine ⟨T0, _, rfl, SqT.of upd_same, rfl, _, _, rfl, _, _, rfl, rfl, rfl, exq rfl (exq rfl ⟨rfl, exq rfl (?_)⟩)⟩
          rw [max_int, dec_nat]
          by_cases hm : (netOf p ts g).lab k i = max ((netOf p ts g).lab k A0) ((netOf p ts g).lab k B0)
          · rw [decide_eq_true hm]
            refine iteT (exq rfl (exq rfl (ijq (pd.next hD (Same.new hT) ?_))))
            show V.int (Builtin.bitXor _ (Builtin.bitXor (Builtin.bitXor _ _) _)) = _
            rw [hbr, xor_int, htr]
            show _ = V.int (((if _ then _ else _ : Nat)) : Int)
            rw [if_pos hm]
          · rw [decide_eq_false hm]
            refine iteF (exq rfl (pd.next hD (Same.new hT) ?_))
            rw [htr]
            show _ = V.int (((if _ then _ else _ : Nat)) : Int)
            rw [if_neg hm]
        · intro acc H4 pd
          rw [mapV_len] at pd
          have hD4 : H4 D = some (.lst (mapV ((netOf p ts g).trail (k + 1)) p)) := by rw [pd.2.1, pd.2.2]
          refine (exq rfl (exq rfl (exq rfl ⟨la, (netOf p ts g).lab k, p, A0, B0, rfl, pd.1 _ _ hla, wp, hA, hB, fun D2 H5 hn5 s5 hD2 => ?_⟩)))
          exact ⟨D2, D, _, _, _, _, _, rfl, (s3.trans pd.1).trans s5, by rw [hls]; exact hD2, s5 _ _ hD4, s3.free hD⟩
    · rintro σ H3 ⟨la, ta, v3, v4, v5, v6, v7, rfl, s3, hla, hta, htn⟩
      rw [Int.toNat_natCast, hxl] at hta
      exact (exq rfl (q ta H3 htn s3 hta))
theorem G_forest (T : Txt K mg a) : FnOk P w K mg base CX0 3 a.f_forest a.d_forest ["web"] sp_forest := by
  have G_forest_trails : FnOk P w K mg base CX0 2 a.f_forest_trails a.d_forest_trails ["web"] sp_trails := G_forest_trails T
  refine T.F_forest.ok sc_forest (fun vs H Q E h => ?_) (fun cdv A outer s H vs Q E hr h => ?_)
  · obtain ⟨w, p, ts, g, rfl, _⟩ := h
    rfl
  · obtain ⟨wb, p, ts, g, rfl, hw, q⟩ := h
    refine ⟨_, (@pss_cons _ _ _ _ _ (@ps_set _ _ 1 _ _ _ _ sc_forest.nd rfl (Or.inl rfl) pe_int (by rfl) (by first | exact .inl rfl | exact .inr rfl | assumption)) (@pss_cons _ _ _ _ _ (@ps_for _ _ _ _ _ _ _ _ PassesOwn.never rfl (@piL _ _ _ _ K (@pe_call _ _ _ _ _ _ _ _ _ _ _ _ _ _ _ _ G_forest_trails (hr.mono (by decide)) (by rfl) T.m_forest_trails T.k_forest_trails T.b_forest_trails .nil pass0 (@pa_cons _ _ _ _ _ (pv 0) pa_nil (by rfl)) (by decide) (by rfl) (by rfl)) (by rfl)) (pg_name (i := 2) sc_forest.nd rfl (Or.inl rfl)) (@pss_one _ _ _ (@ps_aug _ _ 1 _ _ _ _ _ _ sc_forest.nd rfl (Or.inl rfl) (pv 2) iop_or (by first | exact .inl rfl | exact .inr rfl | assumption))) (by intro _; rfl)) (@pss_one _ _ _ (@ps_ret _ _ _ _ (pv 1))))), ?_⟩
    refine hd_forest ?_
    intro zz0 zz1 zz2
    refine (exq rfl ⟨wb, p, ts, g, rfl, hw, fun D H1 hDn s1 hD => ⟨D, rfl, ⟨_, SqL.of hD⟩, ?_⟩⟩)
    refine for_list' (K := K) (a := D) (xs := mapV ((netOf p ts g).trail ts.length) p) (fun i σ H2 => ∃ v2, σ = [some (.ref wb), some (.int ((orT ((netOf p ts g).trail ts.length) i : Nat) : Int)), v2] ∧ H2 = H1) ⟨none, rfl, rfl⟩ (fun i σ H2 _ ⟨_, _, z⟩ => by rw [z]; exact SqL.of hD) ?_ ?_
    · rintro i x D' σ H2 hx ⟨v2, rfl, rfl⟩
      obtain ⟨hi, rfl⟩ := mapV_of hx
      refine (exq rfl (exq rfl (ijq ⟨some (.int (((netOf p ts g).trail ts.length i : Nat) : Int)), ?_, rfl⟩)))
      show [_, some (V.int (Builtin.bitOr _ _)), _] = _
      rw [or_int]
      rfl
    · rintro σ H2 ⟨v2, rfl, rfl⟩
      rw [mapV_len, orT_forest]
      exact (exq rfl (q _ s1))
theorem G_chords (T : Txt K mg a) : FnOk P w K mg base CX0 4 a.f_chords a.d_chords ["web"] sp_chords := by
  have G_forest : FnOk P w K mg base CX0 3 a.f_forest a.d_forest ["web"] sp_forest := G_forest T
  have G_all_ties : FnOk P w K mg base CX0 1 a.f_all_ties a.d_all_ties ["web"] sp_all_ties := G_all_ties T
  have G_ties_in : FnOk P w K mg base CX0 2 a.f_ties_in a.d_ties_in ["tie_set"] sp_ties_in := G_ties_in T
  refine T.F_chords.ok sc_chords (fun vs H Q E h => ?_) (fun cdv A outer s H vs Q E hr h => ?_)
  · obtain ⟨w, p, ts, g, rfl, _⟩ := h
    rfl
  · obtain ⟨wb, p, ts, g, rfl, hw, q⟩ := h
    refine ⟨_, (@pss_one _ _ _ (@ps_ret _ _ _ _ (@pe_call _ _ _ _ _ _ _ _ _ _ _ _ _ _ _ _ G_ties_in (hr.mono (by decide)) (by rfl) T.m_ties_in T.k_ties_in T.b_ties_in .nil pass0 (@pa_cons _ _ _ _ _ (@pe_op _ _ _ _ _ _ _ _ op_xor (@pe_call _ _ _ _ _ _ _ _ _ _ _ _ _ _ _ _ G_all_ties (hr.mono (by decide)) (by rfl) T.m_all_ties T.k_all_ties T.b_all_ties .nil pass0 (@pa_cons _ _ _ _ _ (pv 0) pa_nil (by rfl)) (by decide) (by rfl) (by rfl)) (@pe_call _ _ _ _ _ _ _ _ _ _ _ _ _ _ _ _ G_forest (hr.mono (by decide)) (by rfl) T.m_forest T.k_forest T.b_forest .nil pass0 (@pa_cons _ _ _ _ _ (pv 0) pa_nil (by rfl)) (by decide) (by rfl) (by rfl))) pa_nil (by rfl)) (by decide) (by rfl) (by rfl)))), ?_⟩
    have wl := g.len
    refine (exq rfl ⟨wb, p, ts, rfl, hw, g.web, _, rfl, wb, p, ts, g, rfl, hw, fun H1 s1 => (ijq ⟨(2 ^ ts.length - 1) ^^^ forestN p ts g, ?_, ?_, fun D H2 hDn s2 hD => ?_⟩)⟩)
    · show [V.int (Builtin.bitXor _ _)] = _
      rw [pow_sub, xor_int]
    · exact Nat.le_trans (bits_le chordM_lt) (by (first | lia | omega))
    · rw [chordM_ties] at hD
      exact q D H2 (s1.free hDn) (s1.trans s2) hD
end
theorem iteNd {x y : V} {A B : Prop} (h : x ≠ y) (ha : A) : if (!decide (x = y)) = true then A else B := by
  rw [decide_eq_false h]
  exact iteT ha
def sp_lead : Sp := fun vs H Q _ => ∃ (t : Addr) (rs : List (List Int)) (n k : Nat), vs = [.ref t, .int (k : Int)] ∧ TabAt H t rs ∧ Tab n rs ∧ n ≤ 12 ∧ k < n ∧
  (∀ i : Nat, k ≤ i → i < n → ent rs i k ≠ 0 → Q (.int (i : Int)) H) ∧ ((∀ i : Nat, k ≤ i → i < n → ent rs i k = 0) → Q .non H)
def sp_cleared : Sp := fun vs H Q _ => ∃ (b1 b2 : Addr) (r l : List Int) (n k : Nat) (d : Int) (f : Nat → Int), vs = [.ref b1, .ref b2, .int (k : Int), .int d] ∧ H b1 = some (.lst (intsV r)) ∧ H b2 = some (.lst (intsV l)) ∧ r.length = n ∧ l.length = n ∧ n ≤ 12 ∧ k < n ∧
  d ≠ 0 ∧ d.natAbs < 2 ^ 1000 ∧ (∀ j, j < n → (r.getD j 0).natAbs < 2 ^ 1000 ∧ (l.getD j 0).natAbs < 2 ^ 1000) ∧ (∀ j, j < n → l.getD k 0 * r.getD j 0 - r.getD k 0 * l.getD j 0 = d * f j) ∧
  ∀ D H', H D = none → Same H H' → H' D = some (.lst (intsV (fInts n f))) → Q (.ref D) H'
def sp_det : Sp := fun vs H Q _ => ∃ (t : Addr) (rs : List (List Int)) (n E : Nat), vs = [.ref t] ∧ TabAt H t rs ∧ Tab n rs ∧ n ≤ 12 ∧ 1 ≤ E ∧ Dt.fc E n < 2 ^ 1000 ∧ (∀ r c, (ent rs r c).natAbs ≤ E) ∧ ∀ H', Same H H' → Q (.int (Dt.det n (ent rs))) H'
theorem ent_out {n : Nat} {rs : List (List Int)} (Tb : Tab n rs) {r j : Nat} (hj : n ≤ j) : ent rs r j = 0 := by
  show (rs.getD r []).getD j 0 = 0
  by_cases h : r < n
  · rw [List.getD_eq_getElem?_getD, List.getElem?_eq_none (by rw [Tb.rlen h]; exact hj)]
    rfl
  · rw [List.getD_eq_getElem?_getD (l := rs), List.getElem?_eq_none (by rw [Tb.len]; (first | lia | omega))]
    rfl
section
variable {P : Program} {w : World} {K : PySem.W.Frag} {mg : Str → Option Value} {base : Heap} {a : Adr}
theorem G_row_to_lead (T : Txt K mg a) : FnOk P w K mg base CX0 1 a.f_row_to_lead a.d_row_to_lead ["rows", "step"] sp_lead := by
  refine T.F_row_to_lead.ok sc_row_to_lead (fun vs H Q E h => ?_) (fun cdv A outer s H vs Q E hr h => ?_)
  · obtain ⟨t, rs, n, k, rfl, _⟩ := h
    rfl
  · obtain ⟨t, rs, n, k, rfl, ⟨ys, ht, pr⟩, Tb, hn, hk, qy, qn⟩ := h
    refine ⟨_, (@pss_cons _ _ _ _ _ (@ps_for _ _ _ _ _ _ _ _ PassesOwn.never rfl (@pi_range2 _ _ _ _ _ _ _ (by rfl) T.n_range (@pa_cons _ _ _ _ _ (pv 1) (@pa_cons _ _ _ _ _ (@pe_callB _ _ _ _ _ _ _ _ _ (lenK K) (by rfl) T.n_len PySem.boot_len (@pa_cons _ _ _ _ _ (pv 0) pa_nil (by rfl)) (by decide) (by decide) (by rfl) (by rfl)) pa_nil (by rfl)) (by rfl)) (by rfl) (by rfl)) (pg_name (i := 2) sc_row_to_lead.nd rfl (Or.inl rfl)) (@pss_one _ _ _ (@ps_if _ _ _ _ _ _ _ _ (@pt_cmpR _ _ _ _ _ _ _ _ op_ne (@pe_ix _ _ _ _ _ _ _ (ixL K) (@pe_ix _ _ _ _ _ _ _ (ixL K) (pv 0) (pv 2) (fun _ _ => rfl)) (pv 1) (fun _ _ => rfl)) pe_int (nomark _)) (@pss_one _ _ _ (@ps_ret _ _ _ _ (pv 2))) pss_nil)) (by intro _; rfl)) (@pss_one _ _ _ (@ps_ret _ _ _ _ pe_non))), ?_⟩
    refine hd_row_to_lead ?_
    intro zz0 zz1 zz2
    have hyl : ys.length = n := by rw [pr.length, Tb.len]
    refine (exq rfl (exq rfl (lnq rfl (.inl (SqL.of ht)) ⟨_, _, rfl, ⟨by (first | lia | omega), by (first | lia | omega), by (first | lia | omega), by (first | lia | omega)⟩, ?_⟩)))
    refine for_range (lo := (k : Int)) (n := _) (fun i σ H2 => ∃ v2, σ = [some (.ref t), some (.int (k : Int)), v2] ∧ H2 = H ∧ ∀ j : Nat, k ≤ j → j < k + i → ent rs j k = 0) ⟨none, rfl, rfl, fun j h1 h2 => by (first | lia | omega)⟩ ?_ ?_
    · rintro i σ H2 hi ⟨v2, rfl, rfl, hz⟩
      have ek : (k : Int) + (i : Int) = ((k + i : Nat) : Int) := by (first | lia | omega)
      rw [ek]
      have hki : k + i < n := by (first | lia | omega)
      obtain ⟨b, hb, hbH⟩ := TabAt.get pr Tb hki
      refine (exq rfl (exq rfl (ixl (SqL.of ht) (atI_nat (j := k + i) hb) (exq rfl (ixl (SqL.of hbH) (atI_nat (j := k) (intsV_get (by rw [Tb.rlen hki]; exact hk))) ⟨rfl, exq rfl (?_)⟩)))))
      by_cases h0 : ent rs (k + i) k = 0
      · refine iteNS (congrArg V.int h0) (exq rfl ⟨rfl, fun j h1 h2 => ?_⟩)
        by_cases hj : j = k + i
        · rw [hj]
          exact h0
        · exact hz j h1 (by (first | lia | omega))
      · exact iteNd (fun z => h0 (V.int.inj z)) (exq rfl (qy (k + i) (by (first | lia | omega)) hki h0))
    · rintro σ H2 ⟨v2, rfl, rfl, hz⟩
      exact qn fun i h1 h2 => hz i h1 (by (first | lia | omega))
theorem G_row_cleared (T : Txt K mg a) : FnOk P w K mg base CX0 1 a.f_row_cleared a.d_row_cleared ["row", "lead_row", "step", "divisor"] sp_cleared := by
  refine T.F_row_cleared.ok sc_row_cleared (fun vs H Q E h => ?_) (fun cdv A outer s H vs Q E hr h => ?_)
  · obtain ⟨b1, b2, r, l, n, k, d, f, rfl, _⟩ := h
    rfl
  · obtain ⟨b1, b2, r, l, n, k, d, f, rfl, h1, h2, hr1, hl1, hn, hk, hd, hdb, bn, ex, q⟩ := h
    refine ⟨_, (@pss_one _ _ _ (@ps_ret _ _ _ _ (@pe_comp _ _ _ _ _ _ _ ["number", "lead"] ["row", "lead_row", "step", "divisor"] [0, 1, 2, 3] _ _ _ _ (compText_of (defScope s_row_cleared) ["row", "lead_row", "step", "divisor"]) rfl (@pi_zip _ _ _ _ K _ _ _ _ _ (by rfl) T.n_zip (@pa_cons _ _ _ _ _ (pv 0) (@pa_cons _ _ _ _ _ (pv 1) pa_nil (by rfl)) (by rfl)) (by rfl) (by rfl) (by rfl)) (fun _ _ _ _ => (pgT K (n := 2) rfl (pgs_cons (pg_name (i := 0) (show (["number", "lead", "row", "lead_row", "step", "divisor"] : List Str).Nodup by decide +kernel) rfl (Or.inl rfl)) (pgs_cons (pg_name (i := 1) (show (["number", "lead", "row", "lead_row", "step", "divisor"] : List Str).Nodup by decide +kernel) rfl (Or.inl rfl)) pgs_nil)))) (fun _ _ _ _ => pts_nil) (fun _ _ _ _ => (pe_op op_fdivB (pe_op op_sub (pe_op op_mulB (pe_ix (ixL K) (pv 3) (pv 4) (fun _ _ => rfl)) (pv 0)) (pe_op op_mulB (pe_ix (ixL K) (pv 2) (pv 4) (fun _ _ => rfl)) (pv 1))) (pv 5))) (by intro _; rfl)))), ?_⟩
    refine (exq rfl (exq rfl ⟨b1, b2, rfl, ⟨_, SqL.of h1⟩, ⟨_, SqL.of h2⟩, fun D hD => comp_zip (xs := intsV r) (ys := intsV l) (by rw [intsV_len, intsV_len, hr1, hl1]) (FMap f H D) (.start hD) (fun i acc H4 _ pd => ⟨SqL.of (pd.1 _ _ h1), SqL.of (pd.1 _ _ h2), pd.len⟩) (by rw [intsV_len, hr1]; exact dl (Nat.ble_eq.mpr (by (first | lia | omega)))) ?_ ?_⟩))
    · intro i x y T0 acc H2 hx hy pd hT
      obtain ⟨hi, rfl⟩ := intsV_get' hx
      obtain ⟨_, rfl⟩ := intsV_get' hy
      rw [hr1] at hi
      have s2 : Same H2 (upd H2 T0 (.tup [.int (r.getD i 0), .int (l.getD i 0)])) := Same.new hT
      have hT2 : upd H2 T0 (.tup [.int (r.getD i 0), .int (l.getD i 0)]) T0 = some (.tup [.int (r.getD i 0), .int (l.getD i 0)]) := upd_same
      generalize upd H2 T0 (.tup [.int (r.getD i 0), .int (l.getD i 0)]) = H3 at s2 hT2
      have h13 := s2 _ _ (pd.1 _ _ h1)
      have h23 := s2 _ _ (pd.1 _ _ h2)
      refine ⟨T0, _, rfl, SqT.of hT2, rfl, _, _, rfl, _, _, rfl, rfl, rfl, ?_⟩
      refine (exq rfl (exq rfl (ixl (SqL.of h23) (atI_nat (j := k) (intsV_get (by rw [hl1]; exact hk))) (exq rfl (ijq ⟨mulOk_of (bn k hk).2 (bn i hi).1, ?_⟩)))))
      refine (exq rfl (exq rfl (ixl (SqL.of h13) (atI_nat (j := k) (intsV_get (by rw [hr1]; exact hk))) (exq rfl (ijq ⟨mulOk_of (bn k hk).1 (bn i hi).2, _, _, rfl, rfl, exq rfl (ijq ⟨⟨hd, hdb⟩, ?_⟩)⟩)))))
      exact pd.next hD s2 (congrArg V.int (fdiv_exact hd (ex i hi)))
    · intro acc H2 pd
      rw [intsV_len, hr1] at pd
      exact q D H2 hD pd.1 (by rw [pd.2.1, pd.2.2])
theorem G_determinant (T : Txt K mg a) : FnOk P w K mg base CX0 2 a.f_determinant a.d_determinant ["table"] sp_det := by
  have G_row_to_lead : FnOk P w K mg base CX0 1 a.f_row_to_lead a.d_row_to_lead ["rows", "step"] sp_lead := G_row_to_lead T
  have G_row_cleared : FnOk P w K mg base CX0 1 a.f_row_cleared a.d_row_cleared ["row", "lead_row", "step", "divisor"] sp_cleared := G_row_cleared T
  refine T.F_determinant.ok sc_determinant (fun vs H Q E h => ?_) (fun cdv A outer s H vs Q E hr h => ?_)
  · obtain ⟨t, rs, n, E, rfl, _⟩ := h
    rfl
  · obtain ⟨t, rs0, n, E, rfl, ⟨ys0, ht, pr0⟩, Tb0, hn, hE, hfc, bnE, q⟩ := h
    refine ⟨_, (@pss_cons _ _ _ _ _ (@ps_set _ _ 1 _ _ _ _ sc_determinant.nd rfl (Or.inl rfl) (@pe_callTy _ _ _ _ _ _ _ _ _ (listK K) (by rfl) T.n_list PyProof.Rows.boot_list (@pa_cons _ _ _ _ _ (pv 0) pa_nil (by rfl)) (by decide) (by decide) (by rfl) (by rfl)) (by rfl) (by first | exact .inl rfl | exact .inr rfl | assumption)) (@pss_cons _ _ _ _ _ (@ps_set _ _ 2 _ _ _ _ sc_determinant.nd rfl (Or.inl rfl) pe_int (by rfl) (by first | exact .inl rfl | exact .inr rfl | assumption)) (@pss_cons _ _ _ _ _ (@ps_set _ _ 3 _ _ _ _ sc_determinant.nd rfl (Or.inl rfl) pe_int (by rfl) (by first | exact .inl rfl | exact .inr rfl | assumption)) (@pss_cons _ _ _ _ _ (@ps_for _ _ _ _ _ _ _ _ PassesOwn.never rfl (@pi_range1 _ _ _ _ _ _ (by rfl) T.n_range (@pa_cons _ _ _ _ _ (@pe_callB _ _ _ _ _ _ _ _ _ (lenK K) (by rfl) T.n_len PySem.boot_len (@pa_cons _ _ _ _ _ (pv 1) pa_nil (by rfl)) (by decide) (by decide) (by rfl) (by rfl)) pa_nil (by rfl)) (by rfl)) (pg_name (i := 4) sc_determinant.nd rfl (Or.inl rfl)) (@pss_cons _ _ _ _ _ (@ps_set _ _ 5 _ _ _ _ sc_determinant.nd rfl (Or.inl rfl) (@pe_call _ _ _ _ _ _ _ _ _ _ _ _ _ _ _ _ G_row_to_lead (hr.mono (by decide)) (by rfl) T.m_row_to_lead T.k_row_to_lead T.b_row_to_lead .nil pass0 (@pa_cons _ _ _ _ _ (pv 1) (@pa_cons _ _ _ _ _ (pv 4) pa_nil (by rfl)) (by rfl)) (by decide) (by rfl) (by rfl)) (by rfl) (by first | exact .inl rfl | exact .inr rfl | assumption)) (@pss_cons _ _ _ _ _ (@ps_if _ _ _ _ _ _ _ _ (@pt_cmpR _ _ _ _ _ _ _ _ op_isN (pv 5) pe_non (nomark _)) (@pss_one _ _ _ (@ps_ret _ _ _ _ pe_int)) pss_nil) (@pss_cons _ _ _ _ _ (@ps_if _ _ _ _ _ _ _ _ (@pt_cmpR _ _ _ _ _ _ _ _ op_ne (pv 5) (pv 4) (nomark _)) (@pss_cons _ _ _ _ _ (@ps_set _ _ 6 _ _ _ _ sc_determinant.nd rfl (Or.inl rfl) (@pe_ix _ _ _ _ _ _ _ (ixL K) (pv 1) (pv 5) (fun _ _ => rfl)) (by rfl) (by first | exact .inl rfl | exact .inr rfl | assumption)) (@pss_cons _ _ _ _ _ (@ps_asg _ _ _ _ _ _ (@pe_ix _ _ _ _ _ _ _ (ixL K) (pv 1) (pv 4) (fun _ _ => rfl)) (@pg_sub _ _ _ _ _ _ _ (pv 1) (pv 5) set_list (by intro _; rfl)) (by rfl) (by rfl) (by rfl)) (@pss_cons _ _ _ _ _ (@ps_asg _ _ _ _ _ _ (pv 6) (@pg_sub _ _ _ _ _ _ _ (pv 1) (pv 4) set_list (by intro _; rfl)) (by rfl) (by rfl) (by rfl)) (@pss_one _ _ _ (@ps_set _ _ 2 _ _ _ _ sc_determinant.nd rfl (Or.inl rfl) (@pe_un _ _ _ _ _ _ un_neg (pv 2)) (by rfl) (by first | exact .inl rfl | exact .inr rfl | assumption)))))) pss_nil) (@pss_cons _ _ _ _ _ (@ps_for _ _ _ _ _ _ _ _ PassesOwn.never rfl (@pi_range2 _ _ _ _ _ _ _ (by rfl) T.n_range (@pa_cons _ _ _ _ _ (@pe_op _ _ _ _ _ _ _ _ op_add (pv 4) pe_int) (@pa_cons _ _ _ _ _ (@pe_callB _ _ _ _ _ _ _ _ _ (lenK K) (by rfl) T.n_len PySem.boot_len (@pa_cons _ _ _ _ _ (pv 1) pa_nil (by rfl)) (by decide) (by decide) (by rfl) (by rfl)) pa_nil (by rfl)) (by rfl)) (by rfl) (by rfl)) (pg_name (i := 7) sc_determinant.nd rfl (Or.inl rfl)) (@pss_one _ _ _ (@ps_asg _ _ _ _ _ _ (@pe_call _ _ _ _ _ _ _ _ _ _ _ _ _ _ _ _ G_row_cleared (hr.mono (by decide)) (by rfl) T.m_row_cleared T.k_row_cleared T.b_row_cleared .nil pass0 (@pa_cons _ _ _ _ _ (@pe_ix _ _ _ _ _ _ _ (ixL K) (pv 1) (pv 7) (fun _ _ => rfl)) (@pa_cons _ _ _ _ _ (@pe_ix _ _ _ _ _ _ _ (ixL K) (pv 1) (pv 4) (fun _ _ => rfl)) (@pa_cons _ _ _ _ _ (pv 4) (@pa_cons _ _ _ _ _ (pv 3) pa_nil (by rfl)) (by rfl)) (by rfl)) (by rfl)) (by decide) (by rfl) (by rfl)) (@pg_sub _ _ _ _ _ _ _ (pv 1) (pv 7) set_list (by intro _; rfl)) (by rfl) (by rfl) (by rfl))) (by intro _; rfl)) (@pss_one _ _ _ (@ps_set _ _ 3 _ _ _ _ sc_determinant.nd rfl (Or.inl rfl) (@pe_ix _ _ _ _ _ _ _ (ixL K) (@pe_ix _ _ _ _ _ _ _ (ixL K) (pv 1) (pv 4) (fun _ _ => rfl)) (pv 4) (fun _ _ => rfl)) (by rfl) (by first | exact .inl rfl | exact .inr rfl | assumption))))))) (by intro _; rfl)) (@pss_one _ _ _ (@ps_ret _ _ _ _ (@pe_op _ _ _ _ _ _ _ _ op_mul (pv 2) (pv 3)))))))), ?_⟩
    refine hd_determinant ?_
    intro zz0 zz1 zz2 zz3 zz4 zz5 zz6 zz7 zz8 zz9 zz10 zz11 zz12 zz13 zz14
    refine (exq rfl (lnq rfl (.inl (SqL.of ht)) (fun R hR => ?_)))
    have s0 : Same H (upd H R (.lst ys0)) := Same.new hR
    have hR0 : upd H R (.lst ys0) R = some (.lst ys0) := upd_same
    have pr0 : Paired (RowN R (upd H R (.lst ys0))) ys0 rs0 := Paired.imp' (fun _ _ ⟨b, e, z⟩ => ⟨b, e, ne_of_none z hR, s0 _ _ z⟩) pr0
    generalize upd H R (.lst ys0) = H0 at s0 hR0 pr0
    have hyl : ys0.length = n := by rw [pr0.length, Tb0.len]
    refine (exq rfl (lnq rfl (.inl (SqL.of hR0)) (exq rfl ⟨(by (first | lia | omega)), (by (first | lia | omega)), ?_⟩)))
    refine for_range (lo := 0) (n := _) (fun i σ H2 => ∃ ys rs sg d v4 v5 v6 v7, σ = [some (.ref t), some (.ref R), some (.int sg), some (.int d), v4, v5, v6, v7] ∧ Same H H2 ∧ H2 R = some (.lst ys) ∧ Paired (RowN R H2) ys rs ∧ Tab n rs ∧ Dt.Bs n (ent rs0) i sg d (ent rs))
      ⟨ys0, rs0, 1, 1, none, none, none, none, rfl, s0, hR0, pr0, Tb0, Dt.Bs.zero _ _⟩ ?_ ?_
    · rintro i σ H2 hi ⟨ys, rs, sg, d, v4, v5, v6, v7, rfl, s2, hR2, pr, Tb, bs⟩
      have hin : i < n := by (first | lia | omega)
      rw [Int.zero_add]
      refine (exq rfl (exq rfl ⟨R, rs, n, i, rfl, ⟨ys, hR2, Paired.imp' (fun _ _ z => z.is) pr⟩, Tb, hn, hin, fun r0 hr0 hr1 hnz => ?_, fun hz => ?_⟩))
      case refine_2 =>
        have h0 : Dt.det n (ent rs0) = 0 := bs.none hin hz
        refine (exq rfl ⟨rfl, exq rfl (iteP rfl ?_)⟩)
        show Q (V.int 0) _
        rw [← h0]
        exact q _ s2
      refine (exq rfl ⟨rfl, exq rfl (iteD (fun z => nomatch z) (exq rfl (exq rfl ⟨rfl, exq rfl (?_)⟩)))⟩)
      by_cases hpi : r0 = i
      case' pos =>
        refine iteNS (by rw [hpi]) ?_
        rw [hpi] at hnz
        generalize H2 = H2x at s2 hR2 pr
        generalize ys = ysx at hR2 pr
        generalize rs = rsx at pr Tb bs hnz
        generalize sg = sgx at bs
        have s3 := s2
        have hR3 := hR2
        have pr3 := pr
        have Tb3 := Tb
        have bs3 := bs
        have hnz3 := hnz
      case' neg =>
        refine iteNd (fun z => hpi (by have := V.int.inj z; (first | lia | omega))) ?_
        obtain ⟨b1, e1, nb1, hb1⟩ := RowN.get pr Tb hr1
        obtain ⟨b2, e2, nb2, hb2⟩ := RowN.get pr Tb hin
        have hyl2 : ys.length = n := by rw [pr.length, Tb.len]
        refine (exq rfl (exq rfl (ixl (SqL.of hR2) (atI_nat (j := r0) e1) (?_))))
        refine (exq rfl (exq rfl (ixl (SqL.of hR2) (atI_nat (j := i) e2) (exq rfl (exq rfl ⟨R, ys, _, r0, rfl, rfl, hR2, ixN_nat (by (first | lia | omega)), ?_⟩)))))
        refine (exq rfl (exq rfl (exq rfl ⟨R, _, _, i, rfl, rfl, upd_same, ixN_nat (by rw [List.length_set]; (first | lia | omega)), exq rfl (exq rfl (?_))⟩)))
        have s3 : Same H (upd (upd H2 R (.lst (ys.set r0 (.ref b2)))) R (.lst ((ys.set r0 (.ref b2)).set i (.ref b1)))) := (s2.put hR).put hR
        have hR3 : upd (upd H2 R (.lst (ys.set r0 (.ref b2)))) R (.lst ((ys.set r0 (.ref b2)).set i (.ref b1))) R = some (.lst ((ys.set r0 (.ref b2)).set i (.ref b1))) := upd_same
        have pr3 : Paired (RowN R (upd (upd H2 R (.lst (ys.set r0 (.ref b2)))) R (.lst ((ys.set r0 (.ref b2)).set i (.ref b1))))) ((ys.set r0 (.ref b2)).set i (.ref b1)) ((rs.set r0 (rs.getD i [])).set i (rs.getD r0 [])) :=
          Paired.imp' (fun _ _ z => z.put.put) (paired_set ⟨b1, rfl, nb1, hb1⟩ i (paired_set ⟨b2, rfl, nb2, hb2⟩ r0 pr))
        have Tb3 : Tab n ((rs.set r0 (rs.getD i [])).set i (rs.getD r0 [])) := (Tb.set r0 (Tb.rlen hin)).set i (Tb.rlen hr1)
        have esw : ent ((rs.set r0 (rs.getD i [])).set i (rs.getD r0 [])) = Dt.sw (ent rs) i r0 := by
          funext r j
          rw [ent_set (by rw [List.length_set, Tb.len]; exact hin), ent_set (by rw [Tb.len]; exact hr1)]
          unfold Dt.sw Dt.put
          by_cases c1 : r = i
          · rw [if_pos c1, if_neg (by (first | lia | omega)), if_pos c1]
            rfl
          · rw [if_neg c1, if_neg c1]
            by_cases c2 : r = r0
            · rw [if_pos c2, if_pos c2]
              rfl
            · rw [if_neg c2, if_neg c2]
        have bs3 : Dt.Bs n (ent rs0) i (-sg) d (ent ((rs.set r0 (rs.getD i [])).set i (rs.getD r0 []))) := by
          rw [esw]
          exact bs.sw (by (first | lia | omega)) hr1
        have hnz3 : ent ((rs.set r0 (rs.getD i [])).set i (rs.getD r0 [])) i i ≠ 0 := by
          rw [ent_set (by rw [List.length_set, Tb.len]; exact hin), if_pos rfl]
          exact hnz
        dsimp only [List.set]
        generalize upd (upd H2 R (.lst (ys.set r0 (.ref b2)))) R (.lst ((ys.set r0 (.ref b2)).set i (.ref b1))) = H2x at s3 hR3 pr3
        generalize (rs.set r0 (rs.getD i [])).set i (rs.getD r0 []) = rsx at pr3 Tb3 bs3 hnz3
        generalize (ys.set r0 (.ref b2)).set i (.ref b1) = ysx at hR3 pr3
        generalize -sg = sgx at bs3
      all_goals (
        have hylx : ysx.length = n := by rw [pr3.length, Tb3.len]
        have bd := bs3.bnd hE bnE
        have d0 : d ≠ 0 := bs3.2.2.1
        refine (exq rfl (ijq (exq rfl (lnq rfl (.inl (SqL.of hR3)) ⟨_, _, rfl, ⟨by (first | lia | omega), by (first | lia | omega), by (first | lia | omega), by (first | lia | omega)⟩, ?_⟩))))
        refine for_range (lo := (i : Int) + 1) (n := _) (fun m σ H5 => ∃ ys rs v6 v7, σ = [some (.ref t), some (.ref R), some (.int sgx), some (.int d), some (.int (i : Int)), some (.int (r0 : Int)), v6, v7] ∧ Same H H5 ∧ H5 R = some (.lst ys) ∧ Paired (RowN R H5) ys rs ∧ Tab n rs ∧ (∀ j, ent rs i j = ent rsx i j) ∧
            ∀ r, i < r → r < n → ∀ j, if r < i + 1 + m then d * ent rs r j = ent rsx i i * ent rsx r j - ent rsx r i * ent rsx i j else ent rs r j = ent rsx r j)
          ⟨ysx, rsx, _, _, rfl, s3, hR3, pr3, Tb3, fun j => rfl, fun r h1 h2 j => by rw [if_neg (by (first | lia | omega))]⟩ ?_ ?_
        · rintro m σ H5 hm ⟨ys5, rs5, v6, v7, rfl, s5, hR5, pr5, Tb5, hi5, hr5⟩
          have ek : (i : Int) + 1 + (m : Int) = ((i + 1 + m : Nat) : Int) := by (first | lia | omega)
          rw [ek]
          have hb : i + 1 + m < n := by (first | lia | omega)
          obtain ⟨c1, e1, n1, h1⟩ := RowN.get pr5 Tb5 hb
          obtain ⟨c2, e2, n2, h2⟩ := RowN.get pr5 Tb5 hin
          have er : ∀ j, (rs5.getD (i + 1 + m) []).getD j 0 = ent rsx (i + 1 + m) j := fun j => by
            have := hr5 _ (by (first | lia | omega)) hb j
            rw [if_neg (by (first | lia | omega))] at this
            exact this
          have el : ∀ j, (rs5.getD i []).getD j 0 = ent rsx i j := hi5
          obtain ⟨f, hf⟩ := Classical.axiomOfChoice (fun j => bs3.out hnz3 (i := i + 1 + m) (by (first | lia | omega)) hb j)
          refine (exq rfl (exq rfl (ixl (SqL.of hR5) (atI_nat (j := i + 1 + m) e1) (exq rfl (exq rfl (ixl (SqL.of hR5) (atI_nat (j := i) e2) (exq rfl (exq rfl ⟨c1, c2, _, _, n, i, d, f, rfl, h1, h2, Tb5.rlen hb, Tb5.rlen hin, hn, hin, d0, Nat.lt_of_le_of_lt bd.1 hfc, fun j hj => ⟨by rw [er j]; exact Nat.lt_of_le_of_lt (bd.2 _ _ (by (first | lia | omega)) hb) hfc, by rw [el j]; exact Nat.lt_of_le_of_lt (bd.2 _ _ (Nat.le_refl _) hin) hfc⟩, fun j hj => ?_, fun D H6 hD s6 hD6 => ?_⟩))))))))
          · rw [er j, el j, er i, el i]
            exact hf j
          · have nD : D ≠ R := fun e => by rw [e, hR5] at hD; cases hD
            have hl5 : ys5.length = n := by rw [pr5.length, Tb5.len]
            refine (exq rfl (exq rfl ⟨R, ys5, _, i + 1 + m, rfl, rfl, s6 _ _ hR5, ixN_nat (by (first | lia | omega)), ?_⟩))
            refine ⟨_, rs5.set (i + 1 + m) (fInts n f), _, _, rfl, (s5.trans s6).put hR, upd_same, Paired.imp' (fun _ _ z => z.put) (paired_set ⟨D, rfl, nD, hD6⟩ _ (Paired.imp' (fun _ _ z => z.same s6) pr5)), Tb5.set _ (fInts_len _ _), fun j => ?_, fun r h1 h2 j => ?_⟩
            · rw [ent_set (by rw [Tb5.len]; exact hb), if_neg (by (first | lia | omega))]
              exact hi5 j
            · by_cases hj : j < n
              · rw [ent_set (by rw [Tb5.len]; exact hb)]
                by_cases c : r = i + 1 + m
                · rw [if_pos c, if_pos (by (first | lia | omega)), fInts_get _ hj, c]
                  exact (hf j).symm
                · rw [if_neg c]
                  have := hr5 r h1 h2 j
                  by_cases c2 : r < i + 1 + m
                  · rw [if_pos c2] at this
                    rw [if_pos (by (first | lia | omega))]
                    exact this
                  · rw [if_neg c2] at this
                    rw [if_neg (by (first | lia | omega))]
                    exact this
              · have z1 := ent_out (r := r) (j := j) Tb3 (by (first | lia | omega))
                have z2 := ent_out (r := i) (j := j) Tb3 (by (first | lia | omega))
                have z3 := ent_out (r := r) (j := j) (Tb5.set (i + 1 + m) (fInts_len n f)) (by (first | lia | omega))
                rw [z3, z1, z2]
                split <;> simp
        · rintro σ H5 ⟨ys5, rs5, v6, v7, rfl, s5, hR5, pr5, Tb5, hi5, hr5⟩
          obtain ⟨c2, e2, n2, h2⟩ := RowN.get pr5 Tb5 hin
          have ed : (rs5.getD i []).getD i 0 = ent rsx i i := hi5 i
          refine (exq rfl (exq rfl (ixl (SqL.of hR5) (atI_nat (j := i) e2) (exq rfl (ixl (SqL.of h2) (atI_nat (j := i) (intsV_get (by rw [Tb5.rlen hin]; exact hin))) (?_))))))
          refine ⟨ys5, rs5, sgx, ent rsx i i, _, _, _, _, by rw [← ed]; rfl, s5, hR5, pr5, Tb5, bs3.step hin hnz3 fun r j h1 h2 => ?_⟩
          have := hr5 r h1 h2 j
          rw [if_pos (by (first | lia | omega))] at this
          exact this)
    · rintro σ H2 ⟨ys, rs, sg, d, v4, v5, v6, v7, rfl, s2, hR2, pr, Tb, bs⟩
      have e : ((ys0.length : Int).toNat) = n := by (first | lia | omega)
      refine (exq rfl (exq rfl (ijq ⟨.inl (by rcases bs.2.1 with rfl | rfl <;> decide), ?_⟩)))
      rw [e] at bs
      show Q (.int (sg * d)) H2
      rw [bs.done]
      exact q _ s2
end
def absI (i : Int) : Int := if i < 0 then -i else i
def worthT (cs : List Nat) (wl : List (List Int)) : List (List Int) := wl.map fun ways => cs.map fun c => ways.getD c 0
def sp_ring_worth : Sp := fun vs H Q _ => ∃ w r p ts, ∃ g : GoodWeb p ts, ∃ rs : List Int, vs = [.ref w, .ref r] ∧ WebAt H w p ts ∧ H r = some (.lst (intsV rs)) ∧ (netOf p ts g).chords.length ≤ 12 ∧ rs.length = (netOf p ts g).chords.length ∧ (∀ x ∈ rs, GoodR p ts g x) ∧
  ∀ H' (wl : List (List Int)), Same H H' → Paired (WaysIs p ts g) rs wl → Q (.int (absI (Dt.det (netOf p ts g).chords.length (ent (worthT (netOf p ts g).chords wl))))) H'
theorem ent_bnd {rs : List (List Int)} {b : Nat} (h : ∀ r ∈ rs, ∀ x ∈ r, x.natAbs ≤ b) (i j : Nat) : (ent rs i j).natAbs ≤ b := by
  unfold ent
  rw [List.getD_eq_getElem?_getD, List.getD_eq_getElem?_getD]
  cases e : rs[i]? with
  | none => exact Nat.zero_le _
  | some r =>
    show (r[j]?.getD 0).natAbs ≤ b
    cases e2 : r[j]? with
    | none => exact Nat.zero_le _
    | some x => exact h r (List.mem_of_getElem? e) x (List.mem_of_getElem? e2)
theorem worth_bnd {cs : List Nat} {wl : List (List Int)} (h : ∀ l ∈ wl, ∀ x ∈ l, x = 0 ∨ x = 1 ∨ x = -1) : ∀ r c, (ent (worthT cs wl) r c).natAbs ≤ 1 := ent_bnd fun r hr x hx => by
  unfold worthT at hr
  obtain ⟨l, hl, rfl⟩ := List.mem_map.mp hr
  obtain ⟨c, _, rfl⟩ := List.mem_map.mp hx
  have hv : l.getD c 0 = 0 ∨ l.getD c 0 = 1 ∨ l.getD c 0 = -1 := by
    rw [List.getD_eq_getElem?_getD]
    cases e : l[c]? with
    | none => exact .inl rfl
    | some x => exact h l hl x (List.mem_of_getElem? e)
  show (l.getD c 0).natAbs ≤ 1
  (first | lia | omega)
theorem worth_snoc (cs : List Nat) (wl : List (List Int)) (l : List Int) : worthT cs (wl ++ [l]) = worthT cs wl ++ [cs.map fun c => l.getD c 0] := by
  unfold worthT
  rw [List.map_append]
  rfl
theorem worth_tab {cs : List Nat} {wl : List (List Int)} (h : wl.length = cs.length) : Tab cs.length (worthT cs wl) := ⟨by unfold worthT; rw [List.length_map]; exact h, fun r hr => by
  unfold worthT at hr
  obtain ⟨l, _, rfl⟩ := List.mem_map.mp hr
  exact List.length_map _⟩
section
variable {P : Program} {w : World} {K : PySem.W.Frag} {mg : Str → Option Value} {base : Heap} {a : Adr}
theorem G_ring_worth (T : Txt K mg a) : FnOk P w K mg base (CX1 P w) 11 a.f_ring_worth a.d_ring_worth ["web", "rings"] sp_ring_worth := by
  have G_rank : FnOk P w K mg base CX0 6 a.f_rank a.d_rank ["web"] sp_rank := G_rank T
  have G_chords : FnOk P w K mg base CX0 4 a.f_chords a.d_chords ["web"] sp_chords := G_chords T
  have G_ways_of : FnOk P w K mg base (CX1 P w) 10 a.f_ways_of a.d_ways_of ["web", "ring"] (sp_ways_of a.c_BadSet a.c_NotRing) := G_ways_of T
  have G_determinant : FnOk P w K mg base CX0 2 a.f_determinant a.d_determinant ["table"] sp_det := G_determinant T
  refine T.F_ring_worth.ok1 sc_ring_worth (fun vs H Q E h => ?_) (fun cdv A outer s H vs Q E hr h => ?_)
  · obtain ⟨w, r, p, ts, g, rs, rfl, _⟩ := h
    rfl
  · obtain ⟨wb, r, p, ts, g, rs, rfl, hw, hR, c5, e, good, q⟩ := h
    refine ⟨_, (@pss_cons _ _ _ _ _ (@ps_if _ _ _ _ _ _ _ _ (@pt_cmpR _ _ _ _ _ _ _ _ op_ne (@pe_callB _ _ _ _ _ _ _ _ _ (lenK K) (by rfl) T.n_len PySem.boot_len (@pa_cons _ _ _ _ _ (pv 1) pa_nil (by rfl)) (by decide) (by decide) (by rfl) (by rfl)) (@pe_call _ _ _ _ _ _ _ _ _ _ _ _ _ _ _ _ G_rank (hr.mono (by decide)) (by rfl) T.m_rank T.k_rank T.b_rank .nil pass0 (@pa_cons _ _ _ _ _ (pv 0) pa_nil (by rfl)) (by decide) (by rfl) (by rfl)) (nomark _)) (@pss_one _ _ _ (@ps_raise _ _ _ _ _ _ _ _ _ _ _ _ _ _ out_of.thr rfl (by rfl) T.x_NoBase PySem.F.excBase_ValueError (@pa_cons _ _ _ _ _ pe_str pa_nil (by rfl)) (by rfl) (by rfl) (by decide))) pss_nil) (@pss_cons _ _ _ _ _ (@ps_set _ _ 2 _ _ _ _ sc_ring_worth.nd rfl (Or.inl rfl) (@pe_call _ _ _ _ _ _ _ _ _ _ _ _ _ _ _ _ G_chords (hr.mono (by decide)) (by rfl) T.m_chords T.k_chords T.b_chords .nil pass0 (@pa_cons _ _ _ _ _ (pv 0) pa_nil (by rfl)) (by decide) (by rfl) (by rfl)) (by rfl) (by first | exact .inl rfl | exact .inr rfl | assumption)) (@pss_cons _ _ _ _ _ (@ps_set _ _ 3 _ _ _ _ sc_ring_worth.nd rfl (Or.inl rfl) (@pe_lst _ _ _ _ pa_nil) (by rfl) (by first | exact .inl rfl | exact .inr rfl | assumption)) (@pss_cons _ _ _ _ _ (@ps_for _ _ _ _ _ _ _ _ PassesOwn.leaving rfl (@piL _ _ _ _ K (pv 1) (by rfl)) (pg_name (i := 4) sc_ring_worth.nd rfl (Or.inl rfl)) (@pss_cons _ _ _ _ _ (@ps_set _ _ 5 _ _ _ _ sc_ring_worth.nd rfl (Or.inr rfl) (@pe_call _ _ _ _ _ _ _ _ _ _ _ _ _ _ _ _ G_ways_of (hr.mono (by decide)) (by rfl) T.m_ways_of T.k_ways_of T.b_ways_of .nil out_of.passes (@pa_cons _ _ _ _ _ (pv 0) (@pa_cons _ _ _ _ _ (pv 4) pa_nil (by rfl)) (by rfl)) (by decide) (by rfl) (by rfl)) (by rfl) (by first | exact .inl rfl | exact .inr rfl | assumption)) (@pss_one _ _ _ (@ps_expr _ _ _ _ (@bmK _ _ _ _ _ _ K (@pe_bm _ _ _ _ _ _ _ _ _ _ _ _ PySem.F.plainAttrs_list PySem.F.slot_list_append PySem.F.type_list_append mt_append (pv 3) (@pa_cons _ _ _ _ _ (@pe_comp _ _ _ _ _ _ _ ["chord"] ["ways"] [5] _ _ _ _ (compText_of (defScope s_ring_worth) ["web", "rings", "crossed", "table", "ring", "ways"]) rfl (@piL _ _ _ _ K (pv 2) (by rfl)) (fun _ _ _ _ => (pg_name (i := 0) (show (["chord", "ways"] : List Str).Nodup by decide +kernel) rfl (Or.inl rfl))) (fun _ _ _ _ => pts_nil) (fun _ _ _ _ => (pe_ix (ixL K) (pv 1) (pv 0) (fun _ _ => rfl))) (by intro _; rfl)) pa_nil (by rfl)) (by rfl) (by rfl) (by rfl) (by rfl) (by rfl)) (by rfl)) (by rfl)))) (by intro _; rfl)) (@pss_one _ _ _ (@ps_ret _ _ _ _ (@pe_callB _ _ _ _ _ _ _ _ _ call_abs (by rfl) T.n_abs PyProof.Rows.boot_abs (@pa_cons _ _ _ _ _ (@pe_call _ _ _ _ _ _ _ _ _ _ _ _ _ _ _ _ G_determinant (hr.mono (by decide)) (by rfl) T.m_determinant T.k_determinant T.b_determinant .nil pass0 (@pa_cons _ _ _ _ _ (pv 3) pa_nil (by rfl)) (by decide) (by rfl) (by rfl)) pa_nil (by rfl)) (by decide) (by decide) (by rfl) (by rfl)))))))), ?_⟩
    refine hd_ring_worth ?_
    intro zz0 zz1 zz2 zz3 zz4 zz5 zz6
    have wl0 := g.len
    have h2n : ((2 : Int) ^ ts.length) = ((2 ^ ts.length : Nat) : Int) := by simp
    refine (exq rfl (lnq rfl (.inl (SqL.of hR)) (exq rfl ⟨wb, p, ts, g, rfl, hw, fun H1 s1 => ⟨rfl, exq rfl (?_)⟩⟩)))
    rw [intsV_len, dec_nat]
    rw [decide_eq_true e]
    refine iteF (exq rfl ⟨wb, p, ts, g, rfl, hw.same s1, fun Cs H2 hCs s2 hCs2 => ?_⟩)
    have s12 := s1.trans s2
    have hR2 := s12 _ _ hR
    refine ⟨dl rfl, fun Tb hTb => ?_⟩
    have s3 : Same H2 (upd H2 Tb (.lst [])) := Same.new hTb
    have hT3 : upd H2 Tb (.lst []) Tb = some (.lst []) := upd_same
    generalize upd H2 Tb (.lst []) = H3 at s3 hT3
    refine (exq rfl ⟨r, rfl, ⟨_, SqL.of (s3 _ _ hR2)⟩, for_list' (K := K) (a := r) (xs := intsV rs) (fun i σ H4 => ∃ v4 v5 ys wl, σ = [some (.ref wb), some (.ref r), some (.ref Cs), some (.ref Tb), v4, v5] ∧ Same H2 H4 ∧ H4 Tb = some (.lst ys) ∧ Paired (WaysIs p ts g) (rs.take i) wl ∧ Paired (IntFr Tb H2 H4) ys (worthT (netOf p ts g).chords wl)) ⟨none, none, [], [], rfl, s3, hT3, by rw [List.take_zero]; exact .nil, .nil⟩ (fun i σ H4 _ ⟨_, _, _, _, _, z, _⟩ => SqL.of (z _ _ hR2)) ?_ ?_⟩)
    · rintro i x D' σ H4 hx ⟨v4, v5, ys, wl, rfl, s4, hT4, pw, py⟩
      unfold intsV at hx
      rw [List.getElem?_map] at hx
      obtain ⟨S, hS, rfl⟩ := Option.map_eq_some_iff.mp hx
      have s14 := s12.trans s4
      refine (exq rfl (exq rfl ⟨wb, p, ts, g, S, rfl, hw.same s14, ?_⟩))
      obtain ⟨m, rfl, hm, rg⟩ := good S (List.mem_of_getElem? hS)
      refine .inl ⟨m, rfl, hm, fun rg D H5 l hD s5 wi hD5 => ?_, fun nr => absurd rg nr⟩
      have hCs5 := (s4.trans s5) _ _ hCs2
      have hT5 := s5 _ _ hT4
      refine (exq rfl ⟨.inl ⟨rfl, _, SqL.of hT5⟩, exq rfl ⟨Cs, rfl, ⟨_, SqL.of hCs5⟩, fun N hN => comp_list (xs := natsV (netOf p ts g).chords) (fun j ad H6 => Same H5 H6 ∧ H6 N = some (.lst ad) ∧ ad = intsV (((netOf p ts g).chords.take j).map fun c => l.getD c 0)) ⟨Same.new hN, upd_same, by rw [List.take_zero]; rfl⟩ (fun j ad H6 _ ⟨f1, f2, e⟩ => ⟨SqL.of (f1 _ _ hCs5), f2, by rw [e, intsV_len, List.length_map]; exact List.length_take_le _ _⟩) (small24 (by rw [natsV_len]; (first | lia | omega))) ?_ ?_⟩⟩)
      · rintro j z ad H6 hz ⟨f1, f2, rfl⟩
        obtain ⟨c, hc, rfl⟩ := natsV_get hz
        have hcl : c < ts.length := (RM.chords_mem.mp (List.mem_of_getElem? hc)).1
        refine ⟨rfl, exq rfl (exq rfl (ixl (SqL.of (f1 _ _ hD5)) (atI_nat (j := c) (int_at (by rw [wi.len]; exact hcl))) ⟨f2, f1.put hN, upd_same, ?_⟩))⟩
        rw [ints_snoc, List.take_add_one, hc, List.map_append]
        rfl
      · rintro ad H6 ⟨f1, f2, rfl⟩
        rw [natsV_len, List.take_length] at f2
        have hNT : N ≠ Tb := fun z => by
          rw [z, hT5] at hN
          cases hN
        have yl : ys.length ≤ 24 := by
          rw [py.length]
          unfold worthT
          rw [List.length_map, ← pw.length, List.length_take]
          (first | lia | omega)
        refine ⟨Tb, ys, _, rfl, rfl, f1 _ _ hT5, smallL (by (first | lia | omega)), ?_⟩
        refine ⟨_, _, ys ++ [.ref N], wl ++ [l], rfl, ((s4.trans s5).trans f1).put hTb, upd_same, ?_, ?_⟩
        · rw [List.take_add_one, hS]
          exact paired_snoc wi pw
        · rw [worth_snoc]
          exact paired_snoc (IntFr.put ⟨N, rfl, hNT, (s4.trans s5).free hN, f2⟩) (Paired.imp' (fun _ _ z => (z.same (s5.trans f1)).put) py)
    · rintro σ H4 ⟨v4, v5, ys, wl, rfl, s4, hT4, pw, py⟩
      rw [intsV_len, List.take_length] at pw
      have wll : wl.length = (netOf p ts g).chords.length := by rw [← pw.length]; exact e
      exact (exq rfl ⟨Tb, _, _, 1, rfl, ⟨ys, hT4, Paired.imp' (fun _ _ z => z.is) py⟩, worth_tab wll, c5, by decide, Nat.lt_of_le_of_lt (Dt.fc_le (by decide) c5) (by decide), worth_bnd fun l hl => by
        obtain ⟨x, _, z⟩ := paired_right pw hl
        exact z.vals, fun H5 s5 => (exq rfl (q H5 wl ((s12.trans s4).trans s5) pw))⟩)
end
def sp_cell (K : PySem.W.Frag) : Sp := fun vs H Q _ => ∃ (a : Addr) (ns : List Int) (k : Nat), vs = [.ref a, .int (k : Int)] ∧ SqL K H a (ns.map V.int) ∧ ∀ z, Q (.int z) H
def sp_stir : Sp := fun vs H Q _ => ∃ c k, vs = [.int c, .int k] ∧ ∀ z, 0 ≤ z → Q (.int z) H
def sp_tie : Sp := fun vs H Q _ => ∃ (c : Int) (p : Nat) (t : Int), vs = [.int c, .int (p : Int), .int t] ∧ 2 ≤ p ∧ p ≤ 10 ∧ 1 ≤ t ∧ t ≤ 100000000000000000000000000000 ∧
  ∀ tie b r c' H', Same H H' → GoodTie (p : Int) tie → H' b = some (.tup (tieV tie)) → H' r = some (.tup [.ref b, .int c']) → Q (.ref r) H'
def sp_web (K : PySem.W.Frag) : Sp := fun vs H Q _ => ∃ (a : Addr) (ns : List Int) (most : Nat), vs = [.ref a, .int (most : Int)] ∧ SqL K H a (ns.map V.int) ∧ ns.length ≤ 63 ∧ most ≤ 24 ∧
  ∀ w p ts H', Same H H' → GoodWeb p ts → p ≤ 6 → ts.length ≤ most → WebAt H' w p ts → Q (.ref w) H'
theorem pick4 (y : Int) : ∃ m, atI [V.int 1, .int 1, .int 1, .int (10 ^ (29 : Int).toNat)] (y % 4) = some (.int m) ∧ 1 ≤ m ∧ m ≤ 100000000000000000000000000000 := by
  obtain ⟨h0, h1⟩ := emod2 y 4 (by decide)
  generalize y % 4 = i at h0 h1
  have hi : i = 0 ∨ i = 1 ∨ i = 2 ∨ i = 3 := by (first | lia | omega)
  rcases hi with rfl | rfl | rfl | rfl
  · exact ⟨1, atI_nat (j := 0) rfl, by decide, by decide⟩
  · exact ⟨1, atI_nat (j := 1) rfl, by decide, by decide⟩
  · exact ⟨1, atI_nat (j := 2) rfl, by decide, by decide⟩
  · exact ⟨10 ^ (29 : Int).toNat, atI_nat (j := 3) rfl, by decide, by decide⟩
section
variable {P : Program} {w : World} {K : PySem.W.Frag} {mg : Str → Option Value} {base : Heap} {a : Adr}
theorem G_law_cell (T : Txt K mg a) : FnOk P w K mg base CX0 1 a.f_law_cell a.d_law_cell ["script", "k"] (sp_cell K) := by
  refine T.F_law_cell.ok sc_law_cell (fun vs H Q E h => ?_) (fun cdv A outer s H vs Q E hr h => ?_)
  · obtain ⟨b, ns, k, rfl, _⟩ := h
    rfl
  · obtain ⟨b, ns, k, rfl, hS, q⟩ := h
    refine ⟨_, (@pss_cons _ _ _ _ _ (@ps_if _ _ _ _ _ _ _ _ (@pt_cmpR _ _ _ _ _ _ _ _ op_lt (pv 1) (@pe_callB _ _ _ _ _ _ _ _ _ (lenK K) (by rfl) T.n_len PySem.boot_len (@pa_cons _ _ _ _ _ (pv 0) pa_nil (by rfl)) (by decide) (by decide) (by rfl) (by rfl)) (nomark _)) (@pss_one _ _ _ (@ps_ret _ _ _ _ (@pe_ix _ _ _ _ _ _ _ (ixL K) (pv 0) (pv 1) (fun _ _ => rfl)))) pss_nil) (@pss_one _ _ _ (@ps_ret _ _ _ _ pe_int))), ?_⟩
    refine hd_law_cell ?_
    intro zz0 zz1
    refine (exq rfl (exq rfl ⟨b, _, rfl, .inl hS, _, _, rfl, rfl, exq rfl (ite2 (fun hlt => ?_) (fun _ => q 0))⟩))
    have hlt := of_decide_eq_true hlt
    rw [List.length_map] at hlt
    exact (exq rfl (exq rfl ⟨b, _, _, _, rfl, rfl, hS, atI_nat (j := k) (ints_at (by (first | lia | omega))), q _⟩))
theorem G_law_stir (T : Txt K mg a) : FnOk P w K mg base CX0 1 a.f_law_stir a.d_law_stir ["cell", "k"] sp_stir := by
  refine T.F_law_stir.ok sc_law_stir (fun vs H Q E h => ?_) (fun cdv A outer s H vs Q E hr h => ?_)
  · obtain ⟨c, k, rfl, _⟩ := h
    rfl
  · obtain ⟨c, k, rfl, q⟩ := h
    refine ⟨_, (@pss_cons _ _ _ _ _ (@ps_set _ _ 2 _ _ _ _ sc_law_stir.nd rfl (Or.inl rfl) (@pe_op _ _ _ _ _ _ _ _ op_mod (@pe_op _ _ _ _ _ _ _ _ op_add (@pe_op _ _ _ _ _ _ _ _ op_add (pv 0) (@pe_op _ _ _ _ _ _ _ _ op_mul pe_int (pv 1))) pe_int) pe_int) (by rfl) (by first | exact .inl rfl | exact .inr rfl | assumption)) (@pss_cons _ _ _ _ _ (@ps_set _ _ 2 _ _ _ _ sc_law_stir.nd rfl (Or.inl rfl) (@pe_op _ _ _ _ _ _ _ _ op_mod (@pe_op _ _ _ _ _ _ _ _ op_mul (pv 2) (pv 2)) pe_int) (by rfl) (by first | exact .inl rfl | exact .inr rfl | assumption)) (@pss_one _ _ _ (@ps_ret _ _ _ _ (@pe_op _ _ _ _ _ _ _ _ op_fdiv (@pe_op _ _ _ _ _ _ _ _ op_mod (@pe_op _ _ _ _ _ _ _ _ op_mul (pv 2) pe_int) pe_int) pe_int))))), ?_⟩
    refine hd_law_stir ?_
    intro zz0 zz1
    refine (exq rfl (exq rfl (ijq ⟨.inl ⟨by decide, by decide⟩, ijq (ijq (ijq ⟨(modC rfl), ?_⟩))⟩)))
    have h1 := emod2 (c + 7919 * k + 101) 2147483647 (by decide)
    dsimp only
    generalize (c + 7919 * k + 101) % 2147483647 = n at h1
    refine (exq rfl (exq rfl (ijq ⟨.inl ⟨by (first | lia | omega), by (first | lia | omega)⟩, ijq ⟨(modC rfl), ?_⟩⟩)))
    refine (exq rfl (ijq ⟨.inr ⟨by decide, by decide⟩, ijq ⟨(modC rfl), ijq ⟨⟨by decide, by decide⟩, ?_⟩⟩⟩))
    have h2 := emod2 (n * n % 2147483647 * 48271) 2147483629 (by decide)
    exact q _ (Int.ediv_nonneg h2.1 (by decide))
theorem G_law_tie (T : Txt K mg a) : FnOk P w K mg base CX0 1 a.f_law_tie a.d_law_tie ["c", "points", "times"] sp_tie := by
  refine T.F_law_tie.ok sc_law_tie (fun vs H Q E h => ?_) (fun cdv A outer s H vs Q E hr h => ?_)
  · obtain ⟨c, p, t, rfl, _⟩ := h
    rfl
  · obtain ⟨c, p, t, rfl, hp1, hp2, ht1, ht2, q⟩ := h
    refine ⟨_, (@pss_cons _ _ _ _ _ (@ps_set _ _ 3 _ _ _ _ sc_law_tie.nd rfl (Or.inl rfl) (@pe_op _ _ _ _ _ _ _ _ op_mod (pv 0) (pv 1)) (by rfl) (by first | exact .inl rfl | exact .inr rfl | assumption)) (@pss_cons _ _ _ _ _ (@ps_set _ _ 0 _ _ _ _ sc_law_tie.nd rfl (Or.inl rfl) (@pe_op _ _ _ _ _ _ _ _ op_fdiv (pv 0) (pv 1)) (by rfl) (by first | exact .inl rfl | exact .inr rfl | assumption)) (@pss_cons _ _ _ _ _ (@ps_set _ _ 4 _ _ _ _ sc_law_tie.nd rfl (Or.inl rfl) (@pe_op _ _ _ _ _ _ _ _ op_mod (@pe_op _ _ _ _ _ _ _ _ op_add (@pe_op _ _ _ _ _ _ _ _ op_add (pv 3) pe_int) (@pe_op _ _ _ _ _ _ _ _ op_mod (pv 0) (@pe_op _ _ _ _ _ _ _ _ op_sub (pv 1) pe_int))) (pv 1)) (by rfl) (by first | exact .inl rfl | exact .inr rfl | assumption)) (@pss_cons _ _ _ _ _ (@ps_set _ _ 0 _ _ _ _ sc_law_tie.nd rfl (Or.inl rfl) (@pe_op _ _ _ _ _ _ _ _ op_fdiv (pv 0) (@pe_op _ _ _ _ _ _ _ _ op_sub (pv 1) pe_int)) (by rfl) (by first | exact .inl rfl | exact .inr rfl | assumption)) (@pss_one _ _ _ (@ps_ret _ _ _ _ (@pe_tup _ _ _ _ _ (@pa_cons _ _ _ _ _ (@pe_tup _ _ _ _ _ (@pa_cons _ _ _ _ _ (pv 3) (@pa_cons _ _ _ _ _ (pv 4) (@pa_cons _ _ _ _ _ (@pe_op _ _ _ _ _ _ _ _ op_mul (@pe_op _ _ _ _ _ _ _ _ op_add pe_int (@pe_op _ _ _ _ _ _ _ _ op_mod (pv 0) pe_int)) (pv 2)) pa_nil (by rfl)) (by rfl)) (by rfl))) (@pa_cons _ _ _ _ _ (@pe_op _ _ _ _ _ _ _ _ op_fdiv (pv 0) pe_int) pa_nil (by rfl)) (by rfl))))))))), ?_⟩
    refine hd_law_tie ?_
    intro zz0 zz1 zz2 zz3
    have p0 : (0 : Int) < (p : Int) := by (first | lia | omega)
    have p9 : (0 : Int) < (p : Int) - 1 := by (first | lia | omega)
    have hd : ∀ i, CDiv i (p : Int) := fun i => ⟨by (first | lia | omega), by (first | lia | omega)⟩
    have hd1 : ∀ i, CDiv i ((p : Int) - 1) := fun i => ⟨by (first | lia | omega), by (first | lia | omega)⟩
    refine (exq rfl (exq rfl (ijq ⟨p0, ?_⟩)))
    refine (exq rfl (exq rfl (ijq ⟨hd _, ?_⟩)))
    refine (exq rfl (ijq (exq rfl (exq rfl (ijq (ijq ⟨p9, _, _, rfl, rfl, exq rfl (ijq ⟨p0, ?_⟩)⟩))))))
    refine (exq rfl (exq rfl (ijq (ijq ⟨hd1 _, ?_⟩))))
    obtain ⟨r0, r1⟩ := emod2 (c / p / (p - 1)) 9 (by decide)
    refine (exq rfl (exq rfl (exq rfl (ijq ⟨(modC rfl), ijq (exq rfl (ijq ⟨.inl ⟨by (first | lia | omega), by (first | lia | omega)⟩, dl rfl, fun b hb => ?_⟩))⟩))))
    refine (exq rfl (ijq ⟨⟨by decide, by decide⟩, dl rfl, fun r hr => ?_⟩))
    obtain ⟨o1, o2, o3⟩ := other_ne (p := p) (o := c % p) (r := c / p % (p - 1)) (emod2 _ _ p0).1 (emod2 _ _ p0).2 (emod2 _ _ p9).1 (emod2 _ _ p9).2
    refine q (c % p, (c % p + 1 + c / p % (p - 1)) % p, (1 + c / p / (p - 1) % 9) * t) b r _ _ ((Same.new hb).trans (Same.new hr)) ?_ (Same.new hr _ _ upd_same) upd_same
    generalize c / p / (p - 1) % 9 = r at r0 r1
    have hr' : r = 0 ∨ r = 1 ∨ r = 2 ∨ r = 3 ∨ r = 4 ∨ r = 5 ∨ r = 6 ∨ r = 7 ∨ r = 8 := by (first | lia | omega)
    refine ⟨(emod2 _ _ p0).1, (emod2 _ _ p0).2, o1, o2, o3, ?_, ?_⟩
    · show 1 ≤ (1 + r) * t
      rcases hr' with rfl | rfl | rfl | rfl | rfl | rfl | rfl | rfl | rfl <;> (first | lia | omega)
    · show (1 + r) * t ≤ _
      rcases hr' with rfl | rfl | rfl | rfl | rfl | rfl | rfl | rfl | rfl <;> (first | lia | omega)
theorem G_law_web (T : Txt K mg a) : FnOk P w K mg base CX0 2 a.f_law_web a.d_law_web ["script", "most"] (sp_web K) := by
  have G_law_cell : FnOk P w K mg base CX0 1 a.f_law_cell a.d_law_cell ["script", "k"] (sp_cell K) := G_law_cell T
  have G_law_stir : FnOk P w K mg base CX0 1 a.f_law_stir a.d_law_stir ["cell", "k"] sp_stir := G_law_stir T
  have G_law_tie : FnOk P w K mg base CX0 1 a.f_law_tie a.d_law_tie ["c", "points", "times"] sp_tie := G_law_tie T
  refine T.F_law_web.ok sc_law_web (fun vs H Q E h => ?_) (fun cdv A outer s H vs Q E hr h => ?_)
  · obtain ⟨b, ns, most, rfl, _⟩ := h
    rfl
  · obtain ⟨b, ns, most, rfl, hS, hn, hm, q⟩ := h
    refine ⟨_, (@pss_cons _ _ _ _ _ (@ps_set _ _ 2 _ _ _ _ sc_law_web.nd rfl (Or.inl rfl) (@pe_op _ _ _ _ _ _ _ _ op_mod (@pe_call _ _ _ _ _ _ _ _ _ _ _ _ _ _ _ _ G_law_cell (hr.mono (by decide)) (by rfl) T.m_law_cell T.k_law_cell T.b_law_cell .nil pass0 (@pa_cons _ _ _ _ _ (pv 0) (@pa_cons _ _ _ _ _ pe_int pa_nil (by rfl)) (by rfl)) (by decide) (by rfl) (by rfl)) (@pe_op _ _ _ _ _ _ _ _ op_pow pe_int pe_int)) (by rfl) (by first | exact .inl rfl | exact .inr rfl | assumption)) (@pss_cons _ _ _ _ _ (@ps_set _ _ 3 _ _ _ _ sc_law_web.nd rfl (Or.inl rfl) (@pe_op _ _ _ _ _ _ _ _ op_add pe_int (@pe_op _ _ _ _ _ _ _ _ op_mod (@pe_op _ _ _ _ _ _ _ _ op_fdiv (pv 2) pe_int) pe_int)) (by rfl) (by first | exact .inl rfl | exact .inr rfl | assumption)) (@pss_cons _ _ _ _ _ (@ps_set _ _ 4 _ _ _ _ sc_law_web.nd rfl (Or.inl rfl) (@pe_ix _ _ _ _ _ _ _ (ixL K) (@pe_lst _ _ _ _ (@pa_cons _ _ _ _ _ pe_int (@pa_cons _ _ _ _ _ pe_int (@pa_cons _ _ _ _ _ pe_int (@pa_cons _ _ _ _ _ (@pe_op _ _ _ _ _ _ _ _ op_pow pe_int pe_int) pa_nil (by rfl)) (by rfl)) (by rfl)) (by rfl))) (@pe_op _ _ _ _ _ _ _ _ op_mod (@pe_op _ _ _ _ _ _ _ _ op_fdiv (pv 2) pe_int) pe_int) (fun _ _ => rfl)) (by rfl) (by first | exact .inl rfl | exact .inr rfl | assumption)) (@pss_cons _ _ _ _ _ (@ps_set _ _ 5 _ _ _ _ sc_law_web.nd rfl (Or.inl rfl) (@pe_lst _ _ _ _ pa_nil) (by rfl) (by first | exact .inl rfl | exact .inr rfl | assumption)) (@pss_cons _ _ _ _ _ (@ps_if _ _ _ _ _ _ _ _ (PW.pt (@pw_and _ _ _ _ _ _ _ (@pt_cmpR _ _ _ _ _ _ _ _ op_gt (pv 3) pe_int (nomark _)) (@pw_and1 _ _ _ _ (@pt_cmpR _ _ _ _ _ _ _ _ op_eq (@pe_op _ _ _ _ _ _ _ _ op_mod (pv 2) pe_int) pe_int (nomark _))))) (@pss_cons _ _ _ _ _ (@ps_set _ _ 6 _ _ _ _ sc_law_web.nd rfl (Or.inl rfl) (@pe_op _ _ _ _ _ _ _ _ op_mod (@pe_call _ _ _ _ _ _ _ _ _ _ _ _ _ _ _ _ G_law_cell (hr.mono (by decide)) (by rfl) T.m_law_cell T.k_law_cell T.b_law_cell .nil pass0 (@pa_cons _ _ _ _ _ (pv 0) (@pa_cons _ _ _ _ _ pe_int pa_nil (by rfl)) (by rfl)) (by decide) (by rfl) (by rfl)) (@pe_op _ _ _ _ _ _ _ _ op_mulB (@pe_op _ _ _ _ _ _ _ _ op_pow pe_int pe_int) (@pe_op _ _ _ _ _ _ _ _ op_pow pe_int pe_int))) (by rfl) (by first | exact .inl rfl | exact .inr rfl | assumption)) (@pss_one _ _ _ (@ps_for _ _ _ _ _ _ _ _ PassesOwn.never rfl (@pi_range1 _ _ _ _ _ _ (by rfl) T.n_range (@pa_cons _ _ _ _ _ (@pe_op _ _ _ _ _ _ _ _ op_mod (@pe_op _ _ _ _ _ _ _ _ op_fdiv (pv 2) pe_int) (@pe_op _ _ _ _ _ _ _ _ op_add (pv 1) pe_int)) pa_nil (by rfl)) (by rfl)) (pg_name (i := 7) sc_law_web.nd rfl (Or.inl rfl)) (@pss_cons _ _ _ _ _ (@ps_asg _ _ _ _ _ _ (@pe_call _ _ _ _ _ _ _ _ _ _ _ _ _ _ _ _ G_law_tie (hr.mono (by decide)) (by rfl) T.m_law_tie T.k_law_tie T.b_law_tie .nil pass0 (@pa_cons _ _ _ _ _ (pv 6) (@pa_cons _ _ _ _ _ (pv 3) (@pa_cons _ _ _ _ _ (pv 4) pa_nil (by rfl)) (by rfl)) (by rfl)) (by decide) (by rfl) (by rfl)) (@pgT _ _ K _ _ 2 _ rfl (@pgs_cons _ _ _ _ _ (pg_name (i := 8) sc_law_web.nd rfl (Or.inl rfl)) (@pgs_cons _ _ _ _ _ (pg_name (i := 6) sc_law_web.nd rfl (Or.inl rfl)) pgs_nil (by rfl)) (by rfl)) (by rfl) (by rfl) (by rfl)) (by rfl) (by rfl) (by rfl)) (@pss_one _ _ _ (@ps_expr _ _ _ _ (@bmK _ _ _ _ _ _ K (@pe_bm _ _ _ _ _ _ _ _ _ _ _ _ PySem.F.plainAttrs_list PySem.F.slot_list_append PySem.F.type_list_append mt_append (pv 5) (@pa_cons _ _ _ _ _ (pv 8) pa_nil (by rfl)) (by rfl) (by rfl) (by rfl) (by rfl) (by rfl)) (by rfl)) (by rfl)))) (by intro _; rfl)))) pss_nil) (@pss_cons _ _ _ _ _ (@ps_if _ _ _ _ _ _ _ _ (PW.pt (@pw_and _ _ _ _ _ _ _ (@pt_cmpR _ _ _ _ _ _ _ _ op_gt (pv 3) pe_int (nomark _)) (@pw_and1 _ _ _ _ (@pt_cmpR _ _ _ _ _ _ _ _ op_eq (@pe_op _ _ _ _ _ _ _ _ op_mod (pv 2) pe_int) pe_int (nomark _))))) (@pss_one _ _ _ (@ps_for _ _ _ _ _ _ _ _ PassesOwn.never rfl (@pi_range2 _ _ _ _ _ _ _ (by rfl) T.n_range (@pa_cons _ _ _ _ _ pe_int (@pa_cons _ _ _ _ _ (@pe_callB _ _ _ _ _ _ _ _ _ (call_min2 rfl) (by rfl) T.n_min PyProof.Rows.boot_min (@pa_cons _ _ _ _ _ (@pe_callB _ _ _ _ _ _ _ _ _ (lenK K) (by rfl) T.n_len PySem.boot_len (@pa_cons _ _ _ _ _ (pv 0) pa_nil (by rfl)) (by decide) (by decide) (by rfl) (by rfl)) (@pa_cons _ _ _ _ _ (@pe_op _ _ _ _ _ _ _ _ op_add pe_int (pv 1)) pa_nil (by rfl)) (by rfl)) (by decide) (by decide) (by rfl) (by rfl)) pa_nil (by rfl)) (by rfl)) (by rfl) (by rfl)) (pg_name (i := 7) sc_law_web.nd rfl (Or.inl rfl)) (@pss_one _ _ _ (@ps_expr _ _ _ _ (@bmK _ _ _ _ _ _ K (@pe_bm _ _ _ _ _ _ _ _ _ _ _ _ PySem.F.plainAttrs_list PySem.F.slot_list_append PySem.F.type_list_append mt_append (pv 5) (@pa_cons _ _ _ _ _ (@pe_ix _ _ _ _ _ _ _ (ixT K) (@pe_call _ _ _ _ _ _ _ _ _ _ _ _ _ _ _ _ G_law_tie (hr.mono (by decide)) (by rfl) T.m_law_tie T.k_law_tie T.b_law_tie .nil pass0 (@pa_cons _ _ _ _ _ (@pe_call _ _ _ _ _ _ _ _ _ _ _ _ _ _ _ _ G_law_stir (hr.mono (by decide)) (by rfl) T.m_law_stir T.k_law_stir T.b_law_stir .nil pass0 (@pa_cons _ _ _ _ _ (@pe_ix _ _ _ _ _ _ _ (ixL K) (pv 0) (pv 7) (fun _ _ => rfl)) (@pa_cons _ _ _ _ _ (pv 7) pa_nil (by rfl)) (by rfl)) (by decide) (by rfl) (by rfl)) (@pa_cons _ _ _ _ _ (pv 3) (@pa_cons _ _ _ _ _ (pv 4) pa_nil (by rfl)) (by rfl)) (by rfl)) (by decide) (by rfl) (by rfl)) pe_int (fun _ _ => rfl)) pa_nil (by rfl)) (by rfl) (by rfl) (by rfl) (by rfl) (by rfl)) (by rfl)) (by rfl))) (by intro _; rfl))) pss_nil) (@pss_one _ _ _ (@ps_ret _ _ _ _ (@pe_tup _ _ _ _ _ (@pa_cons _ _ _ _ _ (pv 3) (@pa_cons _ _ _ _ _ (@pe_callTy _ _ _ _ _ _ _ _ _ (tuplK K) (by rfl) T.n_tuple PyProof.Rows.boot_tuple (@pa_cons _ _ _ _ _ (pv 5) pa_nil (by rfl)) (by decide) (by decide) (by rfl) (by rfl)) pa_nil (by rfl)) (by rfl))))))))))), ?_⟩
    refine hd_law_web ?_
    intro zz0 zz1 zz2 zz3 zz4 zz5 zz6 zz7 zz8 zz9 zz10 zz11
    refine (exq rfl ⟨b, ns, 0, rfl, hS, fun z => (ijq ⟨⟨by decide, by decide, by decide⟩, ijq ⟨(modC rfl), ?_⟩⟩)⟩)
    have h0 := (emod2 z (10 ^ (60 : Int).toNat) (by decide)).1
    dsimp only
    generalize z % 10 ^ (60 : Int).toNat = hd at h0
    refine (exq rfl (ijq ⟨⟨by decide, by decide⟩, ijq ⟨(modC rfl), ijq (?_)⟩⟩))
    obtain ⟨p, hp, p1, p6⟩ : ∃ p : Nat, 1 + hd / 2 % 6 = (p : Int) ∧ 1 ≤ p ∧ p ≤ 6 := ⟨(1 + hd / 2 % 6).toNat, by (first | lia | omega), by (first | lia | omega), by (first | lia | omega)⟩
    dsimp only
    rw [hp]
    obtain ⟨m, hat, m1, m2⟩ := pick4 (hd / 12)
    refine (ijq ⟨⟨by decide, by decide, by decide⟩, dl rfl, fun l hl => (exq rfl (ijq ⟨⟨by decide, by decide⟩, ijq ⟨(modC rfl), ixl (SqL.of upd_same) (hat) (?_)⟩⟩))⟩)
    have s1 : Same H (upd H l (.lst [.int 1, .int 1, .int 1, .int (10 ^ (29 : Int).toNat)])) := Same.new hl
    generalize upd H l (.lst [.int 1, .int 1, .int 1, .int (10 ^ (29 : Int).toNat)]) = H1 at s1
    refine ⟨dl rfl, fun D hD => ?_⟩
    have hk0 : 0 ≤ hd / 48 % ((most : Int) + 1) ∧ hd / 48 % ((most : Int) + 1) < (most : Int) + 1 := emod2 _ _ (by (first | lia | omega))
    -- the web is told
    have fin : ∀ (n : Nat) (H2 : Hp), Ties (p : Int) H1 D n H2 → n ≤ most → ∃ acc, H2 D = some (.lst acc) ∧ ∀ l', H2 l' = none → ([V.int (p : Int), .ref l'] : List V).length ≤ sizeLine ∧ ∀ w', upd H2 l' (.tup acc) w' = none → Q (.ref w') (upd (upd H2 l' (.tup acc)) w' (.tup [.int (p : Int), .ref l'])) := by
      intro n H2 ht hnm
      obtain ⟨acc, ts, hd, hl, gt, z⟩ := ht.fin
      refine ⟨acc, hd, fun l' hl' => ⟨dl rfl, fun w' hw => ?_⟩⟩
      obtain ⟨z1, z2⟩ := z l' hl' w' hw
      exact q w' p ts _ (s1.trans z1) ⟨p1, by (first | lia | omega), by (first | lia | omega), gt⟩ p6 (by (first | lia | omega)) z2
    have t0 : Ties (p : Int) H1 D 0 (upd H1 D (.lst [])) := Ties.start hD
    generalize upd H1 D (.lst []) = H2 at t0
    by_cases hp1 : p = 1
    · subst hp1
      refine (exq rfl (ijq (exq rfl (iteD (by decide) (iteF ?_)))))
      refine (exq rfl (ijq (exq rfl (iteD (by decide) (iteF ?_)))))
      obtain ⟨acc, hD2, z⟩ := fin 0 H2 t0 (by (first | lia | omega))
      exact (exq rfl (exq rfl ⟨D, acc, rfl, .inl ⟨SqL.of hD2, z⟩⟩))
    · by_cases hpar : hd % 2 = 0
      · refine (exq rfl (ijq (exq rfl (iteP (by (first | lia | omega)) (exq rfl (ijq ⟨(modC rfl), rfl, exq rfl (iteP (congrArg V.int hpar) ?_)⟩))))))
        refine (exq rfl ⟨b, ns, 1, rfl, (s1.trans t0.1).seq hS, fun z1 => (ijq ⟨⟨by decide, by decide, by decide⟩, ijq ⟨⟨by decide, by decide, by decide⟩, ijq ⟨mulOk_of (by decide) (by decide), ijq ⟨(modC rfl), ?_⟩⟩⟩⟩)⟩)
        refine (exq rfl (ijq ⟨⟨by decide, by decide⟩, exq rfl (ijq (ijq ⟨(by (first | lia | omega)), exq rfl ⟨(by (first | lia | omega)), (by (first | lia | omega)), ?_⟩⟩))⟩))
        refine for_range (lo := 0) (n := (hd / 48 % ((most : Int) + 1)).toNat) (fun i σ H3 => ∃ c v7 v8, σ = [some (.ref b), some (.int (most : Int)), some (.int hd), some (.int (p : Int)), some (.int m), some (.ref D), some (.int c), v7, v8] ∧ Ties (p : Int) H1 D i H3) ⟨_, none, none, rfl, t0⟩ ?_ ?_
        · rintro i σ H3 hi ⟨c, v7, v8, rfl, t3⟩
          refine (exq rfl (exq rfl (exq rfl ⟨c, p, m, rfl, by (first | lia | omega), by (first | lia | omega), m1, m2, fun tie bb r c' H4 s4 gt hb hr => ?_⟩)))
          obtain ⟨acc, hD4, hac, t5⟩ := t3.push hD s4 gt hb
          refine ⟨r, _, rfl, SqT.of hr, rfl, _, _, rfl, _, _, rfl, rfl, ?_⟩
          exact (exq rfl ⟨.inl ⟨rfl, _, SqL.of hD4⟩, exq rfl ⟨D, acc, _, rfl, rfl, hD4, smallL (by (first | lia | omega)), _, _, _, rfl, t5⟩⟩)
        · rintro σ H3 ⟨c, v7, v8, rfl, t3⟩
          refine (exq rfl (ijq (exq rfl (iteP (by (first | lia | omega)) (exq rfl (ijq ⟨(modC rfl), rfl, exq rfl (iteD (fun z => by have := V.int.inj z; (first | lia | omega)) ?_)⟩))))))
          obtain ⟨acc, hD2, z⟩ := fin _ H3 t3 (by (first | lia | omega))
          exact (exq rfl (exq rfl ⟨D, acc, rfl, .inl ⟨SqL.of hD2, z⟩⟩))
      · refine (exq rfl (ijq (exq rfl (iteP (by (first | lia | omega)) (exq rfl (ijq ⟨(modC rfl), rfl, exq rfl (iteD (fun z => hpar (V.int.inj z)) ?_)⟩))))))
        refine (exq rfl (ijq (exq rfl (iteP (by (first | lia | omega)) (exq rfl (ijq ⟨(modC rfl), rfl, exq rfl (iteP (congrArg V.int (by (first | lia | omega))) ?_)⟩))))))
        have hml : (ns.map V.int).length = ns.length := List.length_map ..
        refine (exq rfl ⟨b, _, rfl, .inl ((s1.trans t0.1).seq hS), exq rfl (ijq ⟨_, _, rfl, _, _, rfl, ⟨by decide, by decide, ?_, ?_⟩, ?_⟩)⟩)
        · rw [hml]; split <;> (first | lia | omega)
        · rw [hml]; split <;> (first | lia | omega)
        have hr1 : ∃ r : Nat, ((if (2 + (most : Int)) < ((ns.map V.int).length : Int) then 2 + (most : Int) else ((ns.map V.int).length : Int)) - 2).toNat = r ∧ r ≤ most ∧ (r = 0 ∨ r + 2 ≤ ns.length) := (exq rfl ⟨by rw [hml]; split <;> (first | lia | omega), by rw [hml]; split <;> (first | lia | omega)⟩)
        obtain ⟨r, hr0, hr1, hr2⟩ := hr1
        refine for_range (lo := 2) (n := _) (fun i σ H3 => ∃ v6 v7 v8, σ = [some (.ref b), some (.int (most : Int)), some (.int hd), some (.int (p : Int)), some (.int m), some (.ref D), v6, v7, v8] ∧ Ties (p : Int) H1 D i H3) ⟨none, none, none, rfl, t0⟩ ?_ ?_
        · rintro i σ H3 hi ⟨v6, v7, v8, rfl, t3⟩
          rw [hr0] at hi
          have ek : (2 : Int) + (i : Int) = ((2 + i : Nat) : Int) := by (first | lia | omega)
          rw [ek]
          have hD3 : ∃ acc, H3 D = some (.lst acc) := let ⟨_, acc, _, z, _⟩ := t3; ⟨acc, z⟩
          obtain ⟨acc0, hD3⟩ := hD3
          refine (exq rfl ⟨.inl ⟨rfl, _, SqL.of hD3⟩, exq rfl (exq rfl ⟨b, _, _, _, rfl, rfl, (s1.trans t3.1).seq hS, atI_nat (j := 2 + i) (ints_at (by (first | lia | omega))), exq rfl ⟨_, _, rfl, fun z z0 => ?_⟩⟩)⟩)
          refine (exq rfl (exq rfl ⟨z, p, m, rfl, by (first | lia | omega), by (first | lia | omega), m1, m2, fun tie bb rr c' H4 s4 gt hb hr => ?_⟩))
          obtain ⟨acc, hD4, hac, t5⟩ := t3.push hD s4 gt hb
          exact (ixq (SqT.of hr) (atI_nat (j := 0) rfl) ⟨D, acc, _, rfl, rfl, hD4, smallL (by (first | lia | omega)), _, _, _, rfl, t5⟩)
        · rintro σ H3 ⟨v6, v7, v8, rfl, t3⟩
          rw [hr0] at t3
          obtain ⟨acc, hD2, z⟩ := fin _ H3 t3 (by (first | lia | omega))
          exact (exq rfl (exq rfl ⟨D, acc, rfl, .inl ⟨SqL.of hD2, z⟩⟩))
end
def sp_law_ties : Sp := fun vs H Q _ => ∃ m : Nat, vs = [.int (m : Int)] ∧ Builtin.Int.intBits (m : Int) ≤ 1000 ∧ ∀ D H', H D = none → Same H H' → H' D = some (.lst (natsV (tiesOf (m : Int)))) → Q (.ref D) H'
def sp_law_odd : Sp := fun vs H Q _ => ∃ w p ts, ∃ m : Nat, vs = [.ref w, .int (m : Int)] ∧ WebAt H w p ts ∧ Web p ts ∧ m < 2 ^ ts.length ∧ ∀ D H', H D = none → Same H H' → H' D = some (.lst (natsV (oddOf p ts (m : Int)))) → Q (.ref D) H'
section
variable {P : Program} {w : World} {K : PySem.W.Frag} {mg : Str → Option Value} {base : Heap} {a : Adr}
theorem G_law_ties (T : Txt K mg a) : FnOk P w K mg base CX0 1 a.f_law_ties a.d_law_ties ["some"] sp_law_ties := by
  refine T.F_law_ties.ok sc_law_ties (fun vs H Q E h => ?_) (fun cdv A outer s H vs Q E hr h => ?_)
  · obtain ⟨m, rfl, _⟩ := h
    rfl
  · obtain ⟨m, rfl, hm, k⟩ := h
    refine ⟨_, (@pss_one _ _ _ (@ps_ret _ _ _ _ (@pe_comp _ _ _ _ _ _ _ ["tie"] ["some"] [0] _ _ _ _ (compText_of (defScope s_law_ties) ["some"]) rfl (@pi_range1 _ _ _ _ _ _ (by rfl) T.n_range (@pa_cons _ _ _ _ _ (@pe_bm0 _ _ _ _ _ _ _ _ _ PySem.F.plainAttrs_int PyProof.Rows.slot_int_bit_length PyProof.Rows.type_int_bit_length mt_bits (pv 0) (by rfl) (by rfl)) pa_nil (by rfl)) (by rfl)) (fun _ _ _ _ => (pg_name (i := 0) (show (["tie", "some"] : List Str).Nodup by decide +kernel) rfl (Or.inl rfl))) (fun _ _ _ _ => (pts_one (pt_cmpR op_eq (pe_op op_mod (pe_op op_shr (pv 1) (pv 0)) pe_int) pe_int (nomark _)))) (fun _ _ _ _ => (pv 0)) (by intro _; rfl)))), ?_⟩
    refine (exq rfl ⟨rfl, exq rfl ⟨rfl, exq rfl ⟨(by (first | lia | omega)), (by (first | lia | omega)), fun D hD => comp_range (lo := 0) (m := Builtin.Int.intBits (m : Int)) (Pick (bit (m : Int)) H D) (.start hD) (fun i acc H2 _ p => p.len) (dl (Nat.ble_eq.mpr hm)) ?_ ?_⟩⟩⟩)
    · intro i acc H2 hi p
      rw [Int.zero_add]
      refine ⟨rfl, exq rfl (exq rfl (ijq ⟨(by (first | lia | omega)), ijq ⟨(modC rfl), rfl, exq rfl (?_)⟩⟩))⟩
      rw [Int.toNat_natCast, bit_eq]
      cases hb : bit (m : Int) i with
      | true => exact (exq rfl (p.yes hD (Same.refl _) hb))
      | false => exact p.no (Same.refl _) hb
    · intro acc H2 p
      exact k D H2 hD p.1 (by rw [p.2.1, p.2.2]; rfl)
theorem cut_tie (t : Tie) : cutV (tieV t) none (some 2) = [.int t.1, .int t.2.1] := rfl
theorem G_law_odd (T : Txt K mg a) : FnOk P w K mg base CX0 2 a.f_law_odd a.d_law_odd ["web", "some"] sp_law_odd := by
  have G_law_ties : FnOk P w K mg base CX0 1 a.f_law_ties a.d_law_ties ["some"] sp_law_ties := G_law_ties T
  refine T.F_law_odd.ok sc_law_odd (fun vs H Q E h => ?_) (fun cdv A outer s H vs Q E hr h => ?_)
  · obtain ⟨w, p, ts, m, rfl, _⟩ := h
    rfl
  · obtain ⟨wb, p, ts, m, rfl, hw, W, hm, q⟩ := h
    refine ⟨_, (@pss_cons _ _ _ _ _ (@ps_set _ _ 2 _ _ _ _ sc_law_odd.nd rfl (Or.inr rfl) (@pe_op _ _ _ _ _ _ _ _ op_rep (@pe_lst _ _ _ _ (@pa_cons _ _ _ _ _ pe_int pa_nil (by rfl))) (@pe_ix _ _ _ _ _ _ _ (ixT K) (pv 0) pe_int (fun _ _ => rfl))) (by rfl) (by first | exact .inl rfl | exact .inr rfl | assumption)) (@pss_cons _ _ _ _ _ (@ps_for _ _ _ _ _ _ _ _ PassesOwn.never rfl (@piL _ _ _ _ K (@pe_call _ _ _ _ _ _ _ _ _ _ _ _ _ _ _ _ G_law_ties (hr.mono (by decide)) (by rfl) T.m_law_ties T.k_law_ties T.b_law_ties .nil pass0 (@pa_cons _ _ _ _ _ (pv 1) pa_nil (by rfl)) (by decide) (by rfl) (by rfl)) (by rfl)) (pg_name (i := 3) sc_law_odd.nd rfl (Or.inl rfl)) (@pss_one _ _ _ (@ps_for _ _ _ _ _ _ _ _ PassesOwn.never rfl (@piT _ _ _ _ K (@pe_slice _ _ _ _ _ _ _ _ _ _ (slT K) (@pe_ix _ _ _ _ _ _ _ (ixT K) (@pe_ix _ _ _ _ _ _ _ (ixT K) (pv 0) pe_int (fun _ _ => rfl)) (pv 3) (fun _ _ => rfl)) po_none (@po_some _ _ _ pe_int)) (by rfl)) (pg_name (i := 4) sc_law_odd.nd rfl (Or.inl rfl)) (@pss_one _ _ _ (@ps_asg _ _ _ _ _ _ (@pe_op _ _ _ _ _ _ _ _ op_add (@pe_ix _ _ _ _ _ _ _ (ixL K) (pv 2) (pv 4) (fun _ _ => rfl)) pe_int) (@pg_sub _ _ _ _ _ _ _ (pv 2) (pv 4) set_list (by intro _; rfl)) (by rfl) (by rfl) (by rfl))) (by intro _; rfl))) (by intro _; rfl)) (@pss_one _ _ _ (@ps_ret _ _ _ _ (@pe_comp _ _ _ _ _ _ _ ["point"] ["ends"] [2] _ _ _ _ (compText_of (defScope s_law_odd) ["web", "some", "ends", "tie", "point"]) rfl (@pi_range1 _ _ _ _ _ _ (by rfl) T.n_range (@pa_cons _ _ _ _ _ (@pe_ix _ _ _ _ _ _ _ (ixT K) (pv 0) pe_int (fun _ _ => rfl)) pa_nil (by rfl)) (by rfl)) (fun _ _ _ _ => (pg_name (i := 0) (show (["point", "ends"] : List Str).Nodup by decide +kernel) rfl (Or.inl rfl))) (fun _ _ _ _ => (pts_one (pt_cmpR op_eq (pe_op op_mod (pe_ix (ixL K) (pv 1) (pv 0) (fun _ _ => rfl)) pe_int) pe_int (nomark _)))) (fun _ _ _ _ => (pv 0)) (by intro _; rfl)))))), ?_⟩
    refine hd_law_odd ?_
    intro zz0 zz1 zz2 zz3
    obtain ⟨b, xs, h1, h2, h3⟩ := id hw.ex
    have wp := W.pts
    have wl := W.len
    have hxl := h3.length
    refine ⟨dl rfl, fun l0 hl0 => ?_⟩
    have s0 : Same H (upd H l0 (.lst [.int 0])) := Same.new hl0
    refine (exq rfl (ixq (SqT.of (s0 _ _ h1)) (atI_nat (j := 0) rfl) ⟨l0, (p : Int), exq rfl ⟨rfl, upd_same, by (first | lia | omega), by (first | lia | omega), (by rw [Int.toNat_natCast]; show 1 * p ≤ sizeLine; exact dl (Nat.ble_eq.mpr (by (first | lia | omega)))), fun e he => ?_⟩⟩))
    have s1 := s0.trans (Same.new (o := .lst (List.replicate (p : Int).toNat [V.int 0]).flatten) he)
    have he1 : upd (upd H l0 (.lst [.int 0])) e (.lst (List.replicate (p : Int).toNat [V.int 0]).flatten) e = some (.lst (intsV (List.replicate p 0))) := by
      rw [upd_same, Int.toNat_natCast, rep_zero]
    generalize upd (upd H l0 (.lst [.int 0])) e (.lst (List.replicate (p : Int).toNat [V.int 0]).flatten) = H1 at s1 he1
    have heH : H e = none := s0.free he
    have hb24 : Builtin.Int.intBits (m : Int) ≤ ts.length := bits_le hm
    refine (exq rfl ⟨m, rfl, by (first | lia | omega), fun L H2 hLn s2 hL => ⟨L, rfl, ⟨_, SqL.of hL⟩, ?_⟩⟩)
    have s12 := s1.trans s2
    have heL : e ≠ L := ne_of_none he1 hLn
    have hwe : wb ≠ e := ne_of_none h1 heH
    have hbe : b ≠ e := ne_of_none h2 heH
    refine for_list (K := K) (a := L) (xs := natsV (tiesOf (m : Int))) (fun i σ H3 => ∃ v3 v4, σ = [some (.ref wb), some (.int (m : Int)), some (.ref e), v3, v4] ∧ (∀ x o, H2 x = some o → x ≠ e → H3 x = some o) ∧ H3 e = some (.lst (intsV (((tiesOf (m : Int)).take i).foldl (Ring.step ts) (List.replicate p 0)))))
      ⟨none, none, rfl, fun _ _ z _ => z, s2 _ _ he1⟩ (fun i σ H3 _ ⟨_, _, _, z, _⟩ => SqL.of (z _ _ hL (Ne.symm heL))) ?_ ?_
    · rintro i y σ H3 hi ⟨v3, v4, rfl, z3, he3⟩
      obtain ⟨k, hk, rfl⟩ := natsV_get hi
      have hkl : k < ts.length := ties_lt hm (List.mem_of_getElem? hk)
      have hkx : k < xs.length := by (first | lia | omega)
      obtain ⟨t, ht, c, hc, hct⟩ := Paired.getP h3 (i := k) (x := xs[k]) (by simp [hkx])
      have hce : c ≠ e := ne_of_none hct heH
      obtain ⟨a0, a1, b0, b1⟩ := W.inw.ends t (List.mem_of_getElem? ht)
      refine (exq rfl (ixq (SqT.of (z3 _ _ (s12 _ _ h1) hwe)) (atI_nat (j := 1) rfl) (exq rfl (ixq (v := xs[k]) (SqT.of (z3 _ _ (s12 _ _ h2) hbe)) (atI_nat (j := k) (by simp [hkx])) (?_)))))
      rw [hc]
      refine (exq rfl ⟨c, _, rfl, SqT.of (z3 _ _ (s12 _ _ hct) hce), (fun z => absurd (show HT.sIx 3 3 (some 2) = 3 from z.2) (by decide)), fun u hu => ?_⟩)
      rw [cut_tie]
      have s4 : Same H3 (upd H3 u (.tup [.int t.1, .int t.2.1])) := Same.new hu
      have hu4 : upd H3 u (.tup [.int t.1, .int t.2.1]) u = some (.tup [.int t.1, .int t.2.1]) := upd_same
      have hue : u ≠ e := Ne.symm (ne_of_none he3 hu)
      generalize upd H3 u (.tup [.int t.1, .int t.2.1]) = H4 at s4 hu4
      generalize hE : ((tiesOf (m : Int)).take i).foldl (Ring.step ts) (List.replicate p 0) = EE at he3
      have hEl : EE.length = p := by rw [← hE, fold_len, List.length_replicate]
      refine ⟨u, rfl, ⟨_, SqT.of hu4⟩, for_tup (K := K) (a := u) (xs := [.int t.1, .int t.2.1]) (fun j σ H5 => ∃ v4, σ = [some (.ref wb), some (.int (m : Int)), some (.ref e), some (.int (k : Int)), v4] ∧ (∀ x o, H4 x = some o → x ≠ e → H5 x = some o) ∧ H5 e = some (.lst (intsV (([t.1, t.2.1].take j).foldl Ring.bump EE))))
        ⟨v4, rfl, fun _ _ z _ => z, s4 _ _ he3⟩ (fun j σ H5 _ ⟨_, _, z, _⟩ => SqT.of (z _ _ hu4 hue)) ?_ ?_⟩
      · rintro j y σ H5 hj ⟨v, rfl, z5, he5⟩
        obtain ⟨z, rfl, hz0, hz1, hzj⟩ : ∃ z : Nat, y = V.int (z : Int) ∧ z < p ∧ j < 2 ∧ [t.1, t.2.1][j]? = some (z : Int) := by
          match j, hj with
          | 0, hj => exact ⟨t.1.toNat, by rw [Int.toNat_of_nonneg a0]; exact (Option.some.inj hj).symm, by (first | lia | omega), by decide, by rw [Int.toNat_of_nonneg a0]; rfl⟩
          | 1, hj => exact ⟨t.2.1.toNat, by rw [Int.toNat_of_nonneg b0]; exact (Option.some.inj hj).symm, by (first | lia | omega), by decide, by rw [Int.toNat_of_nonneg b0]; rfl⟩
        generalize hF : ([t.1, t.2.1].take j).foldl Ring.bump EE = FF at he5
        have hFl : FF.length = p := by
          rw [← hF]
          match j, hz1 with
          | 0, _ => exact hEl
          | 1, _ => show (Ring.bump EE t.1).length = p; rw [bump_len, hEl]
        refine (exq rfl (exq rfl (ixl (SqL.of he5) (atI_nat (j := z) (intsV_get (by (first | lia | omega)))) (ijq (exq rfl (exq rfl ⟨e, _, _, z, rfl, rfl, he5, ixN_nat (by rw [intsV, List.length_map]; (first | lia | omega)), ?_⟩))))))
        rw [intsV_bump]
        refine (exq rfl ⟨fun x o q hx => by rw [upd_ne hx]; exact z5 x o q hx, ?_⟩)
        rw [upd_same, List.take_add_one, hzj, List.foldl_append, hF]
        rfl
      · rintro σ H5 ⟨v, rfl, z5, he5⟩
        refine ⟨_, _, rfl, fun x o q hx => z5 x o (s4 _ _ (z3 x o q hx)) hx, ?_⟩
        rw [he5, List.take_add_one, hk, List.foldl_append, hE]
        show _ = some (HO.lst (intsV (Ring.step ts EE k)))
        unfold Ring.step
        rw [ht]
        rfl
    · rintro σ H3 ⟨v3, v4, rfl, z3, he3⟩
      have s13 : Same H H3 := fun x o z => z3 x o (s12 x o z) (ne_of_none z heH)
      have hE : H3 e = some (.lst (intsV (endsOf p ts (m : Int)))) := by
        rw [he3, natsV_len, List.take_length]
        rfl
      have hEl : (endsOf p ts (m : Int)).length = p := by rw [ends_ties hm, foldT_len, List.length_replicate]
      refine (exq rfl (ixq (SqT.of (s13 _ _ h1)) (atI_nat (j := 0) rfl) (exq rfl ⟨(by (first | lia | omega)), (by (first | lia | omega)), fun D hD => comp_range (lo := 0) (m := p) (Pick (fun i => decide ((endsOf p ts (m : Int)).getD i 0 % 2 = 1)) H3 D) (.start hD) (fun i acc H4 _ p => p.len) (dl (Nat.ble_eq.mpr (by (first | lia | omega)))) ?_ ?_⟩)))
      · intro i acc H4 hi pk
        rw [Int.zero_add]
        refine ⟨rfl, exq rfl (exq rfl (ixl (SqL.of (pk.1 _ _ hE)) (atI_nat (j := i) (intsV_get (by rw [hEl]; exact hi))) (ijq ⟨(modC rfl), rfl, exq rfl (?_)⟩)))⟩
        rw [dec_one]
        cases hb : decide ((endsOf p ts (m : Int)).getD i 0 % 2 = 1) with
        | true => exact (exq rfl (pk.yes hD (Same.refl _) hb))
        | false => exact pk.no (Same.refl _) hb
      · intro acc H4 pk
        exact q D H4 (s13.free hD) (s13.trans pk.1) (by rw [pk.2.1, pk.2.2]; rfl)
end
def ringsL (p : Nat) (ts : List Tie) : List Nat := (evensOf p ts).filter fun m => decide ((evensOf p ts).filter (fun k => decide (k &&& m = k)) = [m])
def sp_law_rings : Sp := fun vs H Q _ => ∃ w p ts, ∃ g : GoodWeb p ts, vs = [.ref w] ∧ WebAt H w p ts ∧ ts.length ≤ 8 ∧ ∀ D H', H D = none → Same H H' → H' D = some (.lst (natsV (ringsL p ts))) → Q (.ref D) H'
theorem ringsL_mem {p : Nat} {ts : List Tie} (g : GoodWeb p ts) {m : Nat} : m ∈ ringsL p ts ↔ m < 2 ^ ts.length ∧ (netOf p ts g).Ring m := by
  unfold ringsL
  rw [List.mem_filter, decide_eq_true_eq]
  constructor
  · rintro ⟨h1, h2⟩
    have hm : m < 2 ^ ts.length := by
      unfold evensOf at h1
      exact List.mem_range.mp (List.mem_filter.mp h1).1
    exact ⟨hm, (inside_iff g hm).mp h2⟩
  · rintro ⟨hm, rg⟩
    have h2 := (inside_iff g hm).mpr rg
    refine ⟨?_, h2⟩
    have : m ∈ (evensOf p ts).filter (fun k => decide (k &&& m = k)) := by rw [h2]; exact List.mem_cons_self
    exact (List.mem_filter.mp this).1
theorem evens_len {p : Nat} {ts : List Tie} (h : ts.length ≤ 8) : (evensOf p ts).length ≤ 256 := by
  unfold evensOf
  refine Nat.le_trans (List.length_filter_le _ _) ?_
  rw [List.length_range]
  exact Nat.le_trans (Nat.pow_le_pow_right (n := 2) (by decide) h) (by decide)
section
variable {P : Program} {w : World} {K : PySem.W.Frag} {mg : Str → Option Value} {base : Heap} {a : Adr}
theorem G_law_rings (T : Txt K mg a) : FnOk P w K mg base CX0 3 a.f_law_rings a.d_law_rings ["web"] sp_law_rings := by
  have G_law_odd : FnOk P w K mg base CX0 2 a.f_law_odd a.d_law_odd ["web", "some"] sp_law_odd := G_law_odd T
  refine T.F_law_rings.ok sc_law_rings (fun vs H Q E h => ?_) (fun cdv A outer s H vs Q E hr h => ?_)
  · obtain ⟨w, p, ts, g, rfl, _⟩ := h
    rfl
  · obtain ⟨wb, p, ts, g, rfl, hw, hn, q⟩ := h
    refine ⟨_, (@pss_cons _ _ _ _ _ (@ps_set _ _ 1 _ _ _ _ sc_law_rings.nd rfl (Or.inr rfl) (@pe_comp _ _ _ _ _ _ _ ["some"] ["web"] [0] _ _ _ _ (compText_of (defScope s_law_rings) ["web", "evens"]) rfl (@pi_range2 _ _ _ _ _ _ _ (by rfl) T.n_range (@pa_cons _ _ _ _ _ pe_int (@pa_cons _ _ _ _ _ (@pe_op _ _ _ _ _ _ _ _ op_shl pe_int (@pe_callB _ _ _ _ _ _ _ _ _ (lenK K) (by rfl) T.n_len PySem.boot_len (@pa_cons _ _ _ _ _ (@pe_ix _ _ _ _ _ _ _ (ixT K) (pv 0) pe_int (fun _ _ => rfl)) pa_nil (by rfl)) (by decide) (by decide) (by rfl) (by rfl))) pa_nil (by rfl)) (by rfl)) (by rfl) (by rfl)) (fun _ _ _ _ => (pg_name (i := 0) (show (["some", "web"] : List Str).Nodup by decide +kernel) rfl (Or.inl rfl))) (fun _ _ _ _ => (pts_one (pt_cmpR (op_eqK K hr.units) (pe_call G_law_odd (hr.mono (by decide)) (by rfl) T.m_law_odd T.k_law_odd T.b_law_odd .nil pass0 (pa_cons (pv 1) (pa_cons (pv 0) pa_nil))) (pe_lst pa_nil) (nomark _)))) (fun _ _ _ _ => (pv 0)) (by intro _; rfl)) (by rfl) (by first | exact .inl rfl | exact .inr rfl | assumption)) (@pss_one _ _ _ (@ps_ret _ _ _ _ (@pe_compC _ _ _ _ _ _ "some" _ ["some"] ["evens"] [1] _ _ _ _ (compTextC_of (defScope s_law_rings) ["web", "evens"]) rfl (@piL _ _ _ _ K (pv 1) (by rfl)) (fun _ _ _ _ _ => (pg_name (i := 0) (show (["some", "evens"] : List Str).Nodup by decide +kernel) rfl (Or.inr rfl))) (fun _ _ _ _ _ => (pts_one (pt_cmpR (op_eqK K hr.units) (pe_comp (own := ["other"]) (frees := ["some"]) (js := [0]) (compText_of (relabelS _ (defScope s_law_rings)) ["some", "evens"]) rfl (piL K (pv 1)) (fun _ _ _ _ => (pg_name (i := 0) (show (["other", "some"] : List Str).Nodup by decide +kernel) rfl (Or.inl rfl))) (fun _ _ _ _ => (pts_one (pt_cmpR op_eq (pe_op op_and (pv 0) (pv 1)) (pv 0) (nomark _)))) (fun _ _ _ _ => (pv 0))) (pe_lst (pa_cons (pv 0) pa_nil)) (nomark _)))) (fun _ _ _ _ _ => (pv 0)) (by intro _; rfl))))), ?_⟩
    refine hd_law_rings ?_
    intro zz0
    obtain ⟨bt, xs, h1, h2, h3⟩ := id hw.ex
    have hxl := h3.length
    have W := g.web
    have pp : (0 : Int) < 2 ^ ts.length := Int.pow_pos (by decide)
    have h2n : ((2 : Int) ^ ts.length) = ((2 ^ ts.length : Nat) : Int) := by simp
    have epw : (1 : Int) * 2 ^ ((xs.length : Nat) : Int).toNat = ((2 ^ ts.length : Nat) : Int) := by rw [Int.toNat_natCast, hxl, Int.one_mul]; exact h2n
    have hp256 : 2 ^ ts.length ≤ 256 := Nat.le_trans (Nat.pow_le_pow_right (n := 2) (by decide) hn) (by decide)
    have hel := evens_len (p := p) hn
    refine (exq rfl (ixq (SqT.of h1) (atI_nat (j := 1) rfl) (lnq rfl (.inr (SqT.of h2)) (ijq ⟨⟨by (first | lia | omega), by (first | lia | omega), by decide⟩, (1 : Int), ((2 ^ ts.length : Nat) : Int), congrArg (fun z => [V.int 1, V.int z]) epw, ⟨by decide, by decide, by (first | lia | omega), by (first | lia | omega)⟩, fun D hD => comp_range (lo := 1) (m := (((2 ^ ts.length : Nat) : Int) - 1).toNat) (fun i acc H2 => Pick (fun k => decide (0 < k) && decide (oddOf p ts (k : Int) = [])) H D (i + 1) acc H2) ?_ ?_ ?_ ?_ ?_⟩))))
    · exact ⟨Same.new hD, upd_same, rfl⟩
    · intro i acc H2 _ pk
      refine ⟨pk.2.1, ?_⟩
      rw [pk.2.2, natsV_len]
      exact pick1_len (by rfl) i
    · exact Nat.le_of_lt (small1000 (by (first | lia | omega)))
    · intro i acc H2 hi pk
      have e1 : (1 : Int) + (i : Int) = ((i + 1 : Nat) : Int) := by (first | lia | omega)
      rw [e1]
      refine ⟨rfl, exq rfl (exq rfl ⟨wb, p, ts, i + 1, rfl, hw.same pk.1, W, by (first | lia | omega), fun D2 H3 hn3 s3 hD3 => ⟨dl rfl, fun l hl => ⟨_, _, .lst (SqL.of (Same.new hl _ _ hD3)) (nats_dat _), .lst (SqL.of upd_same) .nil, shaped_nats _, rfl, exq rfl (?_)⟩⟩⟩)⟩
      rw [eqv_nil]
      have s4 := s3.trans (Same.new (o := .lst []) hl)
      cases hb : decide (oddOf p ts ((i + 1 : Nat) : Int) = []) with
      | true => exact (exq rfl (pk.yes hD s4 (by rw [hb]; simp)))
      | false => exact pk.no s4 (by rw [hb]; simp)
    intro acc H2 pk
    have hD2 : H2 D = some (.lst (natsV (evensOf p ts))) := by
      rw [pk.2.1, pk.2.2]
      have e : (((2 ^ ts.length : Nat) : Int) - 1).toNat + 1 = 2 ^ ts.length := by have := Nat.two_pow_pos ts.length; (first | lia | omega)
      rw [e]
      rfl
    have s2 := pk.1
    refine (exq rfl ⟨D, rfl, ⟨_, SqL.of hD2⟩, fun R hR => comp_list (xs := natsV (evensOf p ts)) (Filt (fun m => decide ((evensOf p ts).filter (fun k => decide (k &&& m = k)) = [m])) (evensOf p ts) H2 R) (.start hR) (fun i ac H3 _ f => ⟨SqL.of (f.1 _ _ hD2), f.len⟩) (Nat.le_of_lt (small1000 (by rw [natsV_len]; (first | lia | omega)))) ?_ ?_⟩)
    · intro i x ac H3 hx f
      obtain ⟨m, hm, rfl⟩ := natsV_get hx
      have hD3 := f.1 _ _ hD2
      refine ⟨rfl, exq rfl ⟨D, rfl, ⟨_, SqL.of hD3⟩, fun C hC => comp_list (xs := natsV (evensOf p ts)) (Filt (fun k => decide (k &&& m = k)) (evensOf p ts) H3 C) (.start hC) (fun j ad H4 _ f2 => ⟨SqL.of (f2.1 _ _ hD3), f2.len⟩) (Nat.le_of_lt (small1000 (by rw [natsV_len]; (first | lia | omega)))) ?_ ?_⟩⟩
      · intro j y ad H4 hy f2
        obtain ⟨k, hk, rfl⟩ := natsV_get hy
        refine ⟨rfl, exq rfl (exq rfl (ijq (exq rfl ⟨rfl, exq rfl (?_)⟩)))⟩
        have e : decide (V.int (Builtin.bitAnd (k : Int) (m : Int)) = V.int (k : Int)) = decide (k &&& m = k) := decide_eq_decide.mpr (by
          rw [and_int]
          exact ⟨fun z => by have := V.int.inj z; (first | lia | omega), fun z => by rw [z]⟩)
        dsimp only
        rw [e]
        cases hb : decide (k &&& m = k) with
        | true => exact (exq rfl (f2.yes hC (Same.refl _) hk hb))
        | false => exact f2.no (Same.refl _) hk hb
      · intro ad H4 f2
        rw [natsV_len] at f2
        have hC4 := f2.fin
        refine (exq rfl ⟨dl rfl, fun l hl => ⟨_, _, .lst (SqL.of (Same.new hl _ _ hC4)) (nats_dat _), .lst (SqL.of upd_same) (nats_dat [m]), shaped_nats _, shaped_nats _, _, rfl, ?_⟩⟩)
        rw [eqv_lists]
        have s4 := f2.1.trans (Same.new (o := .lst [.int (m : Int)]) hl)
        cases hb : decide ((evensOf p ts).filter (fun k => decide (k &&& m = k)) = [m]) with
        | true => exact (exq rfl (f.yes hR s4 hm hb))
        | false => exact f.no s4 hm hb
    · intro ac H3 f
      rw [natsV_len] at f
      exact q R H3 (s2.free hR) (s2.trans f.1) f.fin
end
def sp_law_sums : Sp := fun vs H Q _ => ∃ (r : Addr) (rs : List Nat), vs = [.ref r] ∧ H r = some (.lst (natsV rs)) ∧ rs.length ≤ 8 ∧ ∀ D H', H D = none → Same H H' → H' D = some (.lst (natsV (RM.sumsL rs))) → Q (.ref D) H'
def sp_law_is_base : Sp := fun vs H Q _ => ∃ (r : Addr) (rs : List Nat) (b : Bool), vs = [.ref r] ∧ H r = some (.lst (natsV rs)) ∧ rs.length ≤ 8 ∧ (b = true ↔ RM.Ind rs) ∧ ∀ H', Same H H' → Q (.bl b) H'
theorem sums_256 {rs : List Nat} (h : rs.length ≤ 8) : (RM.sumsL rs).length ≤ 256 := by
  rw [RM.sums_len]
  exact Nat.le_trans (Nat.pow_le_pow_right (n := 2) (by decide) h) (by decide)
theorem natsV_app (l r : List Nat) : natsV (l ++ r) = natsV l ++ natsV r := by
  unfold natsV
  rw [List.map_append]
theorem nats_snoc (l : List Nat) (x : Nat) : natsV l ++ [.int (x : Int)] = natsV (l ++ [x]) := (natsV_app l [x]).symm
theorem moved_sum {row : List Nat} {n m : Nat} (hr : row.Perm (List.range n)) (hm : m < 2 ^ n) : ((tiesOf (m : Int)).map fun k => ((2 ^ row.idxOf k : Nat) : Int)).sum = ((RM.turnS n (fun i => row.getD i 0) m : Nat) : Int) := by
  have rl : row.length = n := by rw [hr.length_eq, List.length_range]
  have nd : row.Nodup := hr.nodup_iff.mpr List.nodup_range
  have mem : ∀ k, k < n → k ∈ row := fun k hk => hr.mem_iff.mpr (List.mem_range.mpr hk)
  have e := sum_cast ((tiesOf (m : Int)).map fun k => row.idxOf k)
  rw [List.map_map] at e
  rw [show (fun k => ((2 ^ row.idxOf k : Nat) : Int)) = (fun k => ((2 ^ k : Nat) : Int)) ∘ fun k => row.idxOf k from rfl, e]
  unfold RM.turnS
  rw [← sum_mask]
  congr 1
  refine List.Perm.sum_nat (List.Perm.map _ ?_)
  rw [ties_nat hm]
  refine (List.perm_ext_iff_of_nodup ?_ (List.Pairwise.filter _ List.nodup_range)).mpr fun i => ?_
  · refine List.pairwise_map.mpr (List.Pairwise.imp_of_mem (fun {i j} hi hj hne e => hne ?_) (List.Pairwise.filter _ List.nodup_range))
    have hi := mem i (List.mem_range.mp (List.mem_filter.mp hi).1)
    have hj := mem j (List.mem_range.mp (List.mem_filter.mp hj).1)
    have e1 := List.getElem_idxOf (List.idxOf_lt_length_of_mem hi)
    have e2 := List.getElem_idxOf (List.idxOf_lt_length_of_mem hj)
    rw [← e1, ← e2]
    congr 1
  · rw [List.mem_map, List.mem_filter, List.mem_range]
    constructor
    · rintro ⟨k, hk, rfl⟩
      obtain ⟨h1, h2⟩ := List.mem_filter.mp hk
      have hk := mem k (List.mem_range.mp h1)
      have hl := List.idxOf_lt_length_of_mem hk
      refine ⟨by (first | lia | omega), ?_⟩
      dsimp only
      rw [List.getD_eq_getElem?_getD, List.getElem?_eq_getElem hl, List.getElem_idxOf hl]
      exact h2
    · rintro ⟨hi, hb⟩
      have hi : i < row.length := by (first | lia | omega)
      dsimp only at hb
      rw [List.getD_eq_getElem?_getD, List.getElem?_eq_getElem hi] at hb
      refine ⟨row[i], List.mem_filter.mpr ⟨hr.mem_iff.mp (List.getElem_mem hi), hb⟩, List.Nodup.idxOf_getElem nd i hi⟩
def sp_law_moved : Sp := fun vs H Q _ => ∃ (w : V) (o : Addr) (m n : Nat) (row : List Nat), vs = [w, .int (m : Int), .ref o] ∧ H o = some (.lst (natsV row)) ∧ row.Perm (List.range n) ∧ n ≤ 24 ∧ m < 2 ^ n ∧ ∀ H', Same H H' → Q (.int ((RM.turnS n (fun i => row.getD i 0) m : Nat) : Int)) H'
section
variable {P : Program} {w : World} {K : PySem.W.Frag} {mg : Str → Option Value} {base : Heap} {a : Adr}
theorem G_law_sums (T : Txt K mg a) : FnOk P w K mg base CX0 1 a.f_law_sums a.d_law_sums ["rings"] sp_law_sums := by
  refine T.F_law_sums.ok sc_law_sums (fun vs H Q E h => ?_) (fun cdv A outer s H vs Q E hr h => ?_)
  · obtain ⟨r, rs, rfl, _⟩ := h
    rfl
  · obtain ⟨r, rs, rfl, hR, hrl, q⟩ := h
    refine ⟨_, (@pss_cons _ _ _ _ _ (@ps_set _ _ 1 _ _ _ _ sc_law_sums.nd rfl (Or.inl rfl) (@pe_lst _ _ _ _ (@pa_cons _ _ _ _ _ pe_int pa_nil (by rfl))) (by rfl) (by first | exact .inl rfl | exact .inr rfl | assumption)) (@pss_cons _ _ _ _ _ (@ps_for _ _ _ _ _ _ _ _ PassesOwn.never rfl (@piL _ _ _ _ K (pv 0) (by rfl)) (pg_name (i := 2) sc_law_sums.nd rfl (Or.inr rfl)) (@pss_one _ _ _ (@ps_expr _ _ _ _ (@bmK _ _ _ _ _ _ K (@pe_bm _ _ _ _ _ _ _ _ _ _ _ _ PySem.F.plainAttrs_list PySem.F.slot_list_extend PySem.F.type_list_extend mt_extend (pv 1) (@pa_cons _ _ _ _ _ (@pe_comp _ _ _ _ _ _ _ ["some"] ["ring"] [2] _ _ _ _ (compText_of (defScope s_law_sums) ["rings", "sums", "ring"]) rfl (@piL _ _ _ _ K (pv 1) (by rfl)) (fun _ _ _ _ => (pg_name (i := 0) (show (["some", "ring"] : List Str).Nodup by decide +kernel) rfl (Or.inl rfl))) (fun _ _ _ _ => pts_nil) (fun _ _ _ _ => (pe_op op_xor (pv 1) (pv 0))) (by intro _; rfl)) pa_nil (by rfl)) (by rfl) (by rfl) (by rfl) (by rfl) (by rfl)) (by rfl)) (by rfl))) (by intro _; rfl)) (@pss_one _ _ _ (@ps_ret _ _ _ _ (pv 1))))), ?_⟩
    refine hd_law_sums ?_
    intro zz0 zz1 zz2
    refine ⟨dl rfl, fun D hD => ?_⟩
    have s1 : Same H (upd H D (.lst [.int 0])) := Same.new hD
    have hD1 : upd H D (.lst [.int 0]) D = some (.lst (natsV (RM.sumsL []))) := upd_same
    generalize upd H D (.lst [.int 0]) = H1 at s1 hD1
    refine (exq rfl ⟨r, rfl, ⟨_, SqL.of (s1 _ _ hR)⟩, for_list' (K := K) (a := r) (xs := natsV rs) (fun i σ H2 => ∃ v2, σ = [some (.ref r), some (.ref D), v2] ∧ Same H H2 ∧ H2 D = some (.lst (natsV (RM.sumsL (rs.take i))))) ⟨none, rfl, s1, by rw [List.take_zero]; exact hD1⟩ (fun i σ H2 _ ⟨_, _, z, _⟩ => SqL.of (z _ _ hR)) ?_ ?_⟩)
    · rintro i x D' σ H2 hx ⟨v2, rfl, s2, hD2⟩
      obtain ⟨m, hm, rfl⟩ := natsV_get hx
      have hsl := sums_256 (rs := rs.take i) (by rw [List.length_take]; (first | lia | omega))
      refine (exq rfl ⟨.inl ⟨rfl, _, SqL.of hD2⟩, exq rfl ⟨D, rfl, ⟨_, SqL.of hD2⟩, fun C hC => comp_list (xs := natsV (RM.sumsL (rs.take i))) (fun j ad H3 => Same H2 H3 ∧ H3 C = some (.lst ad) ∧ ad = natsV (((RM.sumsL (rs.take i)).take j).map fun s => m ^^^ s)) ⟨Same.new hC, upd_same, by rw [List.take_zero]; rfl⟩ (fun j ad H3 _ ⟨f1, f2, e⟩ => ⟨SqL.of (f1 _ _ hD2), f2, by rw [e, natsV_len, List.length_map]; exact List.length_take_le _ _⟩) (Nat.le_of_lt (small1000 (by rw [natsV_len]; (first | lia | omega)))) ?_ ?_⟩⟩)
      · rintro j y ad H3 hy ⟨f1, f2, rfl⟩
        obtain ⟨k, hk, rfl⟩ := natsV_get hy
        refine ⟨rfl, exq rfl (exq rfl (ijq ⟨f2, f1.put hC, upd_same, ?_⟩))⟩
        dsimp only
        rw [xor_int, nats_snoc, List.take_add_one, hk, List.map_append]
        rfl
      · rintro ad H3 ⟨f1, f2, rfl⟩
        rw [natsV_len, List.take_length] at f2
        refine ⟨D, C, _, _, rfl, rfl, f1 _ _ hD2, f2, Nat.le_of_lt (small1000 (by rw [natsV_len, natsV_len, List.length_map]; (first | lia | omega))), exq rfl ⟨(s2.trans f1).put hD, ?_⟩⟩
        rw [upd_same, List.take_add_one, hm, ← natsV_app]
        show some (HO.lst (natsV _)) = some (HO.lst (natsV (RM.sumsL (rs.take i ++ [m]))))
        rw [RM.sums_snoc]
    · rintro σ H2 ⟨v2, rfl, s2, hD2⟩
      rw [natsV_len, List.take_length] at hD2
      exact (exq rfl (q D H2 hD s2 hD2))
theorem G_law_is_base (T : Txt K mg a) : FnOk P w K mg base CX0 2 a.f_law_is_base a.d_law_is_base ["rings"] sp_law_is_base := by
  have G_law_sums : FnOk P w K mg base CX0 1 a.f_law_sums a.d_law_sums ["rings"] sp_law_sums := G_law_sums T
  refine T.F_law_is_base.ok sc_law_is_base (fun vs H Q E h => ?_) (fun cdv A outer s H vs Q E hr h => ?_)
  · obtain ⟨r, rs, b, rfl, _⟩ := h
    rfl
  · obtain ⟨r, rs, b, rfl, hR, hrl, hb, q⟩ := h
    refine ⟨_, (@pss_one _ _ _ (@ps_ret _ _ _ _ (@pe_cmpR _ _ _ _ _ _ _ _ op_eq (@pe_callB _ _ _ _ _ _ _ _ _ (lenK K) (by rfl) T.n_len PySem.boot_len (@pa_cons _ _ _ _ _ (@pe_comp _ _ _ _ _ _ _ ["some"] [] [] _ _ _ _ (compText_of (defScope s_law_is_base) ["rings"]) rfl (@piL _ _ _ _ K (@pe_call _ _ _ _ _ _ _ _ _ _ _ _ _ _ _ _ G_law_sums (hr.mono (by decide)) (by rfl) T.m_law_sums T.k_law_sums T.b_law_sums .nil pass0 (@pa_cons _ _ _ _ _ (pv 0) pa_nil (by rfl)) (by decide) (by rfl) (by rfl)) (by rfl)) (fun _ _ _ _ => (pg_name (i := 0) (show (["some"] : List Str).Nodup by decide +kernel) rfl (Or.inl rfl))) (fun _ _ _ _ => (pts_one (pt_cmpR op_eq (pv 0) pe_int (nomark _)))) (fun _ _ _ _ => (pv 0)) (by intro _; rfl)) pa_nil (by rfl)) (by decide) (by decide) (by rfl) (by rfl)) pe_int (nomark _)))), ?_⟩
    have hsl := sums_256 hrl
    refine (exq rfl ⟨r, rs, rfl, hR, hrl, fun D H1 hD s1 hD1 => ⟨D, rfl, ⟨_, SqL.of hD1⟩, fun C hC => comp_list (xs := natsV (RM.sumsL rs)) (Filt (fun s => decide (s = 0)) (RM.sumsL rs) H1 C) (.start hC) (fun i acc H2 _ f => ⟨SqL.of (f.1 _ _ hD1), f.len⟩) (Nat.le_of_lt (small1000 (by rw [natsV_len]; (first | lia | omega)))) ?_ ?_⟩⟩)
    · intro i y acc H2 hy f
      obtain ⟨t, ht, rfl⟩ := natsV_get hy
      refine ⟨rfl, exq rfl ⟨rfl, exq rfl (?_)⟩⟩
      have e : decide (V.int ((t : Nat) : Int) = V.int 0) = decide (t = 0) := decide_eq_decide.mpr ⟨fun z => by have := V.int.inj z; (first | lia | omega), fun z => by rw [z]; rfl⟩
      rw [e]
      cases hb : decide (t = 0) with
      | true => exact (exq rfl (f.yes hC (Same.refl _) ht hb))
      | false => exact f.no (Same.refl _) ht hb
    · intro acc H2 f
      rw [natsV_len] at f
      have hC2 := f.fin
      refine (lnq rfl (.inl (SqL.of hC2)) ⟨rfl, ?_⟩)
      have e : decide (V.int (((natsV ((RM.sumsL rs).filter fun s => decide (s = 0))).length : Nat) : Int) = V.int 1) = b := by
        rw [natsV_len, Bool.eq_iff_iff, decide_eq_true_eq, hb, ← RM.sums_one]
        exact ⟨fun z => by have := V.int.inj z; (first | lia | omega), fun z => by rw [z]; rfl⟩
      dsimp only
      rw [e]
      exact q H2 (s1.trans f.1)
theorem G_law_moved (T : Txt K mg a) : FnOk P w K mg base CX0 2 a.f_law_moved a.d_law_moved ["web", "ring", "order"] sp_law_moved := by
  have G_law_ties : FnOk P w K mg base CX0 1 a.f_law_ties a.d_law_ties ["some"] sp_law_ties := G_law_ties T
  refine T.F_law_moved.ok sc_law_moved (fun vs H Q E h => ?_) (fun cdv A outer s H vs Q E hr h => ?_)
  · obtain ⟨wv, o, m, n, row, rfl, _⟩ := h
    rfl
  · obtain ⟨wv, o, m, n, row, rfl, hO, hp, hn, hm, q⟩ := h
    refine ⟨_, (@pss_one _ _ _ (@ps_ret _ _ _ _ (@pe_callB _ _ _ _ _ _ _ _ _ (sumK K rfl) (by rfl) T.n_sum PyProof.Rows.boot_sum (@pa_cons _ _ _ _ _ (@pe_comp _ _ _ _ _ _ _ ["tie"] ["order"] [2] _ _ _ _ (compText_of (defScope s_law_moved) ["web", "ring", "order"]) rfl (@piL _ _ _ _ K (@pe_call _ _ _ _ _ _ _ _ _ _ _ _ _ _ _ _ G_law_ties (hr.mono (by decide)) (by rfl) T.m_law_ties T.k_law_ties T.b_law_ties .nil pass0 (@pa_cons _ _ _ _ _ (pv 1) pa_nil (by rfl)) (by decide) (by rfl) (by rfl)) (by rfl)) (fun _ _ _ _ => (pg_name (i := 0) (show (["tie", "order"] : List Str).Nodup by decide +kernel) rfl (Or.inl rfl))) (fun _ _ _ _ => pts_nil) (fun _ _ _ _ => (pe_op op_shl pe_int (bmK K (pe_bm PySem.F.plainAttrs_list PySem.F.slot_list_index PySem.F.type_list_index mt_index (pv 1) (pa_cons (pv 0) pa_nil))))) (by intro _; rfl)) pa_nil (by rfl)) (by decide) (by decide) (by rfl) (by rfl)))), ?_⟩
    have rl : row.length = n := by rw [hp.length_eq, List.length_range]
    have nd : row.Nodup := hp.nodup_iff.mpr List.nodup_range
    have tl : (tiesOf (m : Int)).length ≤ 24 := by
      rw [ties_nat hm]
      exact Nat.le_trans (List.length_filter_le _ _) (by rw [List.length_range]; exact hn)
    refine (exq rfl ⟨m, rfl, Nat.le_trans (bits_le hm) (by (first | lia | omega)), fun D H1 hD s1 hD1 => ⟨D, rfl, ⟨_, SqL.of hD1⟩, fun C hC => comp_list (xs := natsV (tiesOf (m : Int))) (Mapl (fun k => ((2 ^ row.idxOf k : Nat) : Int)) (tiesOf (m : Int)) H1 C) (.start hC) (fun i acc H5 _ pm => ⟨SqL.of (pm.1 _ _ hD1), pm.len⟩) (by rw [natsV_len]; exact small24 tl) ?_ ?_⟩⟩)
    · intro i x acc H5 hx pm
      obtain ⟨k, hk, rfl⟩ := natsV_get hx
      have hkn : k < n := by
        have := List.mem_of_getElem? hk
        rw [ties_nat hm] at this
        exact List.mem_range.mp (List.mem_filter.mp this).1
      have hkr : k ∈ row := hp.mem_iff.mpr (List.mem_range.mpr hkn)
      have hil := List.idxOf_lt_length_of_mem hkr
      refine ⟨rfl, exq rfl ⟨.inl ⟨rfl, _, SqL.of ((s1.trans pm.1) _ _ hO)⟩, exq rfl ⟨o, natsV row, _, row.idxOf k, rfl, rfl, (s1.trans pm.1) _ _ hO, rfl, flat_nats _, by rw [natsV_len]; exact hil, fun j z hz hj => ?_, ?_⟩⟩⟩
      · obtain ⟨t, ht, rfl⟩ := natsV_get hz
        have htl := (List.getElem?_eq_some_iff.mp ht).1
        have e2 := (List.getElem?_eq_some_iff.mp ht).2
        show decide (((t : Nat) : Int) = ((k : Nat) : Int)) = decide (j = row.idxOf k)
        refine decide_eq_decide.mpr ⟨fun z => ?_, fun z => ?_⟩
        · have : t = k := by (first | lia | omega)
          rw [← this, ← e2, List.Nodup.idxOf_getElem nd j htl]
        · subst z
          rw [← e2, List.getElem_idxOf hil]
      · refine (ijq ⟨⟨by (first | lia | omega), by (first | lia | omega), by decide⟩, pm.next hC (Same.refl _) hk ?_⟩)
        show V.int (1 * 2 ^ (row.idxOf k : Int).toNat) = _
        rw [shl_int]
    · intro acc H5 pm
      rw [natsV_len] at pm
      refine ⟨C, _, rfl, SqL.of pm.fin, ?_⟩
      rw [moved_sum hp hm]
      exact q H5 (s1.trans pm.1)
end
theorem ways_wx (acc : List (Nat × Int)) {n k : Nat} (hk : k < n) : (waysL acc n).getD k 0 = RM.wx acc k := by
  have key : ∀ (acc : List (Nat × Int)) (l : List Int), k < l.length → (acc.foldl (fun l q => l.set q.1 q.2) l).getD k 0 = acc.foldl (fun z q => if q.1 = k then q.2 else z) (l.getD k 0) := fun acc => by
    induction acc with
    | nil => exact fun l _ => rfl
    | cons q acc ih =>
      intro l hl
      rw [List.foldl_cons, List.foldl_cons, ih _ (by rw [List.length_set]; exact hl)]
      congr 1
      rw [List.getD_eq_getElem?_getD, List.getD_eq_getElem?_getD]
      by_cases e : q.1 = k
      · subst e
        rw [if_pos rfl, List.getElem?_set_self hl]
        rfl
      · rw [if_neg e, List.getElem?_set_ne e]
  unfold waysL RM.wx
  rw [key acc _ (by rw [List.length_replicate]; exact hk), List.getD_eq_getElem?_getD, List.getElem?_replicate, if_pos hk]
  rfl
theorem WaysIs.cir {p : Nat} {ts : List Tie} {g : GoodWeb p ts} {m : Nat} {l : List Int} (h : WaysIs p ts g (m : Int) l) : RM.Cir (netOf p ts g) m (fun k => l.getD k 0) := by
  obtain ⟨m', t0, v, acc, e, hm, rg, hb, h0, wk, rfl⟩ := h
  have em : m = m' := by (first | lia | omega)
  subst em
  have c := RM.wk_cir (N := netOf p ts g) hm rg hb wk
  refine ⟨fun k hk hbk => ?_, fun k hk hbk => ?_, fun u hu => ?_⟩
  · show (waysL acc ts.length).getD k 0 = 1 ∨ _ = -1
    rw [ways_wx acc (n := ts.length) hk]
    exact c.on k hk hbk
  · show (waysL acc ts.length).getD k 0 = 0
    rw [ways_wx acc (n := ts.length) hk]
    exact c.off k hk hbk
  · refine Eq.trans ?_ (c.fl u hu)
    exact Dt.su_congr fun k hk => by
      dsimp only
      rw [show (waysL acc ts.length).getD k 0 = RM.wx acc k from ways_wx acc hk]
def wV (p : Nat) (ts : List Tie) (g : GoodWeb p ts) (wl : List (List Int)) : Int := absI (Dt.det (netOf p ts g).chords.length (ent (worthT (netOf p ts g).chords wl)))
def wX (wl : List (List Int)) (i k : Nat) : Int := (wl.getD i []).getD k 0
theorem wV_det {p : Nat} {ts : List Tie} {g : GoodWeb p ts} {wl : List (List Int)} (hl : wl.length = (netOf p ts g).chords.length) : Dt.det (netOf p ts g).chords.length (ent (worthT (netOf p ts g).chords wl)) = Dt.det (netOf p ts g).chords.length (RM.wM (netOf p ts g) (wX wl)) := Dt.det_congr fun r c hr hc => by
  show ((worthT (netOf p ts g).chords wl).getD r []).getD c 0 = (wl.getD r []).getD ((netOf p ts g).chords.getD c 0) 0
  unfold worthT
  rw [List.getD_eq_getElem?_getD (l := wl.map _), List.getElem?_map, List.getElem?_eq_getElem (l := wl) (by (first | lia | omega))]
  show (((netOf p ts g).chords.map fun c => (wl[r]).getD c 0)).getD c 0 = _
  rw [List.getD_eq_getElem?_getD, List.getElem?_map, List.getElem?_eq_getElem hc, List.getD_eq_getElem?_getD (l := wl), List.getElem?_eq_getElem (l := wl) (by (first | lia | omega)), List.getD_eq_getElem?_getD (l := (netOf p ts g).chords), List.getElem?_eq_getElem hc]
  rfl
theorem abs_nat (i : Int) : absI i = (i.natAbs : Int) := by
  unfold absI
  split <;> (first | lia | omega)
theorem paired_at {α β : Type} {F : α → β → Prop} : ∀ {l : List α} {r : List β}, Paired F l r → ∀ {i : Nat} {x : α}, l[i]? = some x → ∃ y, r[i]? = some y ∧ F x y
  | _, _, .nil, _, _, h => by cases h
  | _, _, .cons h1 h2, 0, _, h => by cases h; exact (exq rfl (h1))
  | _, _, .cons h1 h2, i + 1, _, h => paired_at h2 (i := i) h
def castL (rs : List Nat) : List Int := rs.map fun r => ((r : Nat) : Int)
theorem nats_ints (rs : List Nat) : natsV rs = intsV (castL rs) := by
  unfold natsV intsV castL
  rw [List.map_map]
  rfl
theorem castL_len (rs : List Nat) : (castL rs).length = rs.length := List.length_map _
theorem ways_one {p : Nat} {ts : List Tie} {g : GoodWeb p ts} {S : Int} {l l' : List Int} (h : WaysIs p ts g S l) (h' : WaysIs p ts g S l') : l = l' := by
  obtain ⟨m, t0, v, acc, rfl, hm, rg, hb, h0, wk, rfl⟩ := h
  obtain ⟨m', t0', v', acc', e, hm', rg', hb', h0', wk', rfl⟩ := h'
  have em : m = m' := by (first | lia | omega)
  subst em
  rw [h0] at h0'
  cases h0'
  rw [RM.wk_done (N := netOf p ts g) hm hb wk wk']
theorem ways_same {p : Nat} {ts : List Tie} {g : GoodWeb p ts} : ∀ {rs : List Int} {wl wl' : List (List Int)}, Paired (WaysIs p ts g) rs wl → Paired (WaysIs p ts g) rs wl' → wl = wl'
  | _, _, _, .nil, .nil => rfl
  | _, _, _, .cons h1 r1, .cons h2 r2 => by rw [ways_one h1 h2, ways_same r1 r2]
section
variable {p : Nat} {ts : List Tie} {g : GoodWeb p ts} {rs : List Nat} {wl : List (List Int)}
theorem wl_len (pw : Paired (WaysIs p ts g) (castL rs) wl) : wl.length = rs.length := by rw [← pw.length, castL_len]
theorem wl_cir (pw : Paired (WaysIs p ts g) (castL rs) wl) (i r : Nat) (h : rs[i]? = some r) : RM.Cir (netOf p ts g) r (wX wl i) := by
  obtain ⟨l, hl, wi⟩ := paired_at pw (i := i) (x := ((r : Nat) : Int)) (by unfold castL; rw [List.getElem?_map, h]; rfl)
  have e : wX wl i = fun k => l.getD k 0 := by
    funext k
    unfold wX
    rw [List.getD_eq_getElem?_getD (l := wl), hl]
    rfl
  rw [e]
  exact wi.cir
theorem wV_odd (pw : Paired (WaysIs p ts g) (castL rs) wl) (hl : rs.length = (netOf p ts g).chords.length) (hr : ∀ r ∈ rs, (netOf p ts g).Ring r ∧ r < 2 ^ ts.length) : wV p ts g wl % 2 = 1 ↔ RM.Ind rs := by
  unfold wV
  rw [wV_det (by rw [wl_len pw]; exact hl), abs_nat, ← RM.worth_odd hl hr (wl_cir pw)]
  (first | lia | omega)
theorem paired_rev {α β : Type} {F : α → β → Prop} : ∀ {l : List α} {r : List β}, Paired F l r → Paired F l.reverse r.reverse
  | _, _, .nil => .nil
  | _, _, .cons h1 h2 => by
    rw [List.reverse_cons, List.reverse_cons]
    exact paired_snoc h1 (paired_rev h2)
theorem wV_rev {wl' : List (List Int)} (pw : Paired (WaysIs p ts g) (castL rs) wl) (pw' : Paired (WaysIs p ts g) (castL rs.reverse) wl') (hl : rs.length = (netOf p ts g).chords.length) : wV p ts g wl' = wV p ts g wl := by
  have e : wl' = wl.reverse := ways_same pw' (by
    have := paired_rev pw
    unfold castL at this ⊢
    rw [List.map_reverse]
    exact this)
  have wll := wl_len pw
  subst e
  unfold wV
  rw [wV_det (by rw [List.length_reverse, wll]; exact hl), wV_det (by rw [wll]; exact hl), abs_nat, abs_nat]
  congr 1
  rw [← Dt.det_turned (n := (netOf p ts g).chords.length) (RM.wM (netOf p ts g) (wX wl)) (f := fun i => (netOf p ts g).chords.length - 1 - i) (fun i hi => by (first | lia | omega)) (fun i hi => by (first | lia | omega))]
  congr 1
  refine Dt.det_congr fun r c hr hc => ?_
  show (wl.reverse.getD r []).getD _ 0 = (wl.getD ((netOf p ts g).chords.length - 1 - r) []).getD _ 0
  rw [List.getD_eq_getElem?_getD (l := wl.reverse), List.getElem?_reverse (by (first | lia | omega)), List.getD_eq_getElem?_getD (l := wl), wll, hl]
theorem wV_moved {row : List Nat} (hr : row.Perm (List.range ts.length)) {g' : GoodWeb p (permT ts row)} {wl' : List (List Int)} (pw : Paired (WaysIs p ts g) (castL rs) wl) (pw' : Paired (WaysIs p (permT ts row) g') (castL (rs.map (RM.turnS ts.length fun i => row.getD i 0))) wl') (hl : rs.length = (netOf p ts g).chords.length) (hc : (netOf p (permT ts row) g').chords.length = (netOf p ts g).chords.length) (hg : ∀ r ∈ rs, (netOf p ts g).Ring r ∧ r < 2 ^ ts.length) : wV p (permT ts row) g' wl' = wV p ts g wl := by
  have wll := wl_len pw
  have wll' := wl_len pw'
  rw [List.length_map] at wll'
  have rl : row.length = ts.length := by rw [hr.length_eq, List.length_range]
  unfold wV
  rw [wV_det (by rw [wll', hc]; exact hl), wV_det (by rw [wll]; exact hl), abs_nat, abs_nat]
  congr 1
  refine RM.worth_moved (perm_iso g hr g') (fun i hi => ?_) (fun i hi => ?_) hc hl hg (wl_cir pw) (fun i r hi => wl_cir pw' i _ (by rw [List.getElem?_map, hi]; rfl))
  · have hi : i < row.length := by have : i < ts.length := hi; (first | lia | omega)
    show (tieAt (permT ts row) i).1.toNat = (tieAt ts (row.getD i 0)).1.toNat
    rw [perm_at hi]
  · have hi : i < row.length := by have : i < ts.length := hi; (first | lia | omega)
    show (tieAt (permT ts row) i).2.1.toNat = (tieAt ts (row.getD i 0)).2.1.toNat
    rw [perm_at hi]
end
def sp_law (K : PySem.W.Frag) : Sp := fun vs H Q _ => ∃ (b : Addr) (ns : List Int), vs = [.ref b] ∧ SqL K H b (ns.map V.int) ∧ ns.length ≤ 63 ∧ ∀ H', Q (.bl true) H'
theorem cut_from (xs : List V) (k : Nat) : cutV xs (some (k : Int)) none = xs.drop k := by
  unfold cutV
  rw [HT.sIx_nat, HT.sIx_none]
  by_cases h : k ≤ xs.length
  · rw [Nat.min_eq_left h, List.take_of_length_le (by rw [List.length_drop]; exact Nat.le_refl _)]
  · rw [Nat.min_eq_right (by (first | lia | omega)), Nat.sub_self, List.take_zero, List.drop_eq_nil_of_le (by (first | lia | omega))]
section
variable {P : Program} {w : World} {K : PySem.W.Frag} {mg : Str → Option Value} {base : Heap} {a : Adr}
theorem G_law (T : Txt K mg a) : FnOk P w K mg base CX0 12 a.f_law a.d_law ["script"] (sp_law K) := by
  have G_law_web : FnOk P w K mg base CX0 2 a.f_law_web a.d_law_web ["script", "most"] (sp_web K) := G_law_web T
  have G_law_cell : FnOk P w K mg base CX0 1 a.f_law_cell a.d_law_cell ["script", "k"] (sp_cell K) := G_law_cell T
  have G_law_stir : FnOk P w K mg base CX0 1 a.f_law_stir a.d_law_stir ["cell", "k"] sp_stir := G_law_stir T
  have G_law_rings : FnOk P w K mg base CX0 3 a.f_law_rings a.d_law_rings ["web"] sp_law_rings := G_law_rings T
  have G_rank : FnOk P w K mg base CX0 6 a.f_rank a.d_rank ["web"] sp_rank := G_rank T
  have G_ring_worth : FnOk P w K mg base (CX1 P w) 11 a.f_ring_worth a.d_ring_worth ["web", "rings"] sp_ring_worth := G_ring_worth T
  have G_law_is_base : FnOk P w K mg base CX0 2 a.f_law_is_base a.d_law_is_base ["rings"] sp_law_is_base := G_law_is_base T
  have G_law_moved : FnOk P w K mg base CX0 2 a.f_law_moved a.d_law_moved ["web", "ring", "order"] sp_law_moved := G_law_moved T
  refine T.F_law.ok sc_law (fun vs H Q E h => ?_) (fun cdv A outer s H vs Q E hr h => ?_)
  · obtain ⟨b, ns, rfl, _⟩ := h
    rfl
  · obtain ⟨b, ns, rfl, hS, hn, fin⟩ := h
    refine ⟨_, (@pss_cons _ _ _ _ _ (@ps_set _ _ 1 _ _ _ _ sc_law.nd rfl (Or.inr rfl) (@pe_call _ _ _ _ _ _ _ _ _ _ _ _ _ _ _ _ G_law_web (hr.mono (by decide)) (by rfl) T.m_law_web T.k_law_web T.b_law_web .nil pass0 (@pa_cons _ _ _ _ _ (pv 0) (@pa_cons _ _ _ _ _ pe_int pa_nil (by rfl)) (by rfl)) (by decide) (by rfl) (by rfl)) (by rfl) (by first | exact .inl rfl | exact .inr rfl | assumption)) (@pss_cons _ _ _ _ _ (@ps_set _ _ 2 _ _ _ _ sc_law.nd rfl (Or.inr rfl) (@pe_call _ _ _ _ _ _ _ _ _ _ _ _ _ _ _ _ G_law_rings (hr.mono (by decide)) (by rfl) T.m_law_rings T.k_law_rings T.b_law_rings .nil pass0 (@pa_cons _ _ _ _ _ (pv 1) pa_nil (by rfl)) (by decide) (by rfl) (by rfl)) (by rfl) (by first | exact .inl rfl | exact .inr rfl | assumption)) (@pss_cons _ _ _ _ _ (@ps_set _ _ 3 _ _ _ _ sc_law.nd rfl (Or.inl rfl) (@pe_call _ _ _ _ _ _ _ _ _ _ _ _ _ _ _ _ G_rank (hr.mono (by decide)) (by rfl) T.m_rank T.k_rank T.b_rank .nil pass0 (@pa_cons _ _ _ _ _ (pv 1) pa_nil (by rfl)) (by decide) (by rfl) (by rfl)) (by rfl) (by first | exact .inl rfl | exact .inr rfl | assumption)) (@pss_cons _ _ _ _ _ (@ps_set _ _ 4 _ _ _ _ sc_law.nd rfl (Or.inr rfl) (@pe_lst _ _ _ _ pa_nil) (by rfl) (by first | exact .inl rfl | exact .inr rfl | assumption)) (@pss_cons _ _ _ _ _ (@ps_for _ _ _ _ _ _ _ _ PassesOwn.never rfl (@pi_range1 _ _ _ _ _ _ (by rfl) T.n_range (@pa_cons _ _ _ _ _ (@pe_callB _ _ _ _ _ _ _ _ _ (lenK K) (by rfl) T.n_len PySem.boot_len (@pa_cons _ _ _ _ _ (@pe_ix _ _ _ _ _ _ _ (ixT K) (pv 1) pe_int (fun _ _ => rfl)) pa_nil (by rfl)) (by decide) (by decide) (by rfl) (by rfl)) pa_nil (by rfl)) (by rfl)) (pg_name (i := 5) sc_law.nd rfl (Or.inl rfl)) (@pss_one _ _ _ (@ps_expr _ _ _ _ (@bmK _ _ _ _ _ _ K (@pe_bm _ _ _ _ _ _ _ _ _ _ _ _ PySem.F.plainAttrs_list PySem.F.slot_list_insert PySem.F.type_list_insert mt_insert (pv 4) (@pa_cons _ _ _ _ _ (@pe_op _ _ _ _ _ _ _ _ op_mod (@pe_call _ _ _ _ _ _ _ _ _ _ _ _ _ _ _ _ G_law_stir (hr.mono (by decide)) (by rfl) T.m_law_stir T.k_law_stir T.b_law_stir .nil pass0 (@pa_cons _ _ _ _ _ (@pe_call _ _ _ _ _ _ _ _ _ _ _ _ _ _ _ _ G_law_cell (hr.mono (by decide)) (by rfl) T.m_law_cell T.k_law_cell T.b_law_cell .nil pass0 (@pa_cons _ _ _ _ _ (pv 0) (@pa_cons _ _ _ _ _ (pv 5) pa_nil (by rfl)) (by rfl)) (by decide) (by rfl) (by rfl)) (@pa_cons _ _ _ _ _ pe_int pa_nil (by rfl)) (by rfl)) (by decide) (by rfl) (by rfl)) (@pe_op _ _ _ _ _ _ _ _ op_add (pv 5) pe_int)) (@pa_cons _ _ _ _ _ (pv 5) pa_nil (by rfl)) (by rfl)) (by rfl) (by rfl) (by rfl) (by rfl) (by rfl)) (by rfl)) (by rfl))) (by intro _; rfl)) (@pss_cons _ _ _ _ _ (@ps_set _ _ 6 _ _ _ _ sc_law.nd rfl (Or.inl rfl) (@pe_tup _ _ _ _ _ (@pa_cons _ _ _ _ _ (@pe_ix _ _ _ _ _ _ _ (ixT K) (pv 1) pe_int (fun _ _ => rfl)) (@pa_cons _ _ _ _ _ (@pe_callTy _ _ _ _ _ _ _ _ _ (tuplK K) (by rfl) T.n_tuple PyProof.Rows.boot_tuple (@pa_cons _ _ _ _ _ (@pe_comp _ _ _ _ _ _ _ ["tie"] ["web"] [1] _ _ _ _ (compText_of (defScope s_law) ["script", "web", "all_of", "many", "order", "k", "other", "turn", "rings", "worth", "ring", "changed"]) rfl (@piL _ _ _ _ K (pv 4) (by rfl)) (fun _ _ _ _ => (pg_name (i := 0) (show (["tie", "web"] : List Str).Nodup by decide +kernel) rfl (Or.inl rfl))) (fun _ _ _ _ => pts_nil) (fun _ _ _ _ => (pe_ix (ixT K) (pe_ix (ixT K) (pv 1) pe_int (fun _ _ => rfl)) (pv 0) (fun _ _ => rfl))) (by intro _; rfl)) pa_nil (by rfl)) (by decide) (by decide) (by rfl) (by rfl)) pa_nil (by rfl)) (by rfl))) (by rfl) (by first | exact .inl rfl | exact .inr rfl | assumption)) (@pss_cons _ _ _ _ _ (@ps_for _ _ _ _ _ _ _ _ PassesOwn.never rfl (@pi_range1 _ _ _ _ _ _ (by rfl) T.n_range (@pa_cons _ _ _ _ _ pe_int pa_nil (by rfl)) (by rfl)) (pg_name (i := 7) sc_law.nd rfl (Or.inr rfl)) (@pss_cons _ _ _ _ _ (@ps_comp _ _ _ _ _ _ _ ["k"] ["script", "all_of", "turn"] [0, 2, 7] _ _ _ _ 8 _ _ _ sc_law.nd rfl rfl (compText_of (defScope s_law) ["script", "web", "all_of", "many", "order", "k", "other", "turn", "rings", "worth", "ring", "changed"]) rfl (@pi_range1 _ _ _ _ _ _ (by rfl) T.n_range (@pa_cons _ _ _ _ _ (pv 3) pa_nil (by rfl)) (by rfl)) (fun _ _ _ _ => (pg_name (i := 0) (show (["k", "script", "all_of", "turn"] : List Str).Nodup by decide +kernel) rfl (Or.inl rfl))) (fun _ _ _ _ => pts_nil) (fun _ _ _ _ => (pe_ix (ixL K) (pv 2) (pe_op op_mod (pe_call G_law_stir (hr.mono (by decide)) (by rfl) T.m_law_stir T.k_law_stir T.b_law_stir .nil pass0 (pa_cons (pe_call G_law_cell (hr.mono (by decide)) (by rfl) T.m_law_cell T.k_law_cell T.b_law_cell .nil pass0 (pa_cons (pv 1) (pa_cons (pe_op op_add (pv 3) (pv 0)) pa_nil))) (pa_cons (pe_op op_add pe_int (pv 3)) pa_nil))) (pe_callB (lenK K) (by rfl) T.n_len PySem.boot_len (pa_cons (pv 2) pa_nil))) (fun _ _ => rfl))) (by rfl) (by intro _; rfl)) (@pss_cons _ _ _ _ _ (@ps_set _ _ 9 _ _ _ _ sc_law.nd rfl (Or.inl rfl) (@pe_call _ _ _ _ _ _ _ _ _ _ _ _ _ _ _ _ G_ring_worth (hr.mono (by decide)) (by rfl) T.m_ring_worth T.k_ring_worth T.b_ring_worth .nil passN (@pa_cons _ _ _ _ _ (pv 1) (@pa_cons _ _ _ _ _ (pv 8) pa_nil (by rfl)) (by rfl)) (by decide) (by rfl) (by rfl)) (by rfl) (by first | exact .inl rfl | exact .inr rfl | assumption)) (@pss_cons _ _ _ _ _ (@ps_if _ _ _ _ _ _ _ _ (PW.pt (@pw_or _ _ _ _ _ _ _ (@pt_cmpR _ _ _ _ _ _ _ _ op_ne (@pe_cmpR _ _ _ _ _ _ _ _ op_eq (@pe_op _ _ _ _ _ _ _ _ op_mod (pv 9) pe_int) pe_int (nomark _)) (@pe_call _ _ _ _ _ _ _ _ _ _ _ _ _ _ _ _ G_law_is_base (hr.mono (by decide)) (by rfl) T.m_law_is_base T.k_law_is_base T.b_law_is_base .nil pass0 (@pa_cons _ _ _ _ _ (pv 8) pa_nil (by rfl)) (by decide) (by rfl) (by rfl)) (nomark _)) (@pw_or1 _ _ _ _ (@pt_cmpR _ _ _ _ _ _ _ _ op_ne (@pe_call _ _ _ _ _ _ _ _ _ _ _ _ _ _ _ _ G_ring_worth (hr.mono (by decide)) (by rfl) T.m_ring_worth T.k_ring_worth T.b_ring_worth .nil passN (@pa_cons _ _ _ _ _ (pv 1) (@pa_cons _ _ _ _ _ (pe_listRev K rfl (by rfl) T.n_list (by rfl) T.n_reversed (pv 8)) pa_nil (by rfl)) (by rfl)) (by decide) (by rfl) (by rfl)) (pv 9) (nomark _))))) (@pss_one _ _ _ (@ps_ret _ _ _ _ pe_bl)) pss_nil) (@pss_cons _ _ _ _ _ (@ps_if _ _ _ _ _ _ _ _ (@pt_cmpR _ _ _ _ _ _ _ _ op_ne (@pe_call _ _ _ _ _ _ _ _ _ _ _ _ _ _ _ _ G_ring_worth (hr.mono (by decide)) (by rfl) T.m_ring_worth T.k_ring_worth T.b_ring_worth .nil passN (@pa_cons _ _ _ _ _ (pv 6) (@pa_cons _ _ _ _ _ (@pe_comp _ _ _ _ _ _ _ ["ring"] ["web", "order"] [1, 4] _ _ _ _ (compText_of (defScope s_law) ["script", "web", "all_of", "many", "order", "k", "other", "turn", "rings", "worth", "ring", "changed"]) rfl (@piL _ _ _ _ K (pv 8) (by rfl)) (fun _ _ _ _ => (pg_name (i := 0) (show (["ring", "web", "order"] : List Str).Nodup by decide +kernel) rfl (Or.inl rfl))) (fun _ _ _ _ => pts_nil) (fun _ _ _ _ => (pe_call G_law_moved (hr.mono (by decide)) (by rfl) T.m_law_moved T.k_law_moved T.b_law_moved .nil pass0 (pa_cons (pv 1) (pa_cons (pv 0) (pa_cons (pv 2) pa_nil))))) (by intro _; rfl)) pa_nil (by rfl)) (by rfl)) (by decide) (by rfl) (by rfl)) (pv 9) (nomark _)) (@pss_one _ _ _ (@ps_ret _ _ _ _ pe_bl)) pss_nil) (@pss_one _ _ _ (@ps_if _ _ _ _ _ _ _ _ (PW.pt (@pw_and _ _ _ _ _ _ _ (@pt_cmpR _ _ _ _ _ _ _ _ op_gt (pv 3) pe_int (nomark _)) (@pw_and1 _ _ _ _ (@pt_cmpR _ _ _ _ _ _ _ _ op_eq (@pe_op _ _ _ _ _ _ _ _ op_mod (pv 9) pe_int) pe_int (nomark _))))) (@pss_one _ _ _ (@ps_for _ _ _ _ _ _ _ _ PassesOwn.never rfl (@piL _ _ _ _ K (pv 2) (by rfl)) (pg_name (i := 10) sc_law.nd rfl (Or.inl rfl)) (@pss_cons _ _ _ _ _ (@ps_set _ _ 11 _ _ _ _ sc_law.nd rfl (Or.inl rfl) (@pe_op _ _ _ _ _ _ _ _ (catL K) (@pe_lst _ _ _ _ (@pa_cons _ _ _ _ _ (pv 10) pa_nil (by rfl))) (@pe_slice _ _ _ _ _ _ _ _ _ _ (slL K) (pv 8) (@po_some _ _ _ pe_int) po_none)) (by rfl) (by first | exact .inl rfl | exact .inr rfl | assumption)) (@pss_one _ _ _ (@ps_if _ _ _ _ _ _ _ _ (@pt_cmpR _ _ _ _ _ _ _ _ op_ne (@pe_cmpR _ _ _ _ _ _ _ _ op_eq (@pe_op _ _ _ _ _ _ _ _ op_mod (@pe_call _ _ _ _ _ _ _ _ _ _ _ _ _ _ _ _ G_ring_worth (hr.mono (by decide)) (by rfl) T.m_ring_worth T.k_ring_worth T.b_ring_worth .nil passN (@pa_cons _ _ _ _ _ (pv 1) (@pa_cons _ _ _ _ _ (pv 11) pa_nil (by rfl)) (by rfl)) (by decide) (by rfl) (by rfl)) pe_int) pe_int (nomark _)) (@pe_call _ _ _ _ _ _ _ _ _ _ _ _ _ _ _ _ G_law_is_base (hr.mono (by decide)) (by rfl) T.m_law_is_base T.k_law_is_base T.b_law_is_base .nil pass0 (@pa_cons _ _ _ _ _ (pv 11) pa_nil (by rfl)) (by decide) (by rfl) (by rfl)) (nomark _)) (@pss_one _ _ _ (@ps_ret _ _ _ _ pe_bl)) pss_nil))) (by intro _; rfl))) pss_nil)))))) (by intro _; rfl)) (@pss_one _ _ _ (@ps_ret _ _ _ _ pe_bl))))))))), ?_⟩
    refine hd_law ?_
    intro zz0 zz1 zz2 zz3 zz4 zz5 zz6 zz7 zz8 zz9 zz10 zz11 zz12 zz13 zz14 zz15 zz16 zz17 zz18
    refine (exq rfl ⟨b, ns, 7, rfl, hS, hn, by decide, fun wb p ts H1 s1 g p6 hlen hw => ?_⟩)
    obtain ⟨bt, xs, h1, h2, h3⟩ := id hw.ex
    have hxl := h3.length
    have c7 : (netOf p ts g).chords.length ≤ 7 := Nat.le_trans (List.length_filter_le _ _) (by rw [List.length_range]; exact hlen)
    refine (exq rfl ⟨wb, p, ts, g, rfl, hw, by (first | lia | omega), fun Al H2 hAl s2 hAl2 => ?_⟩)
    refine (exq rfl ⟨wb, p, ts, g, rfl, hw.same s2, fun H3 s3 => ⟨dl rfl, fun O hO => ?_⟩⟩)
    have s4 : Same H2 (upd H3 O (.lst [])) := s3.trans (Same.new hO)
    have hO4 : upd H3 O (.lst []) O = some (.lst (natsV [])) := upd_same
    have hAO : Al ≠ O := fun z => by
      have := s3 _ _ hAl2
      rw [z, hO] at this
      cases this
    have hO1 : H1 O = none := (s2.trans s3).free hO
    generalize upd H3 O (.lst []) = H4 at s4 hO4
    have s14 := s2.trans s4
    have hAl4 := s4 _ _ hAl2
    clear s2 s3 s4 hO hAl2
    refine (exq rfl (ixq (SqT.of (s14 _ _ h1)) (atI_nat (j := 1) rfl) (lnq rfl (.inr (SqT.of (s14 _ _ h2))) (exq rfl ⟨by (first | lia | omega), by (first | lia | omega), for_range' (lo := 0) (n := ((xs.length : Nat) : Int).toNat) (fun k σ H5 => ∃ v5 ks, σ = [some (.ref b), some (.ref wb), some (.ref Al), some (.int (((netOf p ts g).chords.length : Nat) : Int)), some (.ref O), v5, none, none, none, none, none, none] ∧ Same H1 H5 ∧ H5 Al = some (.lst (natsV (ringsL p ts))) ∧ H5 O = some (.lst (natsV ks)) ∧ ks.Perm (List.range k)) ⟨none, [], rfl, s14, hAl4, hO4, List.Perm.refl _⟩ ?_ ?_⟩))))
    · rintro k D' σ H5 hk ⟨v5, ks, rfl, s5, hAl5, hO5, pm⟩
      rw [Int.toNat_natCast] at hk
      rw [Int.zero_add]
      have hkl : ks.length = k := by rw [pm.length_eq, List.length_range]
      refine (exq rfl ⟨.inl ⟨rfl, _, SqL.of hO5⟩, exq rfl (exq rfl ⟨b, ns, k, rfl, (s1.trans s5).seq hS, fun z1 => ⟨_, _, rfl, fun z hz => ?_⟩⟩)⟩)
      refine (exq rfl (ijq (ijq ⟨(by (first | lia | omega)), exq rfl (?_)⟩)))
      obtain ⟨j, hj, hj2⟩ : ∃ j : Nat, z % ((k : Int) + 1) = (j : Int) ∧ j ≤ k := by
        obtain ⟨h1, h2⟩ := emod2 z ((k : Int) + 1) (by (first | lia | omega))
        exact ⟨(z % ((k : Int) + 1)).toNat, by (first | lia | omega), by (first | lia | omega)⟩
      dsimp only
      rw [hj]
      refine ⟨O, _, j, _, rfl, rfl, hO5, by rw [natsV_len]; (first | lia | omega), smallL (by rw [natsV_len]; (first | lia | omega)), _, ks.take j ++ k :: ks.drop j, rfl, s5.put hO1, ?_, ?_, ?_⟩
      · rw [upd_ne hAO]
        exact hAl5
      · rw [upd_same]
        unfold natsV
        rw [List.map_append, List.map_cons, List.map_take, List.map_drop]
      · have p1 : (ks.take j ++ k :: ks.drop j).Perm (k :: ks) := by
          have := List.perm_middle (a := k) (l₁ := ks.take j) (l₂ := ks.drop j)
          rwa [List.take_append_drop] at this
        rw [List.range_succ]
        exact p1.trans ((List.Perm.cons k pm).trans (List.perm_append_singleton k (List.range k)).symm)
    rintro σ H5 ⟨v5, row, rfl, s5, hAl5, hO5, pm⟩
    rw [Int.toNat_natCast, hxl] at pm
    clear hAl4 hO4 s14
    have rl : row.length = ts.length := by rw [pm.length_eq, List.length_range]
    -- the same ties in another order
    refine (exq rfl (ixq (SqT.of (s5 _ _ h1)) (atI_nat (j := 0) rfl) (exq rfl ⟨O, rfl, ⟨_, SqL.of hO5⟩, fun C3 hC3 => comp_list (xs := natsV row) (fun i ac H7 => Same H5 H7 ∧ H7 C3 = some (.lst ac) ∧ Paired (TupAt H7) ac ((row.take i).map (tieAt ts))) ⟨Same.new hC3, upd_same, by rw [List.take_zero]; exact .nil⟩ (fun i ac H7 _ ⟨f1, f2, e⟩ => ⟨SqL.of (f1 _ _ hO5), f2, by rw [e.length, List.length_map]; exact List.length_take_le _ _⟩) (small24 (by rw [natsV_len]; (first | lia | omega))) ?_ ?_⟩)))
    · rintro i y ac H7 hy ⟨f1, f2, e⟩
      obtain ⟨k, hk, rfl⟩ := natsV_get hy
      have hkt : k < xs.length := by rw [hxl]; exact List.mem_range.mp (pm.mem_iff.mp (List.mem_of_getElem? hk))
      have s7 := s5.trans f1
      obtain ⟨x, hx⟩ : ∃ x, xs[k]? = some x := ⟨_, List.getElem?_eq_getElem hkt⟩
      obtain ⟨t, ht, c, rfl, hc⟩ := L2.Paired.getP h3 hx
      have et : tieAt ts k = t := by unfold tieAt; rw [List.getD_eq_getElem?_getD, ht]; rfl
      have hCc : c ≠ C3 := fun z => by
        have := s7 _ _ hc
        rw [z, f2] at this
        cases this
      refine ⟨rfl, exq rfl (ixq (SqT.of (s7 _ _ h1)) (atI_nat (j := 1) rfl) (exq rfl (ixq (SqT.of (s7 _ _ h2)) (atI_nat (j := k) hx) ⟨f2, f1.put hC3, upd_same, ?_⟩)))⟩
      rw [List.take_add_one, hk, List.map_append]
      refine paired_snoc ⟨c, rfl, by rw [upd_ne hCc, et]; exact s7 _ _ hc⟩ (Paired.imp' (fun x t z => ?_) e)
      obtain ⟨c', rfl, hc'⟩ := z
      refine ⟨c', rfl, ?_⟩
      rw [upd_ne (fun z => by rw [z, f2] at hc'; cases hc')]
      exact hc'
    rintro ac7 H7 ⟨s67, hC7, pT⟩
    rw [natsV_len, List.take_length] at pT
    have pT : Paired (TupAt H7) ac7 (permT ts row) := pT
    have al7 : ac7.length ≤ 7 := by rw [pT.length]; unfold permT; rw [List.length_map]; (first | lia | omega)
    refine ⟨C3, _, rfl, .inl ⟨SqL.of hC7, fun Tp hTp => ⟨dl rfl, fun W hW => ?_⟩⟩⟩
    have s8 : Same H7 (upd (upd H7 Tp (.tup ac7)) W (.tup [.int (p : Int), .ref Tp])) := (Same.new hTp).trans (Same.new hW)
    have hW8 : upd (upd H7 Tp (.tup ac7)) W (.tup [.int (p : Int), .ref Tp]) W = some (.tup [.int (p : Int), .ref Tp]) := upd_same
    have hTp8 : upd (upd H7 Tp (.tup ac7)) W (.tup [.int (p : Int), .ref Tp]) Tp = some (.tup ac7) := Same.new hW _ _ upd_same
    generalize upd (upd H7 Tp (.tup ac7)) W (.tup [.int (p : Int), .ref Tp]) = H8 at s8 hW8 hTp8
    have hw8 : WebAt H8 W p (permT ts row) := ⟨Tp, ac7, hW8, hTp8, Paired.imp' (fun x t ⟨c, e, hc⟩ => ⟨c, e, s8 _ _ hc⟩) pT⟩
    have g' := perm_good g pm
    have hc' : (netOf p (permT ts row) g').chords.length = (netOf p ts g).chords.length := (perm_iso g pm g').chords
    have s58 := s67.trans s8
    have s18 := s5.trans s58
    have hAl8 := s58 _ _ hAl5
    have hO8 := s58 _ _ hO5
    have hwo := hw.same s18
    clear pT h1 h2 h3 s8 s67 hAl5 hO5 hC7 hw
    refine (exq rfl ⟨by (first | lia | omega), by (first | lia | omega), for_range' (lo := 0) (n := _) (fun k σ H9 => ∃ v7 v8 v9 v10 v11, σ = [some (.ref b), some (.ref wb), some (.ref Al), some (.int (((netOf p ts g).chords.length : Nat) : Int)), some (.ref O), v5, some (.ref W), v7, v8, v9, v10, v11] ∧ Same H8 H9) ⟨_, _, _, _, _, rfl, Same.refl _⟩ ?_ ?_⟩)
    · rintro tn D0 σ H9 htn ⟨v7, v8, v9, v10, v11, rfl, s9⟩
      rw [Int.zero_add]
      have hAl9 := s9 _ _ hAl8
      refine (exq rfl (exq rfl ⟨by (first | lia | omega), by (first | lia | omega), fun Rg hRg => comp_range (lo := 0) (m := (netOf p ts g).chords.length) (fun i ac H12 => Same H9 H12 ∧ H12 Rg = some (.lst ac) ∧ ∃ l : List Nat, ac = natsV l ∧ l.length = i ∧ ∀ x ∈ l, x ∈ ringsL p ts) ⟨Same.new hRg, upd_same, [], rfl, rfl, (fun _ h => nomatch h)⟩ (fun i ac H12 _ ⟨_, f2, l, e, e2, _⟩ => ⟨f2, by rw [e, natsV_len, e2]; exact Nat.le_refl _⟩) (small24 (by (first | lia | omega))) ?_ ?_⟩))
      · rintro i ac H12 hi ⟨f1, f2, l, rfl, e2, e3⟩
        rw [Int.zero_add]
        have hAl12 := f1 _ _ hAl9
        have hp : (0 : Int) < (((ringsL p ts).length : Nat) : Int) := by
          have hc := RM.chords_mem.mp (List.getElem_mem hi)
          have : (netOf p ts g).ring (netOf p ts g).chords[i] ∈ ringsL p ts := (ringsL_mem g).mpr ⟨RM.ring_lt (N := netOf p ts g) hc.1, RM.ring_ring (N := netOf p ts g) hc.1 hc.2⟩
          have := List.length_pos_of_mem this
          (first | lia | omega)
        refine ⟨rfl, exq rfl (exq rfl (exq rfl (exq rfl (ijq ⟨b, ns, tn + i, rfl, (((s1.trans s18).trans s9).trans f1).seq hS, fun z0 => (exq rfl (ijq ⟨_, _, rfl, fun z hz => (exq rfl (lnq rfl (.inl (SqL.of hAl12)) (ijq ⟨(by rw [natsV_len]; exact hp), ?_⟩)))⟩))⟩))))⟩
        obtain ⟨z0, z1⟩ := emod2 z (((ringsL p ts).length : Nat) : Int) hp
        obtain ⟨j, hj, hjl⟩ : ∃ j : Nat, z % (((ringsL p ts).length : Nat) : Int) = (j : Int) ∧ j < (ringsL p ts).length := ⟨(z % (((ringsL p ts).length : Nat) : Int)).toNat, by (first | lia | omega), by (first | lia | omega)⟩
        have hg : (ringsL p ts)[j]? = some (ringsL p ts)[j] := List.getElem?_eq_getElem hjl
        refine (ixl (SqL.of hAl12) ((by rw [natsV_len, hj]; exact atI_nat (nats_at hg))) ⟨f2, f1.put hRg, upd_same, l ++ [(ringsL p ts)[j]], nats_snoc _ _, by rw [List.length_append, e2]; rfl, fun x hx => ?_⟩)
        rcases List.mem_append.mp hx with hx | hx
        · exact e3 x hx
        · rw [List.mem_singleton.mp hx]
          exact List.getElem_mem hjl
      rintro ac H12 ⟨s12, hRg12, rs, rfl, rsl, hlr⟩
      have good : ∀ l : List Nat, (∀ x ∈ l, x ∈ ringsL p ts) → ∀ x ∈ castL l, GoodR p ts g x := fun l hl x hx => by
        obtain ⟨k, hk, rfl⟩ := List.mem_map.mp hx
        exact ⟨k, rfl, (ringsL_mem g).mp (hl k hk)⟩
      have rgs : ∀ l : List Nat, (∀ x ∈ l, x ∈ ringsL p ts) → ∀ r ∈ l, (netOf p ts g).Ring r ∧ r < 2 ^ ts.length := fun l hl r hr => ((ringsL_mem g).mp (hl r hr)).symm
      have s812 := s9.trans s12
      refine (exq rfl (exq rfl ⟨wb, Rg, p, ts, g, castL rs, rfl, hwo.same s812, by rw [hRg12, nats_ints], by (first | lia | omega), by rw [castL_len]; exact rsl, good rs hlr, fun H13 wl s13 pw => ?_⟩))
      refine (exq rfl (ijq ⟨(by (first | lia | omega)), rfl, ?_⟩))
      refine (exq rfl ⟨Rg, rs, decide (V.int (wV p ts g wl % 2) = V.int 1), rfl, s13 _ _ hRg12, by (first | lia | omega), ?_, fun H14 s14 => ⟨rfl, exq rfl (?_)⟩⟩)
      · rw [← wV_odd pw rsl (rgs rs hlr), decide_eq_true_eq]
        exact ⟨fun z => V.int.inj z, fun z => congrArg V.int z⟩
      have hRg14 := (s13.trans s14) _ _ hRg12
      refine iteNS rfl (exq rfl (exq rfl ⟨Rg, _, rfl, SqL.of hRg14, by rw [natsV_len]; (first | lia | omega), fun Rv hRv => ?_⟩))
      have er : (natsV rs).reverse = natsV rs.reverse := by unfold natsV; rw [List.map_reverse]
      rw [er]
      have s15 : Same H14 (upd H14 Rv (.lst (natsV rs.reverse))) := Same.new hRv
      have hRv15 : upd H14 Rv (.lst (natsV rs.reverse)) Rv = some (.lst (natsV rs.reverse)) := upd_same
      generalize upd H14 Rv (.lst (natsV rs.reverse)) = H15 at s15 hRv15
      have s1215 := (s13.trans s14).trans s15
      refine ⟨wb, Rv, p, ts, g, castL rs.reverse, rfl, hwo.same (s812.trans s1215), by rw [hRv15, nats_ints], by (first | lia | omega), by rw [castL_len, List.length_reverse]; exact rsl, good rs.reverse (fun x hx => hlr x (List.mem_reverse.mp hx)), fun H16 wl' s16 pw' => (exq rfl ⟨rfl, exq rfl (iteNS (congrArg V.int (wV_rev pw pw' rsl)) ?_)⟩)⟩
      have s1216 := s1215.trans s16
      have hRg16 := s1216 _ _ hRg12
      have hO16 := (s812.trans s1216) _ _ hO8
      -- moved
      refine (exq rfl (exq rfl ⟨Rg, rfl, ⟨_, SqL.of hRg16⟩, fun M hM => comp_list (xs := natsV rs) (fun i ac H17 => Same H16 H17 ∧ H17 M = some (.lst ac) ∧ ac = natsV ((rs.take i).map (RM.turnS ts.length fun i => row.getD i 0))) ⟨Same.new hM, upd_same, by rw [List.take_zero]; rfl⟩ (fun i ac H17 _ ⟨f1, f2, e⟩ => ⟨SqL.of (f1 _ _ hRg16), f2, by rw [e, natsV_len, List.length_map]; exact List.length_take_le _ _⟩) (small24 (by rw [natsV_len]; (first | lia | omega))) ?_ ?_⟩))
      · rintro i y ac H17 hy ⟨f1, f2, rfl⟩
        obtain ⟨k, hk, rfl⟩ := natsV_get hy
        refine ⟨rfl, exq rfl (exq rfl (exq rfl ⟨.ref wb, O, k, ts.length, row, rfl, f1 _ _ hO16, pm, by (first | lia | omega), (rgs rs hlr k (List.mem_of_getElem? hk)).2, fun H18 s18' => ⟨s18' _ _ f2, (f1.trans s18').put hM, upd_same, ?_⟩⟩))⟩
        rw [nats_snoc, List.take_add_one, hk, List.map_append]
        rfl
      rintro ac H17 ⟨s17, hM17, rfl⟩
      rw [natsV_len, List.take_length] at hM17
      have s817 := (s812.trans s1216).trans s17
      refine ⟨W, M, p, permT ts row, g', castL (rs.map (RM.turnS ts.length fun i => row.getD i 0)), rfl, hw8.same s817, by rw [hM17, nats_ints], by (first | lia | omega), by rw [castL_len, List.length_map, hc']; exact rsl, fun x hx => ?_, fun H18 wl2 s18' pw2 => (exq rfl ⟨rfl, exq rfl (iteNS (congrArg V.int (wV_moved pm pw pw2 rsl hc' (rgs rs hlr))) ?_)⟩)⟩
      · obtain ⟨k, hk, rfl⟩ := List.mem_map.mp hx
        obtain ⟨r, hr, rfl⟩ := List.mem_map.mp hk
        obtain ⟨h1, h2⟩ := rgs rs hlr r hr
        have eN : (permT ts row).length = ts.length := by unfold permT; rw [List.length_map, rl]
        exact (exq rfl ⟨by rw [eN]; exact RM.turn_lt _ _ _, (perm_iso g pm g').ring (N := netOf p ts g) h2 h1⟩)
      have s1218 := (s1216.trans s17).trans s18'
      have hRg18 := s1218 _ _ hRg12
      have s818 := s812.trans s1218
      have hAl18 := s818 _ _ hAl8
      have s918 := s12.trans s1218
      refine (exq rfl (ijq (exq rfl (ite2 (fun hmany => ?_) (fun _ => ⟨_, _, _, _, _, rfl, s9.trans s918⟩)))))
      have h2 : 1 < (netOf p ts g).chords.length := by
        have := of_decide_eq_true hmany
        (first | lia | omega)
      refine (exq rfl (ijq ⟨(by (first | lia | omega)), rfl, exq rfl (ite2 (fun _ => ?_) (fun _ => ⟨_, _, _, _, _, rfl, s9.trans s918⟩))⟩))
      refine (exq rfl ⟨Al, rfl, ⟨_, SqL.of hAl18⟩, for_list' (K := K) (a := Al) (xs := natsV (ringsL p ts)) (fun i σ H19 => ∃ v10 v11, σ = [some (.ref b), some (.ref wb), some (.ref Al), some (.int (((netOf p ts g).chords.length : Nat) : Int)), some (.ref O), v5, some (.ref W), some (.int (tn : Int)), some (.ref Rg), some (.int (wV p ts g wl)), v10, v11] ∧ Same H18 H19) ⟨_, _, rfl, Same.refl _⟩ (fun i σ H19 _ ⟨_, _, _, z⟩ => SqL.of (z _ _ hAl18)) ?_ (fun σ H19 ⟨u10, u11, e, s19⟩ => ⟨_, _, _, _, _, e, s9.trans (s918.trans s19)⟩)⟩)
      rintro i y D1 σ H19 hy ⟨u10, u11, rfl, s19⟩
      obtain ⟨m, hm, rfl⟩ := natsV_get hy
      have hmr := List.mem_of_getElem? hm
      refine (exq rfl ⟨dl rfl, fun l1 hl1 => (exq rfl (exq rfl ⟨Rg, _, rfl, SqL.of ((s19.trans (Same.new hl1)) _ _ hRg18), fun B1 hB1 => ?_⟩))⟩)
      have ec : cutV (natsV rs) (some 1) none = natsV (rs.drop 1) := (cut_from _ 1).trans (by unfold natsV; rw [List.map_drop])
      rw [ec]
      have dl1 : (rs.drop 1).length = rs.length - 1 := List.length_drop
      have s20 : Same H19 (upd (upd H19 l1 (.lst [.int (m : Int)])) B1 (.lst (natsV (rs.drop 1)))) := (Same.new hl1).trans (Same.new hB1)
      have hl20 : upd (upd H19 l1 (.lst [.int (m : Int)])) B1 (.lst (natsV (rs.drop 1))) l1 = some (.lst (natsV [m])) := Same.new hB1 _ _ upd_same
      have hB20 : upd (upd H19 l1 (.lst [.int (m : Int)])) B1 (.lst (natsV (rs.drop 1))) B1 = some (.lst (natsV (rs.drop 1))) := upd_same
      generalize upd (upd H19 l1 (.lst [.int (m : Int)])) B1 (.lst (natsV (rs.drop 1))) = H20 at s20 hl20 hB20
      refine ⟨l1, B1, _, _, rfl, rfl, SqL.of hl20, SqL.of hB20, Nat.le_of_lt (smallL (by rw [natsV_len, natsV_len]; show 1 + _ ≤ _; (first | lia | omega))), fun Ch hCh => ?_⟩
      rw [← natsV_app]
      have s21 : Same H20 (upd H20 Ch (.lst (natsV ([m] ++ rs.drop 1)))) := Same.new hCh
      have hC21 : upd H20 Ch (.lst (natsV ([m] ++ rs.drop 1))) Ch = some (.lst (natsV ([m] ++ rs.drop 1))) := upd_same
      generalize upd H20 Ch (.lst (natsV ([m] ++ rs.drop 1))) = H21 at s21 hC21
      have cl : ([m] ++ rs.drop 1).length = (netOf p ts g).chords.length := by rw [List.length_append, dl1]; show 1 + _ = _; (first | lia | omega)
      have hcr : ∀ x ∈ [m] ++ rs.drop 1, x ∈ ringsL p ts := fun x hx => by
        rcases List.mem_append.mp hx with z | z
        · rw [List.mem_singleton.mp z]; exact hmr
        · exact hlr x (List.mem_of_mem_drop z)
      generalize [m] ++ rs.drop 1 = ch at hC21 cl hcr
      have s1821 := (s19.trans s20).trans s21
      refine (exq rfl (exq rfl ⟨wb, Ch, p, ts, g, castL ch, rfl, hwo.same (s818.trans s1821), by rw [hC21, nats_ints], by (first | lia | omega), by rw [castL_len]; exact cl, good ch hcr, fun H22 wl3 s22 pw3 => ?_⟩))
      refine (ijq ⟨(by (first | lia | omega)), rfl, ?_⟩)
      refine (exq rfl ⟨Ch, ch, decide (V.int (wV p ts g wl3 % 2) = V.int 1), rfl, s22 _ _ hC21, by (first | lia | omega), ?_, fun H23 s23 => ⟨rfl, exq rfl (?_)⟩⟩)
      · rw [← wV_odd pw3 cl (rgs ch hcr), decide_eq_true_eq]
        exact ⟨fun z => V.int.inj z, fun z => congrArg V.int z⟩
      exact iteNS rfl ⟨_, _, rfl, ((s1821.trans s22).trans s23)⟩
    · rintro σ H9 ⟨v7, v8, v9, v10, v11, rfl, s9⟩
      exact fin H9
end
theorem all_mk {l : PySem.W.OpenLaw} {w : World} {K : PySem.W.Frag} {h : Heap} {mg : Str → Option Value} {fa : Addr} (X : K.In h) (G : h.Ns mainGlobals mg) (hfa : mg "law" = some (.ref fa))
    {f0 f1 f2 f3 f4 f5 f6 f7 f8 f9 f10 f11 f12 f13 f14 f15 f16 f17 f18 f19 f20 f21 f22 f23 f24 f25 f26 f27 f28 f29 f30 f31 f32 f33 f34 : Addr} {od0 an0 od1 an1 od2 an2 od3 an3 od4 an4 od5 an5 od6 an6 od7 an7 od8 an8 od9 an9 od10 an10 od11 an11 od12 an12 od13 an13 od14 an14 od15 an15 od16 an16 od17 an17 od18 an18 od19 an19 od20 an20 od21 an21 od22 an22 od23 an23 od24 an24 od25 an25 od26 an26 od27 an27 od28 an28 od29 an29 od30 an30 od31 an31 od32 an32 od33 an33 od34 an34 : Option Addr} {sl0 sl1 sl2 sl3 sl4 sl5 sl6 sl7 sl8 sl9 sl10 sl11 sl12 sl13 sl14 sl15 sl16 sl17 sl18 sl19 sl20 sl21 sl22 sl23 sl24 sl25 sl26 sl27 sl28 sl29 sl30 sl31 sl32 sl33 sl34 : Array (Option Value)}
    {oc0 kV0 dc0 pm0 cd0 ct0 oc1 kV1 dc1 pm1 cd1 ct1 oc2 kV2 dc2 pm2 cd2 ct2 oc3 kV3 dc3 pm3 cd3 ct3 oc4 kV4 dc4 pm4 cd4 ct4 oc5 kV5 dc5 pm5 cd5 ct5 oc6 kV6 dc6 pm6 cd6 ct6 oc7 kV7 dc7 pm7 cd7 ct7 oc8 kV8 dc8 pm8 cd8 ct8 oc9 kV9 dc9 pm9 cd9 ct9 oc10 kV10 dc10 pm10 cd10 ct10 oc11 kV11 dc11 pm11 cd11 ct11 oc12 kV12 dc12 pm12 cd12 ct12 oc13 kV13 dc13 pm13 cd13 ct13 oc14 kV14 dc14 pm14 cd14 ct14 oc15 kV15 dc15 pm15 cd15 ct15 oc16 kV16 dc16 pm16 cd16 ct16 oc17 kV17 dc17 pm17 cd17 ct17 oc18 kV18 dc18 pm18 cd18 ct18 oc19 kV19 dc19 pm19 cd19 ct19 oc20 kV20 dc20 pm20 cd20 ct20 oc21 kV21 dc21 pm21 cd21 ct21 oc22 kV22 dc22 pm22 cd22 ct22 oc23 kV23 dc23 pm23 cd23 ct23 oc24 kV24 dc24 pm24 cd24 ct24 oc25 kV25 dc25 pm25 cd25 ct25 oc26 kV26 dc26 pm26 cd26 ct26 oc27 kV27 dc27 pm27 cd27 ct27 oc28 kV28 dc28 pm28 cd28 ct28 oc29 kV29 dc29 pm29 cd29 ct29 oc30 kV30 dc30 pm30 cd30 ct30 oc31 kV31 dc31 pm31 cd31 ct31 oc32 kV32 dc32 pm32 cd32 ct32 oc33 kV33 dc33 pm33 cd33 ct33 oc34 kV34 dc34 pm34 cd34 ct34 : Value}
    {u_BadSet u_NotRing u_NoBase : Addr}
    (a0 : PySem.W.nsIn K mainGlobals "has_tie" = some (some (.ref f0)))
    (l0 : K.lookup f0 = some ⟨oc0, od0, .func (PySem.W.fnOf "has_tie" "has_tie" (defArgs s_has_tie) (defBody s_has_tie) (defScope s_has_tie) .none kV0 dc0 pm0 an0 cd0 ct0), sl0⟩)
    (c0 : PySem.W.codeIn K cd0 "has_tie" = true) (k0 : PySem.W.keepIn K (.ref f0) = true)
    (a1 : PySem.W.nsIn K mainGlobals "ties_in" = some (some (.ref f1)))
    (l1 : K.lookup f1 = some ⟨oc1, od1, .func (PySem.W.fnOf "ties_in" "ties_in" (defArgs s_ties_in) (defBody s_ties_in) (defScope s_ties_in) .none kV1 dc1 pm1 an1 cd1 ct1), sl1⟩)
    (c1 : PySem.W.codeIn K cd1 "ties_in" = true) (k1 : PySem.W.keepIn K (.ref f1) = true)
    (a2 : PySem.W.nsIn K mainGlobals "all_ties" = some (some (.ref f2)))
    (l2 : K.lookup f2 = some ⟨oc2, od2, .func (PySem.W.fnOf "all_ties" "all_ties" (defArgs s_all_ties) (defBody s_all_ties) (defScope s_all_ties) .none kV2 dc2 pm2 an2 cd2 ct2), sl2⟩)
    (c2 : PySem.W.codeIn K cd2 "all_ties" = true) (k2 : PySem.W.keepIn K (.ref f2) = true)
    (a3 : PySem.W.nsIn K mainGlobals "is_set" = some (some (.ref f3)))
    (l3 : K.lookup f3 = some ⟨oc3, od3, .func (PySem.W.fnOf "is_set" "is_set" (defArgs s_is_set) (defBody s_is_set) (defScope s_is_set) .none kV3 dc3 pm3 an3 cd3 ct3), sl3⟩)
    (c3 : PySem.W.codeIn K cd3 "is_set" = true) (k3 : PySem.W.keepIn K (.ref f3) = true)
    (a4 : PySem.W.nsIn K mainGlobals "check_set" = some (some (.ref f4)))
    (l4 : K.lookup f4 = some ⟨oc4, od4, .func (PySem.W.fnOf "check_set" "check_set" (defArgs s_check_set) (defBody s_check_set) (defScope s_check_set) .none kV4 dc4 pm4 an4 cd4 ct4), sl4⟩)
    (c4 : PySem.W.codeIn K cd4 "check_set" = true) (k4 : PySem.W.keepIn K (.ref f4) = true)
    (a5 : PySem.W.nsIn K mainGlobals "triples_in" = some (some (.ref f5)))
    (l5 : K.lookup f5 = some ⟨oc5, od5, .func (PySem.W.fnOf "triples_in" "triples_in" (defArgs s_triples_in) (defBody s_triples_in) (defScope s_triples_in) .none kV5 dc5 pm5 an5 cd5 ct5), sl5⟩)
    (c5 : PySem.W.codeIn K cd5 "triples_in" = true) (k5 : PySem.W.keepIn K (.ref f5) = true)
    (a6 : PySem.W.nsIn K mainGlobals "odd_points" = some (some (.ref f6)))
    (l6 : K.lookup f6 = some ⟨oc6, od6, .func (PySem.W.fnOf "odd_points" "odd_points" (defArgs s_odd_points) (defBody s_odd_points) (defScope s_odd_points) .none kV6 dc6 pm6 an6 cd6 ct6), sl6⟩)
    (c6 : PySem.W.codeIn K cd6 "odd_points" = true) (k6 : PySem.W.keepIn K (.ref f6) = true)
    (a7 : PySem.W.nsIn K mainGlobals "drawn_together" = some (some (.ref f7)))
    (l7 : K.lookup f7 = some ⟨oc7, od7, .func (PySem.W.fnOf "drawn_together" "drawn_together" (defArgs s_drawn_together) (defBody s_drawn_together) (defScope s_drawn_together) .none kV7 dc7 pm7 an7 cd7 ct7), sl7⟩)
    (c7 : PySem.W.codeIn K cd7 "drawn_together" = true) (k7 : PySem.W.keepIn K (.ref f7) = true)
    (a8 : PySem.W.nsIn K mainGlobals "pieces" = some (some (.ref f8)))
    (l8 : K.lookup f8 = some ⟨oc8, od8, .func (PySem.W.fnOf "pieces" "pieces" (defArgs s_pieces) (defBody s_pieces) (defScope s_pieces) .none kV8 dc8 pm8 an8 cd8 ct8), sl8⟩)
    (c8 : PySem.W.codeIn K cd8 "pieces" = true) (k8 : PySem.W.keepIn K (.ref f8) = true)
    (a9 : PySem.W.nsIn K mainGlobals "rank" = some (some (.ref f9)))
    (l9 : K.lookup f9 = some ⟨oc9, od9, .func (PySem.W.fnOf "rank" "rank" (defArgs s_rank) (defBody s_rank) (defScope s_rank) .none kV9 dc9 pm9 an9 cd9 ct9), sl9⟩)
    (c9 : PySem.W.codeIn K cd9 "rank" = true) (k9 : PySem.W.keepIn K (.ref f9) = true)
    (a10 : PySem.W.nsIn K mainGlobals "is_even" = some (some (.ref f10)))
    (l10 : K.lookup f10 = some ⟨oc10, od10, .func (PySem.W.fnOf "is_even" "is_even" (defArgs s_is_even) (defBody s_is_even) (defScope s_is_even) .none kV10 dc10 pm10 an10 cd10 ct10), sl10⟩)
    (c10 : PySem.W.codeIn K cd10 "is_even" = true) (k10 : PySem.W.keepIn K (.ref f10) = true)
    (a11 : PySem.W.nsIn K mainGlobals "forest_trails" = some (some (.ref f11)))
    (l11 : K.lookup f11 = some ⟨oc11, od11, .func (PySem.W.fnOf "forest_trails" "forest_trails" (defArgs s_forest_trails) (defBody s_forest_trails) (defScope s_forest_trails) .none kV11 dc11 pm11 an11 cd11 ct11), sl11⟩)
    (c11 : PySem.W.codeIn K cd11 "forest_trails" = true) (k11 : PySem.W.keepIn K (.ref f11) = true)
    (a12 : PySem.W.nsIn K mainGlobals "forest" = some (some (.ref f12)))
    (l12 : K.lookup f12 = some ⟨oc12, od12, .func (PySem.W.fnOf "forest" "forest" (defArgs s_forest) (defBody s_forest) (defScope s_forest) .none kV12 dc12 pm12 an12 cd12 ct12), sl12⟩)
    (c12 : PySem.W.codeIn K cd12 "forest" = true) (k12 : PySem.W.keepIn K (.ref f12) = true)
    (a13 : PySem.W.nsIn K mainGlobals "chords" = some (some (.ref f13)))
    (l13 : K.lookup f13 = some ⟨oc13, od13, .func (PySem.W.fnOf "chords" "chords" (defArgs s_chords) (defBody s_chords) (defScope s_chords) .none kV13 dc13 pm13 an13 cd13 ct13), sl13⟩)
    (c13 : PySem.W.codeIn K cd13 "chords" = true) (k13 : PySem.W.keepIn K (.ref f13) = true)
    (a14 : PySem.W.nsIn K mainGlobals "is_ring" = some (some (.ref f14)))
    (l14 : K.lookup f14 = some ⟨oc14, od14, .func (PySem.W.fnOf "is_ring" "is_ring" (defArgs s_is_ring) (defBody s_is_ring) (defScope s_is_ring) .none kV14 dc14 pm14 an14 cd14 ct14), sl14⟩)
    (c14 : PySem.W.codeIn K cd14 "is_ring" = true) (k14 : PySem.W.keepIn K (.ref f14) = true)
    (a15 : PySem.W.nsIn K mainGlobals "check_ring" = some (some (.ref f15)))
    (l15 : K.lookup f15 = some ⟨oc15, od15, .func (PySem.W.fnOf "check_ring" "check_ring" (defArgs s_check_ring) (defBody s_check_ring) (defScope s_check_ring) .none kV15 dc15 pm15 an15 cd15 ct15), sl15⟩)
    (c15 : PySem.W.codeIn K cd15 "check_ring" = true) (k15 : PySem.W.keepIn K (.ref f15) = true)
    (a16 : PySem.W.nsIn K mainGlobals "tie_at" = some (some (.ref f16)))
    (l16 : K.lookup f16 = some ⟨oc16, od16, .func (PySem.W.fnOf "tie_at" "tie_at" (defArgs s_tie_at) (defBody s_tie_at) (defScope s_tie_at) .none kV16 dc16 pm16 an16 cd16 ct16), sl16⟩)
    (c16 : PySem.W.codeIn K cd16 "tie_at" = true) (k16 : PySem.W.keepIn K (.ref f16) = true)
    (a17 : PySem.W.nsIn K mainGlobals "far_end" = some (some (.ref f17)))
    (l17 : K.lookup f17 = some ⟨oc17, od17, .func (PySem.W.fnOf "far_end" "far_end" (defArgs s_far_end) (defBody s_far_end) (defScope s_far_end) .none kV17 dc17 pm17 an17 cd17 ct17), sl17⟩)
    (c17 : PySem.W.codeIn K cd17 "far_end" = true) (k17 : PySem.W.keepIn K (.ref f17) = true)
    (a18 : PySem.W.nsIn K mainGlobals "walked" = some (some (.ref f18)))
    (l18 : K.lookup f18 = some ⟨oc18, od18, .func (PySem.W.fnOf "walked" "walked" (defArgs s_walked) (defBody s_walked) (defScope s_walked) .none kV18 dc18 pm18 an18 cd18 ct18), sl18⟩)
    (c18 : PySem.W.codeIn K cd18 "walked" = true) (k18 : PySem.W.keepIn K (.ref f18) = true)
    (a19 : PySem.W.nsIn K mainGlobals "row_to_lead" = some (some (.ref f19)))
    (l19 : K.lookup f19 = some ⟨oc19, od19, .func (PySem.W.fnOf "row_to_lead" "row_to_lead" (defArgs s_row_to_lead) (defBody s_row_to_lead) (defScope s_row_to_lead) .none kV19 dc19 pm19 an19 cd19 ct19), sl19⟩)
    (c19 : PySem.W.codeIn K cd19 "row_to_lead" = true) (k19 : PySem.W.keepIn K (.ref f19) = true)
    (a20 : PySem.W.nsIn K mainGlobals "row_cleared" = some (some (.ref f20)))
    (l20 : K.lookup f20 = some ⟨oc20, od20, .func (PySem.W.fnOf "row_cleared" "row_cleared" (defArgs s_row_cleared) (defBody s_row_cleared) (defScope s_row_cleared) .none kV20 dc20 pm20 an20 cd20 ct20), sl20⟩)
    (c20 : PySem.W.codeIn K cd20 "row_cleared" = true) (k20 : PySem.W.keepIn K (.ref f20) = true)
    (a21 : PySem.W.nsIn K mainGlobals "determinant" = some (some (.ref f21)))
    (l21 : K.lookup f21 = some ⟨oc21, od21, .func (PySem.W.fnOf "determinant" "determinant" (defArgs s_determinant) (defBody s_determinant) (defScope s_determinant) .none kV21 dc21 pm21 an21 cd21 ct21), sl21⟩)
    (c21 : PySem.W.codeIn K cd21 "determinant" = true) (k21 : PySem.W.keepIn K (.ref f21) = true)
    (a22 : PySem.W.nsIn K mainGlobals "ways_of" = some (some (.ref f22)))
    (l22 : K.lookup f22 = some ⟨oc22, od22, .func (PySem.W.fnOf "ways_of" "ways_of" (defArgs s_ways_of) (defBody s_ways_of) (defScope s_ways_of) .none kV22 dc22 pm22 an22 cd22 ct22), sl22⟩)
    (c22 : PySem.W.codeIn K cd22 "ways_of" = true) (k22 : PySem.W.keepIn K (.ref f22) = true)
    (a23 : PySem.W.nsIn K mainGlobals "ring_worth" = some (some (.ref f23)))
    (l23 : K.lookup f23 = some ⟨oc23, od23, .func (PySem.W.fnOf "ring_worth" "ring_worth" (defArgs s_ring_worth) (defBody s_ring_worth) (defScope s_ring_worth) .none kV23 dc23 pm23 an23 cd23 ct23), sl23⟩)
    (c23 : PySem.W.codeIn K cd23 "ring_worth" = true) (k23 : PySem.W.keepIn K (.ref f23) = true)
    (a24 : PySem.W.nsIn K mainGlobals "_law_cell" = some (some (.ref f24)))
    (l24 : K.lookup f24 = some ⟨oc24, od24, .func (PySem.W.fnOf "_law_cell" "_law_cell" (defArgs s_law_cell) (defBody s_law_cell) (defScope s_law_cell) .none kV24 dc24 pm24 an24 cd24 ct24), sl24⟩)
    (c24 : PySem.W.codeIn K cd24 "_law_cell" = true) (k24 : PySem.W.keepIn K (.ref f24) = true)
    (a25 : PySem.W.nsIn K mainGlobals "_law_stir" = some (some (.ref f25)))
    (l25 : K.lookup f25 = some ⟨oc25, od25, .func (PySem.W.fnOf "_law_stir" "_law_stir" (defArgs s_law_stir) (defBody s_law_stir) (defScope s_law_stir) .none kV25 dc25 pm25 an25 cd25 ct25), sl25⟩)
    (c25 : PySem.W.codeIn K cd25 "_law_stir" = true) (k25 : PySem.W.keepIn K (.ref f25) = true)
    (a26 : PySem.W.nsIn K mainGlobals "_law_tie" = some (some (.ref f26)))
    (l26 : K.lookup f26 = some ⟨oc26, od26, .func (PySem.W.fnOf "_law_tie" "_law_tie" (defArgs s_law_tie) (defBody s_law_tie) (defScope s_law_tie) .none kV26 dc26 pm26 an26 cd26 ct26), sl26⟩)
    (c26 : PySem.W.codeIn K cd26 "_law_tie" = true) (k26 : PySem.W.keepIn K (.ref f26) = true)
    (a27 : PySem.W.nsIn K mainGlobals "_law_web" = some (some (.ref f27)))
    (l27 : K.lookup f27 = some ⟨oc27, od27, .func (PySem.W.fnOf "_law_web" "_law_web" (defArgs s_law_web) (defBody s_law_web) (defScope s_law_web) .none kV27 dc27 pm27 an27 cd27 ct27), sl27⟩)
    (c27 : PySem.W.codeIn K cd27 "_law_web" = true) (k27 : PySem.W.keepIn K (.ref f27) = true)
    (a28 : PySem.W.nsIn K mainGlobals "_law_ties" = some (some (.ref f28)))
    (l28 : K.lookup f28 = some ⟨oc28, od28, .func (PySem.W.fnOf "_law_ties" "_law_ties" (defArgs s_law_ties) (defBody s_law_ties) (defScope s_law_ties) .none kV28 dc28 pm28 an28 cd28 ct28), sl28⟩)
    (c28 : PySem.W.codeIn K cd28 "_law_ties" = true) (k28 : PySem.W.keepIn K (.ref f28) = true)
    (a29 : PySem.W.nsIn K mainGlobals "_law_odd" = some (some (.ref f29)))
    (l29 : K.lookup f29 = some ⟨oc29, od29, .func (PySem.W.fnOf "_law_odd" "_law_odd" (defArgs s_law_odd) (defBody s_law_odd) (defScope s_law_odd) .none kV29 dc29 pm29 an29 cd29 ct29), sl29⟩)
    (c29 : PySem.W.codeIn K cd29 "_law_odd" = true) (k29 : PySem.W.keepIn K (.ref f29) = true)
    (a30 : PySem.W.nsIn K mainGlobals "_law_rings" = some (some (.ref f30)))
    (l30 : K.lookup f30 = some ⟨oc30, od30, .func (PySem.W.fnOf "_law_rings" "_law_rings" (defArgs s_law_rings) (defBody s_law_rings) (defScope s_law_rings) .none kV30 dc30 pm30 an30 cd30 ct30), sl30⟩)
    (c30 : PySem.W.codeIn K cd30 "_law_rings" = true) (k30 : PySem.W.keepIn K (.ref f30) = true)
    (a31 : PySem.W.nsIn K mainGlobals "_law_sums" = some (some (.ref f31)))
    (l31 : K.lookup f31 = some ⟨oc31, od31, .func (PySem.W.fnOf "_law_sums" "_law_sums" (defArgs s_law_sums) (defBody s_law_sums) (defScope s_law_sums) .none kV31 dc31 pm31 an31 cd31 ct31), sl31⟩)
    (c31 : PySem.W.codeIn K cd31 "_law_sums" = true) (k31 : PySem.W.keepIn K (.ref f31) = true)
    (a32 : PySem.W.nsIn K mainGlobals "_law_is_base" = some (some (.ref f32)))
    (l32 : K.lookup f32 = some ⟨oc32, od32, .func (PySem.W.fnOf "_law_is_base" "_law_is_base" (defArgs s_law_is_base) (defBody s_law_is_base) (defScope s_law_is_base) .none kV32 dc32 pm32 an32 cd32 ct32), sl32⟩)
    (c32 : PySem.W.codeIn K cd32 "_law_is_base" = true) (k32 : PySem.W.keepIn K (.ref f32) = true)
    (a33 : PySem.W.nsIn K mainGlobals "_law_moved" = some (some (.ref f33)))
    (l33 : K.lookup f33 = some ⟨oc33, od33, .func (PySem.W.fnOf "_law_moved" "_law_moved" (defArgs s_law_moved) (defBody s_law_moved) (defScope s_law_moved) .none kV33 dc33 pm33 an33 cd33 ct33), sl33⟩)
    (c33 : PySem.W.codeIn K cd33 "_law_moved" = true) (k33 : PySem.W.keepIn K (.ref f33) = true)
    (a34 : PySem.W.nsIn K mainGlobals "law" = some (some (.ref f34)))
    (l34 : K.lookup f34 = some ⟨oc34, od34, .func (PySem.W.fnOf "law" "law" (defArgs s_law) (defBody s_law) (defScope s_law) .none kV34 dc34 pm34 an34 cd34 ct34), sl34⟩)
    (c34 : PySem.W.codeIn K cd34 "law" = true) (k34 : PySem.W.keepIn K (.ref f34) = true)
    (z_ValueError : PySem.W.nsIn K mainGlobals "ValueError" = some none)
    (z_abs : PySem.W.nsIn K mainGlobals "abs" = some none)
    (z_len : PySem.W.nsIn K mainGlobals "len" = some none)
    (z_list : PySem.W.nsIn K mainGlobals "list" = some none)
    (z_max : PySem.W.nsIn K mainGlobals "max" = some none)
    (z_min : PySem.W.nsIn K mainGlobals "min" = some none)
    (z_range : PySem.W.nsIn K mainGlobals "range" = some none)
    (z_reversed : PySem.W.nsIn K mainGlobals "reversed" = some none)
    (z_sum : PySem.W.nsIn K mainGlobals "sum" = some none)
    (z_tuple : PySem.W.nsIn K mainGlobals "tuple" = some none)
    (z_zip : PySem.W.nsIn K mainGlobals "zip" = some none)
    (d_BadSet : PySem.W.nsIn K mainGlobals "BadSet" = some (some (.ref u_BadSet)))
    (d_NotRing : PySem.W.nsIn K mainGlobals "NotRing" = some (some (.ref u_NotRing)))
    (d_NoBase : PySem.W.nsIn K mainGlobals "NoBase" = some (some (.ref u_NoBase)))
    (xc_NoBase : PySem.W.excIn K u_NoBase [.type "ValueError", .type "Exception", .type "BaseException", .type "object"] "ValueError.__new__" = true)
    (xc_BadSet : PySem.W.excIn K u_BadSet [.type "ValueError", .type "Exception", .type "BaseException", .type "object"] "ValueError.__new__" = true)
    (xc_NotRing : PySem.W.excIn K u_NotRing [.type "ValueError", .type "Exception", .type "BaseException", .type "object"] "ValueError.__new__" = true)
    : ∃ fd : FuncData, (∀ (s : Shared) (v : Value), BindsTo s fd ⟨[v], []⟩ [("script", v)]) ∧ ∀ base : Heap, K.In base → base.Ns mainGlobals mg → FnOk l.prog w K mg base CX0 12 fa fd ["script"] (sp_law K) := by
  have e := hfa.symm.trans (PySem.W.mg_of X G a34)
  cases e
  have F0 := fun_mk (st := s_has_tie) l0 c0 k0
  have b0 := F0.binds (ps := ["tie_set", "tie"]) fun _ _ _ _ _ _ us hl => by obtain ⟨_, _, rfl⟩ := len2 us hl; rfl
  have F1 := fun_mk (st := s_ties_in) l1 c1 k1
  have b1 := F1.binds (ps := ["tie_set"]) fun _ _ _ _ _ _ us hl => by obtain ⟨_, rfl⟩ := len1 us hl; rfl
  have F2 := fun_mk (st := s_all_ties) l2 c2 k2
  have b2 := F2.binds (ps := ["web"]) fun _ _ _ _ _ _ us hl => by obtain ⟨_, rfl⟩ := len1 us hl; rfl
  have F3 := fun_mk (st := s_is_set) l3 c3 k3
  have b3 := F3.binds (ps := ["web", "number"]) fun _ _ _ _ _ _ us hl => by obtain ⟨_, _, rfl⟩ := len2 us hl; rfl
  have F4 := fun_mk (st := s_check_set) l4 c4 k4
  have b4 := F4.binds (ps := ["web", "tie_set"]) fun _ _ _ _ _ _ us hl => by obtain ⟨_, _, rfl⟩ := len2 us hl; rfl
  have F5 := fun_mk (st := s_triples_in) l5 c5 k5
  have b5 := F5.binds (ps := ["web", "tie_set"]) fun _ _ _ _ _ _ us hl => by obtain ⟨_, _, rfl⟩ := len2 us hl; rfl
  have F6 := fun_mk (st := s_odd_points) l6 c6 k6
  have b6 := F6.binds (ps := ["web", "tie_set"]) fun _ _ _ _ _ _ us hl => by obtain ⟨_, _, rfl⟩ := len2 us hl; rfl
  have F7 := fun_mk (st := s_drawn_together) l7 c7 k7
  have b7 := F7.binds (ps := ["leasts", "one", "other"]) fun _ _ _ _ _ _ us hl => by obtain ⟨_, _, _, rfl⟩ := len3 us hl; rfl
  have F8 := fun_mk (st := s_pieces) l8 c8 k8
  have b8 := F8.binds (ps := ["web", "tie_set"]) fun _ _ _ _ _ _ us hl => by obtain ⟨_, _, rfl⟩ := len2 us hl; rfl
  have F9 := fun_mk (st := s_rank) l9 c9 k9
  have b9 := F9.binds (ps := ["web"]) fun _ _ _ _ _ _ us hl => by obtain ⟨_, rfl⟩ := len1 us hl; rfl
  have F10 := fun_mk (st := s_is_even) l10 c10 k10
  have b10 := F10.binds (ps := ["web", "tie_set"]) fun _ _ _ _ _ _ us hl => by obtain ⟨_, _, rfl⟩ := len2 us hl; rfl
  have F11 := fun_mk (st := s_forest_trails) l11 c11 k11
  have b11 := F11.binds (ps := ["web"]) fun _ _ _ _ _ _ us hl => by obtain ⟨_, rfl⟩ := len1 us hl; rfl
  have F12 := fun_mk (st := s_forest) l12 c12 k12
  have b12 := F12.binds (ps := ["web"]) fun _ _ _ _ _ _ us hl => by obtain ⟨_, rfl⟩ := len1 us hl; rfl
  have F13 := fun_mk (st := s_chords) l13 c13 k13
  have b13 := F13.binds (ps := ["web"]) fun _ _ _ _ _ _ us hl => by obtain ⟨_, rfl⟩ := len1 us hl; rfl
  have F14 := fun_mk (st := s_is_ring) l14 c14 k14
  have b14 := F14.binds (ps := ["web", "tie_set"]) fun _ _ _ _ _ _ us hl => by obtain ⟨_, _, rfl⟩ := len2 us hl; rfl
  have F15 := fun_mk (st := s_check_ring) l15 c15 k15
  have b15 := F15.binds (ps := ["web", "ring"]) fun _ _ _ _ _ _ us hl => by obtain ⟨_, _, rfl⟩ := len2 us hl; rfl
  have F16 := fun_mk (st := s_tie_at) l16 c16 k16
  have b16 := F16.binds (ps := ["web", "tie_set", "point"]) fun _ _ _ _ _ _ us hl => by obtain ⟨_, _, _, rfl⟩ := len3 us hl; rfl
  have F17 := fun_mk (st := s_far_end) l17 c17 k17
  have b17 := F17.binds (ps := ["web", "tie", "point"]) fun _ _ _ _ _ _ us hl => by obtain ⟨_, _, _, rfl⟩ := len3 us hl; rfl
  have F18 := fun_mk (st := s_walked) l18 c18 k18
  have b18 := F18.binds (ps := ["web", "ring"]) fun _ _ _ _ _ _ us hl => by obtain ⟨_, _, rfl⟩ := len2 us hl; rfl
  have F19 := fun_mk (st := s_row_to_lead) l19 c19 k19
  have b19 := F19.binds (ps := ["rows", "step"]) fun _ _ _ _ _ _ us hl => by obtain ⟨_, _, rfl⟩ := len2 us hl; rfl
  have F20 := fun_mk (st := s_row_cleared) l20 c20 k20
  have b20 := F20.binds (ps := ["row", "lead_row", "step", "divisor"]) fun _ _ _ _ _ _ us hl => by obtain ⟨_, _, _, _, rfl⟩ := len4 us hl; rfl
  have F21 := fun_mk (st := s_determinant) l21 c21 k21
  have b21 := F21.binds (ps := ["table"]) fun _ _ _ _ _ _ us hl => by obtain ⟨_, rfl⟩ := len1 us hl; rfl
  have F22 := fun_mk (st := s_ways_of) l22 c22 k22
  have b22 := F22.binds (ps := ["web", "ring"]) fun _ _ _ _ _ _ us hl => by obtain ⟨_, _, rfl⟩ := len2 us hl; rfl
  have F23 := fun_mk (st := s_ring_worth) l23 c23 k23
  have b23 := F23.binds (ps := ["web", "rings"]) fun _ _ _ _ _ _ us hl => by obtain ⟨_, _, rfl⟩ := len2 us hl; rfl
  have F24 := fun_mk (st := s_law_cell) l24 c24 k24
  have b24 := F24.binds (ps := ["script", "k"]) fun _ _ _ _ _ _ us hl => by obtain ⟨_, _, rfl⟩ := len2 us hl; rfl
  have F25 := fun_mk (st := s_law_stir) l25 c25 k25
  have b25 := F25.binds (ps := ["cell", "k"]) fun _ _ _ _ _ _ us hl => by obtain ⟨_, _, rfl⟩ := len2 us hl; rfl
  have F26 := fun_mk (st := s_law_tie) l26 c26 k26
  have b26 := F26.binds (ps := ["c", "points", "times"]) fun _ _ _ _ _ _ us hl => by obtain ⟨_, _, _, rfl⟩ := len3 us hl; rfl
  have F27 := fun_mk (st := s_law_web) l27 c27 k27
  have b27 := F27.binds (ps := ["script", "most"]) fun _ _ _ _ _ _ us hl => by obtain ⟨_, _, rfl⟩ := len2 us hl; rfl
  have F28 := fun_mk (st := s_law_ties) l28 c28 k28
  have b28 := F28.binds (ps := ["some"]) fun _ _ _ _ _ _ us hl => by obtain ⟨_, rfl⟩ := len1 us hl; rfl
  have F29 := fun_mk (st := s_law_odd) l29 c29 k29
  have b29 := F29.binds (ps := ["web", "some"]) fun _ _ _ _ _ _ us hl => by obtain ⟨_, _, rfl⟩ := len2 us hl; rfl
  have F30 := fun_mk (st := s_law_rings) l30 c30 k30
  have b30 := F30.binds (ps := ["web"]) fun _ _ _ _ _ _ us hl => by obtain ⟨_, rfl⟩ := len1 us hl; rfl
  have F31 := fun_mk (st := s_law_sums) l31 c31 k31
  have b31 := F31.binds (ps := ["rings"]) fun _ _ _ _ _ _ us hl => by obtain ⟨_, rfl⟩ := len1 us hl; rfl
  have F32 := fun_mk (st := s_law_is_base) l32 c32 k32
  have b32 := F32.binds (ps := ["rings"]) fun _ _ _ _ _ _ us hl => by obtain ⟨_, rfl⟩ := len1 us hl; rfl
  have F33 := fun_mk (st := s_law_moved) l33 c33 k33
  have b33 := F33.binds (ps := ["web", "ring", "order"]) fun _ _ _ _ _ _ us hl => by obtain ⟨_, _, _, rfl⟩ := len3 us hl; rfl
  have F34 := fun_mk (st := s_law) l34 c34 k34
  have b34 := F34.binds (ps := ["script"]) fun _ _ _ _ _ _ us hl => by obtain ⟨_, rfl⟩ := len1 us hl; rfl
  have T : Txt K mg ⟨f0, _, f1, _, f2, _, f3, _, f4, _, f5, _, f6, _, f7, _, f8, _, f9, _, f10, _, f11, _, f12, _, f13, _, f14, _, f15, _, f16, _, f17, _, f18, _, f19, _, f20, _, f21, _, f22, _, f23, _, f24, _, f25, _, f26, _, f27, _, f28, _, f29, _, f30, _, f31, _, f32, _, f33, _, fa, _, u_BadSet, u_NotRing, u_NoBase⟩ := ⟨F0, PySem.W.mg_of X G a0, b0, F1, PySem.W.mg_of X G a1, b1, F2, PySem.W.mg_of X G a2, b2, F3, PySem.W.mg_of X G a3, b3, F4, PySem.W.mg_of X G a4, b4, F5, PySem.W.mg_of X G a5, b5, F6, PySem.W.mg_of X G a6, b6, F7, PySem.W.mg_of X G a7, b7, F8, PySem.W.mg_of X G a8, b8, F9, PySem.W.mg_of X G a9, b9, F10, PySem.W.mg_of X G a10, b10, F11, PySem.W.mg_of X G a11, b11, F12, PySem.W.mg_of X G a12, b12, F13, PySem.W.mg_of X G a13, b13, F14, PySem.W.mg_of X G a14, b14, F15, PySem.W.mg_of X G a15, b15, F16, PySem.W.mg_of X G a16, b16, F17, PySem.W.mg_of X G a17, b17, F18, PySem.W.mg_of X G a18, b18, F19, PySem.W.mg_of X G a19, b19, F20, PySem.W.mg_of X G a20, b20, F21, PySem.W.mg_of X G a21, b21, F22, PySem.W.mg_of X G a22, b22, F23, PySem.W.mg_of X G a23, b23, F24, PySem.W.mg_of X G a24, b24, F25, PySem.W.mg_of X G a25, b25, F26, PySem.W.mg_of X G a26, b26, F27, PySem.W.mg_of X G a27, b27, F28, PySem.W.mg_of X G a28, b28, F29, PySem.W.mg_of X G a29, b29, F30, PySem.W.mg_of X G a30, b30, F31, PySem.W.mg_of X G a31, b31, F32, PySem.W.mg_of X G a32, b32, F33, PySem.W.mg_of X G a33, b33, F34, PySem.W.mg_of X G a34, b34, PySem.W.mg_none_of X G z_ValueError, PySem.W.mg_none_of X G z_abs, PySem.W.mg_none_of X G z_len, PySem.W.mg_none_of X G z_list, PySem.W.mg_none_of X G z_max, PySem.W.mg_none_of X G z_min, PySem.W.mg_none_of X G z_range, PySem.W.mg_none_of X G z_reversed, PySem.W.mg_none_of X G z_sum, PySem.W.mg_none_of X G z_tuple, PySem.W.mg_none_of X G z_zip, PySem.W.mg_of X G d_BadSet, PySem.W.mg_of X G d_NotRing, PySem.W.mg_of X G d_NoBase, fun h1 X1 G1 => own_of X1 G1 d_NoBase xc_NoBase, fun h1 X1 G1 => own_of X1 G1 d_BadSet xc_BadSet, fun h1 X1 G1 => own_of X1 G1 d_NotRing xc_NotRing⟩
  exact ⟨PySem.W.fnOf "law" "law" (defArgs s_law) (defBody s_law) (defScope s_law) .none kV34 dc34 pm34 an34 cd34 ct34, fun s v => .of_eq rfl, fun base _ _ => G_law T⟩
theorem walk {l : PySem.W.OpenLaw} {q : Program} {loose : List Str} {XP : (Str → Option Value) → Heap → Prop} {YP : World → Heap → Prop} {d : DefRec} {K : Params → PySem.W.Frag} (hn : l.most = some 63) (hdf : d.params.defaults = [])
    (hY : ∀ (w : World) (h : Heap), YP w h → (K w.params).In h)
    (F : ∀ (w : World) (mg : Str → Option Value) (fa : Addr) (h : Heap), (K w.params).In h → h.Ns mainGlobals mg → mg d.name = some (.ref fa) →
      ∃ fd : FuncData, (∀ (s : Shared) (u : Value), BindsTo s fd ⟨[u], []⟩ [("script", u)]) ∧ ∀ base : Heap, (K w.params).In base → base.Ns mainGlobals mg → FnOk l.prog w (K w.params) mg base CX0 12 fa fd ["script"] (sp_law (K w.params))) :
    PySem.W.WalkO q loose XP YP l.row.toRowW d [] (fun f vs => PySem.call f vs) :=
  L2.walk_of (n := 63) (k := 12) (x := "script") (CX := fun _ => CX0) (sp := fun w => sp_law (K w.params)) hn (by decide) hdf ⟨rfl, by decide, by decide⟩ hY F (fun _ _ a ns hl _ hS => ⟨a, ns, rfl, hS, hl, fun _ => rfl⟩) fun _ _ _ _ _ z => z
end K51
def PySem.W.Fast.tw1746195351485950904:=()
def PySem.W.Fast.tw18246369853123422948:=()
def PySem.W.Fast.tw13308963275358381469:=()
def PySem.W.Fast.tw15025631824888206001:=()
def PySem.W.Fast.tw3605346931101604679:=()
def PySem.W.Fast.tw3358210890926086294:=()
def PySem.W.Fast.tw10875638784745834768:=()
def PySem.W.Fast.tw3094477418721354285:=()
def PySem.W.Fast.tw17368261650881235777:=()
def PySem.W.Fast.tw14801309080770283862:=()
def PySem.W.Fast.tw2471796515222172236:=()
def PySem.W.Fast.tw3392969120604594071:=()
def PySem.W.Fast.tw3808762126788063452:=()
def PySem.W.Fast.tw6708756421240024141:=()
def PySem.W.Fast.tw9309809261644607039:=()
def PySem.W.Fast.tw16541523470939745804:=()
def PySem.W.Fast.tw13698530170180662698:=()
def PySem.W.Fast.tw7353416927957173455:=()
def PySem.W.Fast.tw2225139580477625312:=()
def PySem.W.Fast.tw11567165956494648778:=()
def PySem.W.Fast.tw17551816174588476649:=()
def PySem.W.Fast.tw12310121595683413798:=()
def PySem.W.Fast.tw6224824506449176054:=()
def PySem.W.Fast.tw16648170829034208845:=()
def PySem.W.Fast.tw2775201864733429412:=()
def PySem.W.Fast.tw16506970284662129485:=()
def PySem.W.Fast.tw18435119206199480644:=()
def PySem.W.Fast.tw4112333540512608871:=()
def PySem.W.Fast.tw15424790449384155906:=()
def PySem.W.Fast.tw1952821113171493275:=()
def PySem.W.Fast.tw9220923518265325541:=()
def PySem.W.Fast.tw12030411678969141029:=()
def PySem.W.Fast.tw14766668509641335637:=()
def PySem.W.Fast.tw18209345184782530145:=()
def PySem.W.Fast.tw6365503297844102050:=()
def PySem.W.Fast.tw14721175947554957725:=()
def PySem.W.Fast.tw2814469531725347696:=()
def PySem.W.Fast.tw9272533034325896294:=()
def PySem.W.Fast.tw14073898199340977204:=()
def PySem.W.Fast.tw11210947492364861575:=()
def PySem.W.Fast.tw9053286425050547699:=()
def PySem.W.Fast.tw8149975669847906805:=()
def PySem.W.Fast.tw6242373968889809581:=()
def PySem.W.Fast.tw3740483189175365932:=()
def PySem.W.Fast.tw4852280372381963240:=()
def PySem.W.Fast.tw13115433033594183777:=()
def PySem.W.Fast.tw2384743269202455919:=()
def PySem.W.Fast.tw6573016325130867414:=()
def PySem.W.Fast.tw2852186488175425125:=()
def PySem.W.Fast.tw1857913727579225581:=()
def PySem.W.Fast.tw601883631691071035:=()
def PySem.W.Fast.tw1993184398699526744:=()
def PySem.W.Fast.tw6041077963942426032:=()
def PySem.W.Fast.tw13548559130955821531:=()
def PySem.W.Fast.tw10328955002363830692:=()
def PySem.W.Fast.tw17373126199090954084:=()
def PySem.W.Fast.tw16026915210927929769:=()
def PySem.W.Fast.tw9327924516895892155:=()
open PySem PySem.W PyProof.Rows
set_option maxRecDepth 100000 in
set_option maxHeartbeats 0 in
theorem PySem.Challenge.cw_ringbase_k51_whole_worths_of_bases_holds : PySem.Challenge.rw_ringbase_k51_whole_worths_of_bases.Holds := by
  w_on; o_law; k_head; (case hw => w_witness2)
  k_fill
  refine K51.walk (l := PySem.Challenge.rw_ringbase_k51_whole_worths_of_bases) rfl rfl (fun w h Y => PySem.W.kIn_of Y) ?F
  case F =>
    intro w mg fa h KX G hmg
    refine' K51.all_mk KX G hmg ?a0 ?l0 ?c0 ?k0 ?a1 ?l1 ?c1 ?k1 ?a2 ?l2 ?c2 ?k2 ?a3 ?l3 ?c3 ?k3 ?a4 ?l4 ?c4 ?k4 ?a5 ?l5 ?c5 ?k5 ?a6 ?l6 ?c6 ?k6 ?a7 ?l7 ?c7 ?k7 ?a8 ?l8 ?c8 ?k8 ?a9 ?l9 ?c9 ?k9 ?a10 ?l10 ?c10 ?k10 ?a11 ?l11 ?c11 ?k11 ?a12 ?l12 ?c12 ?k12 ?a13 ?l13 ?c13 ?k13 ?a14 ?l14 ?c14 ?k14 ?a15 ?l15 ?c15 ?k15 ?a16 ?l16 ?c16 ?k16 ?a17 ?l17 ?c17 ?k17 ?a18 ?l18 ?c18 ?k18 ?a19 ?l19 ?c19 ?k19 ?a20 ?l20 ?c20 ?k20 ?a21 ?l21 ?c21 ?k21 ?a22 ?l22 ?c22 ?k22 ?a23 ?l23 ?c23 ?k23 ?a24 ?l24 ?c24 ?k24 ?a25 ?l25 ?c25 ?k25 ?a26 ?l26 ?c26 ?k26 ?a27 ?l27 ?c27 ?k27 ?a28 ?l28 ?c28 ?k28 ?a29 ?l29 ?c29 ?k29 ?a30 ?l30 ?c30 ?k30 ?a31 ?l31 ?c31 ?k31 ?a32 ?l32 ?c32 ?k32 ?a33 ?l33 ?c33 ?k33 ?a34 ?l34 ?c34 ?k34 ?z_ValueError ?z_abs ?z_len ?z_list ?z_max ?z_min ?z_range ?z_reversed ?z_sum ?z_tuple ?z_zip ?d_BadSet ?d_NotRing ?d_NoBase ?xc_NoBase ?xc_BadSet ?xc_NotRing
    (case d_BadSet => k_is)
    (case d_NotRing => k_is)
    (case d_NoBase => k_is)
    (case a0 => k_is)
    (case l0 => k_is)
    (case c0 => k_is)
    (case k0 => k_is)
    (case a1 => k_is)
    (case l1 => k_is)
    (case c1 => k_is)
    (case k1 => k_is)
    (case a2 => k_is)
    (case l2 => k_is)
    (case c2 => k_is)
    (case k2 => k_is)
    (case a3 => k_is)
    (case l3 => k_is)
    (case c3 => k_is)
    (case k3 => k_is)
    (case a4 => k_is)
    (case l4 => k_is)
    (case c4 => k_is)
    (case k4 => k_is)
    (case a5 => k_is)
    (case l5 => k_is)
    (case c5 => k_is)
    (case k5 => k_is)
    (case a6 => k_is)
    (case l6 => k_is)
    (case c6 => k_is)
    (case k6 => k_is)
    (case a7 => k_is)
    (case l7 => k_is)
    (case c7 => k_is)
    (case k7 => k_is)
    (case a8 => k_is)
    (case l8 => k_is)
    (case c8 => k_is)
    (case k8 => k_is)
    (case a9 => k_is)
    (case l9 => k_is)
    (case c9 => k_is)
    (case k9 => k_is)
    (case a10 => k_is)
    (case l10 => k_is)
    (case c10 => k_is)
    (case k10 => k_is)
    (case a11 => k_is)
    (case l11 => k_is)
    (case c11 => k_is)
    (case k11 => k_is)
    (case a12 => k_is)
    (case l12 => k_is)
    (case c12 => k_is)
    (case k12 => k_is)
    (case a13 => k_is)
    (case l13 => k_is)
    (case c13 => k_is)
    (case k13 => k_is)
    (case a14 => k_is)
    (case l14 => k_is)
    (case c14 => k_is)
    (case k14 => k_is)
    (case a15 => k_is)
    (case l15 => k_is)
    (case c15 => k_is)
    (case k15 => k_is)
    (case a16 => k_is)
    (case l16 => k_is)
    (case c16 => k_is)
    (case k16 => k_is)
    (case a17 => k_is)
    (case l17 => k_is)
    (case c17 => k_is)
    (case k17 => k_is)
    (case a18 => k_is)
    (case l18 => k_is)
    (case c18 => k_is)
    (case k18 => k_is)
    (case a19 => k_is)
    (case l19 => k_is)
    (case c19 => k_is)
    (case k19 => k_is)
    (case a20 => k_is)
    (case l20 => k_is)
    (case c20 => k_is)
    (case k20 => k_is)
    (case a21 => k_is)
    (case l21 => k_is)
    (case c21 => k_is)
    (case k21 => k_is)
    (case a22 => k_is)
    (case l22 => k_is)
    (case c22 => k_is)
    (case k22 => k_is)
    (case a23 => k_is)
    (case l23 => k_is)
    (case c23 => k_is)
    (case k23 => k_is)
    (case a24 => k_is)
    (case l24 => k_is)
    (case c24 => k_is)
    (case k24 => k_is)
    (case a25 => k_is)
    (case l25 => k_is)
    (case c25 => k_is)
    (case k25 => k_is)
    (case a26 => k_is)
    (case l26 => k_is)
    (case c26 => k_is)
    (case k26 => k_is)
    (case a27 => k_is)
    (case l27 => k_is)
    (case c27 => k_is)
    (case k27 => k_is)
    (case a28 => k_is)
    (case l28 => k_is)
    (case c28 => k_is)
    (case k28 => k_is)
    (case a29 => k_is)
    (case l29 => k_is)
    (case c29 => k_is)
    (case k29 => k_is)
    (case a30 => k_is)
    (case l30 => k_is)
    (case c30 => k_is)
    (case k30 => k_is)
    (case a31 => k_is)
    (case l31 => k_is)
    (case c31 => k_is)
    (case k31 => k_is)
    (case a32 => k_is)
    (case l32 => k_is)
    (case c32 => k_is)
    (case k32 => k_is)
    (case a33 => k_is)
    (case l33 => k_is)
    (case c33 => k_is)
    (case k33 => k_is)
    (case a34 => k_is)
    (case l34 => k_is)
    (case c34 => k_is)
    (case k34 => k_is)
    (case z_ValueError => k_is)
    (case z_abs => k_is)
    (case z_len => k_is)
    (case z_list => k_is)
    (case z_max => k_is)
    (case z_min => k_is)
    (case z_range => k_is)
    (case z_reversed => k_is)
    (case z_sum => k_is)
    (case z_tuple => k_is)
    (case z_zip => k_is)
    (case xc_NoBase => k_exc)
    (case xc_BadSet => k_exc)
    (case xc_NotRing => k_exc)
