import PyProof.Rows.All
import Wide.All
import OpenK.AllK
import Wide.FinOn
import Lean
import PyProof.EqAt
import PyProof.EqKinds
import PyProof.TupleCall
import KE.KDictList
import PyProof.Rows.StrCountLaw
import KE.KIntText
import PyProof.P3In
import PySem.Challenge.RW_deadhand_k17_class_settles
set_option Elab.async false
set_option linter.all false
set_option maxRecDepth 100000
namespace L2
open PySem PySem.Spec PyProof.Rows

noncomputable abbrev Key := Sum Int Str
noncomputable def keyIs : Key → Value → Bool
  | .inl k, v => Value.isInt k v
  | .inr x, v => Value.isStrOf x v
noncomputable def keyH (w : World) : Key → Int
  | .inl k => hashInt k
  | .inr x => hashStr w x
theorem Z3 : ∀ {k : Key} {v : Value}, keyIs k v = true → (∃ i t, k = Sum.inl i ∧ v = Value.int i t) ∨ (∃ x t, k = Sum.inr x ∧ v = Value.str x t)
  | .inl i, v, h => by
    obtain ⟨t, e⟩ := Value.isInt_shape (k := i) (v := v) h
    exact .inl ⟨i, t, rfl, e⟩
  | .inr x, v, h => by
    obtain ⟨t, e⟩ := Value.isStrOf_shape (x := x) (v := v) h
    exact .inr ⟨x, t, rfl, e⟩
theorem keyIs_int (i : Int) (t : Tok) : keyIs (.inl i) (.int i t) = true := by simp [keyIs, Value.isInt]
theorem keyIs_str (x : Str) (t : Tok) : keyIs (.inr x) (.str x t) = true := by simp [keyIs, Value.isStrOf]
theorem key_ll (a b : Int) : decide ((Sum.inl a : Key) = Sum.inl b) = (a == b) := by
  by_cases e : a = b
  · subst e; simp
  · have h : ¬ (Sum.inl a : Key) = Sum.inl b := fun q => e (Sum.inl.inj q)
    rw [decide_eq_false h]
    exact (beq_eq_false_iff_ne.mpr e).symm
theorem key_rr (a b : Str) : decide ((Sum.inr a : Key) = Sum.inr b) = decide (a = b) := by
  by_cases e : a = b
  · subst e; simp
  · have h : ¬ (Sum.inr a : Key) = Sum.inr b := fun q => e (Sum.inr.inj q)
    rw [decide_eq_false h, decide_eq_false e]
theorem key_lr (a : Int) (b : Str) : decide ((Sum.inl a : Key) = Sum.inr b) = false := decide_eq_false (fun q => nomatch q)
theorem key_rl (a : Str) (b : Int) : decide ((Sum.inr a : Key) = Sum.inl b) = false := decide_eq_false (fun q => nomatch q)
noncomputable def Z0 (prog : Program) (w : World) : PySem.KeyKind prog w Key where
  is := keyIs
  hash := keyH w
  inj := fun v a b ha hb => by
    rcases Z3 ha with ⟨i, t, rfl, rfl⟩ | ⟨x, t, rfl, rfl⟩
    · rcases Z3 hb with ⟨j, u, rfl, e⟩ | ⟨y, u, rfl, e⟩
      · injection e with e1 _; rw [e1]
      · exact nomatch e
    · rcases Z3 hb with ⟨j, u, rfl, e⟩ | ⟨y, u, rfl, e⟩
      · exact nomatch e
      · injection e with e1 _; rw [e1]
  byValue := fun k v h => by
    rcases Z3 h with ⟨i, t, rfl, rfl⟩ | ⟨x, t, rfl, rfl⟩ <;> rfl
  pyHash := fun hv h => by
    rcases Z3 hv with ⟨i, t, rfl, rfl⟩ | ⟨x, t, rfl, rfl⟩
    · exact wpAny_pyHash_int h
    · exact wpAny_pyHash_str h
  eqBool := fun hu hv h => by
    rcases Z3 hu with ⟨i, t, rfl, rfl⟩ | ⟨x, t, rfl, rfl⟩
    · rcases Z3 hv with ⟨j, u, rfl, rfl⟩ | ⟨y, u, rfl, rfl⟩
      · rw [key_ll] at h; exact wpAny_eqBool_int h
      · rw [key_lr] at h; exact SeqAt.EqAt.int_str i t y u _ _ _ _ h
    · rcases Z3 hv with ⟨j, u, rfl, rfl⟩ | ⟨y, u, rfl, rfl⟩
      · rw [key_rl] at h; exact SeqAt.EqAt.str_int x t j u _ _ _ _ h
      · rw [key_rr] at h; exact wpAny_eqBool_str h
  «strs» := fun k x t v h => by
    rcases Z3 h with ⟨i, u, rfl, e⟩ | ⟨y, u, rfl, e⟩
    · exact nomatch e
    · injection e with e1 _
      subst e1
      cases v <;> rfl
theorem mixKind_int (prog : Program) (w : World) (i : Int) (t : Tok) : (Z0 prog w).is (.inl i) (.int i t) = true := keyIs_int i t
theorem mixKind_str (prog : Program) (w : World) (x : Str) (t : Tok) : (Z0 prog w).is (.inr x) (.str x t) = true := keyIs_str x t
end L2

namespace L2
open PySem PySem.Spec PyProof.Rows

inductive V where
  | non | bl (b : Bool) | int (i : Int) | str (x : Str) | byt (b : Array UInt8) | flt (b : UInt64) | ref (a : Addr) | ty (n : String)
  deriving DecidableEq
noncomputable def ZE : V → Value → Prop
  | .non, u => u = Value.none
  | .bl b, u => u = Value.bool b
  | .int i, u => ∃ t, u = Value.int i t
  | .str x, u => ∃ t, u = Value.str x t
  | .byt b, u => ∃ t, u = Value.bytes b t
  | .flt b, u => ∃ t, u = Value.float b t
  | .ref a, u => u = Value.ref a
  | .ty n, u => u = Value.type n
noncomputable abbrev ZO : List V → List Value → Prop := Paired ZE
theorem ZO.length {xs : List V} {us : List Value} (r : ZO xs us) : xs.length = us.length := Paired.length r
theorem ZO.get : ∀ {xs : List V} {us : List Value} {i : Nat} {x : V}, ZO xs us → xs[i]? = some x → ∃ u, us[i]? = some u ∧ ZE x u
  | _, _, _, _, .nil, e => by simp at e
  | _, _, 0, _, .cons r _, e => by simp at e; subst e; exact ⟨_, rfl, r⟩
  | _, _, i + 1, x, .cons _ t, e => by
    obtain ⟨u, h1, h2⟩ := ZO.get (i := i) (x := x) t (by simpa using e)
    exact ⟨u, by simpa using h1, h2⟩
theorem ZO.set {x : V} {u : Value} (r : ZE x u) : ∀ {xs : List V} {us : List Value} (i : Nat), ZO xs us → ZO (xs.set i x) (us.set i u)
  | _, _, _, .nil => .nil
  | _, _, 0, .cons _ t => .cons r t
  | _, _, i + 1, .cons q t => .cons q (ZO.set r i t)
theorem ZO.append : ∀ {xs ys : List V} {us ws : List Value}, ZO xs us → ZO ys ws → ZO (xs ++ ys) (us ++ ws)
  | _, _, _, _, .nil, s => s
  | _, _, _, _, .cons r t, s => .cons r (ZO.append t s)
noncomputable def RelO : Option V → Option Value → Prop
  | some v, some u => ZE v u
  | none, none => True
  | _, _ => False
noncomputable def KV {κ : Type} : List (κ × V) → List (κ × Value) → Prop := Paired fun (p : κ × V) (q : κ × Value) => p.1 = q.1 ∧ ZE p.2 q.2
noncomputable def kV : Key → V
  | .inl i => .int i
  | .inr x => .str x
inductive HO where
  /-- a list -/
  | lst (xs : List V)
  /-- a tuple (never changes) -/
  | tup (xs : List V)
  /-- a dict whose keys are ints and texts; one whose keys are tuples of ints and texts (the empty one is both) -/
  | dK (kvs : List (Key × V)) | dT (kvs : List (List Key × V))
  /-- a set of ints: its members, its size -/
  | set (S : Int → Bool) (n : Nat)
  /-- an instance of the class at C, its dict at dx, its attributes -/
  | ins (C dx : Addr) (fs : List (Str × V))
  /-- the dict of the instance at x -/
  | own (x : Addr)
  /-- the dict of an exception -/
  | xd (fs : List (Str × V))
  /-- a bound method, f of x -/
  | met (f x : Addr)
  /-- a range object lo, lo + 1, .. below hi -/
  | rng (lo hi : Int)
  /-- a thing that is known to the object (the script; a dict while a loop walks it): read, never written while it is so -/
  | frz (o : Obj) (u : HO)
  /-- a code object's table -/
  | tbl (ps : Array Value)
  /-- any other thing, by what is true of its one object (a def of one's own: SetO a S n := HO.ext fun h => ..) -/
  | ext (φ : Heap → Prop)
noncomputable abbrev Hp := Addr → Option HO
noncomputable def upd (H : Hp) (a : Addr) (o : HO) : Hp := fun b => if b = a then some o else H b
theorem Zc {H : Hp} {a : Addr} {o : HO} : upd H a o a = some o := by unfold upd; rw [if_pos rfl]
theorem Zg {H : Hp} {a b : Addr} {o : HO} (h : b ≠ a) : upd H a o b = H b := by unfold upd; rw [if_neg h]
theorem upd_upd {H : Hp} {a : Addr} {o u : HO} : upd (upd H a o) a u = upd H a u := by
  funext b; unfold upd; split <;> rfl
theorem ne_of {H : Hp} {a b : Addr} {o u : HO} (h : H a = some o) (h' : H b = some u) (d : o ≠ u) : a ≠ b := by
  intro e; subst e; rw [h] at h'; exact d (Option.some.inj h')
theorem Zx {H : Hp} {a b : Addr} {o : HO} (h : H a = some o) (h' : H b = none) : a ≠ b := by
  intro e; subst e; rw [h] at h'; cases h'
section
variable (P : Program) (w : World)
noncomputable def Z4 (H : Hp) (h : Heap) (a : Addr) : HO → Prop
  | .lst xs => xs.length ≤ sizeLine ∧ ∃ (its : List Value) (n : Nat), ZO xs its ∧ h.get? a = some { cls := .type "list", data := .seq its.toArray n }
  | .tup xs => xs.length ≤ sizeLine ∧ ∃ its : List Value, ZO xs its ∧ IsTup h a its.toArray
  | .dK kvs => kvs.length ≤ sizeLine ∧ (a == sysModules) = false ∧ ∃ vs, KV kvs vs ∧ h.DictOf (Z0 P w) a vs
  | .dT kvs => kvs.length ≤ sizeLine ∧ (a == sysModules) = false ∧ ∃ xs : List (List Key × Addr × Value),
      Paired (fun (p : List Key × V) (q : List Key × Addr × Value) => p.1 = q.1 ∧ H q.2.1 = some (.tup (p.1.map kV)) ∧ ZE p.2 q.2.2) kvs xs ∧
      ∃ o es ep, h.get? a = some o ∧ o.ExactDict ∧ o.data = .dict es ep ∧ es.toList = xs.map (entryOfKey (tupleKind (Z0 P w))) ∧ (xs.map (·.1)).Nodup
  | .set S n => h.SetOf (intKind P w) a S n
  | .ins C dx fs => H dx = some (.own a) ∧ fs.length ≤ 1000 ∧ dx ≠ a ∧ h.get? a = some (PySem.W.instObj C dx) ∧
      ∃ mA, h.Ns1 dx mA ∧ (∀ f, RelO (fs.lookup f) (mA f)) ∧ PySem.Within mA (fs.map (·.1))
  | .own _ => ∃ o, h.get? a = some o
  | .xd fs => ∃ mA, h.Ns1 a mA ∧ ∀ f, RelO (fs.lookup f) (mA f)
  | .rng lo hi => ∃ t u v, h.get? a = some { cls := .type "range", data := .fields #[.int lo t, .int hi u, .int 1 v] }
  | .frz o u => h.get? a = some o ∧ Z4 H h a u
  | .tbl ps => h.get? a = some { cls := .none, data := .fields ps }
  | .met f x => h.get? a = some (PySem.W.methodObj (.ref f) (.ref x))
  | .ext φ => φ h ∧ (∃ o, h.get? a = some o) ∧ ∀ h1 h2 : Heap, φ h1 → (∀ o, h1.get? a = some o → h2.get? a = some o) → φ h2
noncomputable def HOk (H : Hp) (h : Heap) : Prop := ∀ a o, H a = some o → Z4 P w H h a o
end

section
variable {P : Program} {w : World} {H H' : Hp} {h h' : Heap} {a : Addr} {o : HO}
theorem Z4.lt (x : Z4 P w H h a o) : a < h.objs.size := by
  cases o with
  | lst xs => obtain ⟨_, _, _, _, e⟩ := x; exact Heap.lt_size e
  | tup xs => obtain ⟨_, _, _, p⟩ := x; exact p.lt
  | dK kvs => obtain ⟨_, _, _, _, o, _, _, e, _⟩ := x; exact Heap.lt_size e
  | dT kvs => obtain ⟨_, _, _, _, o, _, _, e, _⟩ := x; exact Heap.lt_size e
  | set S n => obtain ⟨o, _, _, _, e, _⟩ := x; exact Heap.lt_size e
  | ins C dx fs => obtain ⟨_, _, _, e, _⟩ := x; exact Heap.lt_size e
  | own y => obtain ⟨_, e⟩ := x; exact Heap.lt_size e
  | xd fs => obtain ⟨_, ⟨_, _, _, e, _⟩, _⟩ := x; exact Heap.lt_size e
  | rng lo hi => obtain ⟨_, _, _, e⟩ := x; exact Heap.lt_size e
  | frz ob u => obtain ⟨e, _⟩ := x; exact Heap.lt_size e
  | tbl ps => exact Heap.lt_size (show h.get? a = some _ from x)
  | met f y => exact Heap.lt_size (show h.get? a = some _ from x)
  | ext φ => obtain ⟨_, ⟨_, e⟩, _⟩ := x; exact Heap.lt_size e
theorem Paired.mapP {α β : Type} {F G : α → β → Prop} : ∀ {l₁ : List α} {l₂ : List β}, Paired F l₁ l₂ → (∀ a b, F a b → G a b) → Paired G l₁ l₂
  | _, _, .nil, _ => .nil
  | _, _, .cons r t, f => .cons (f _ _ r) (Paired.mapP t f)
theorem Z4.stay (x : Z4 P w H h a o) (k : ∀ b u, (b = a ∨ H b = some (.own a)) → h.get? b = some u → h'.get? b = some u)
    (ho : ∀ b, H b = some (.own a) → H' b = some (.own a)) (ht : ∀ b xs, H b = some (.tup xs) → H' b = some (.tup xs)) : Z4 P w H' h' a o := by
  induction o with
  | lst xs => obtain ⟨z, its, n, r, e⟩ := x; exact ⟨z, its, n, r, k _ _ (.inl rfl) e⟩
  | tup xs => obtain ⟨z, its, r, ob, e, c⟩ := x; exact ⟨z, its, r, ob, k _ _ (.inl rfl) e, c⟩
  | dK kvs => obtain ⟨z, y, vs, r, ob, es, ep, e, c⟩ := x; exact ⟨z, y, vs, r, ob, es, ep, k _ _ (.inl rfl) e, c⟩
  | dT kvs =>
    obtain ⟨z, y, xs, r, ob, es, ep, e, c⟩ := x
    exact ⟨z, y, xs, Paired.mapP r fun p q z => ⟨z.1, ht _ _ z.2.1, z.2.2⟩, ob, es, ep, k _ _ (.inl rfl) e, c⟩
  | set S n => obtain ⟨ob, es, ep, t, e, c⟩ := x; exact ⟨ob, es, ep, t, k _ _ (.inl rfl) e, c⟩
  | ins C dx fs =>
    obtain ⟨d, z, ne, e, mA, ⟨od, es, ep, e2, c⟩, r⟩ := x
    exact ⟨ho _ d, z, ne, k _ _ (.inl rfl) e, mA, ⟨od, es, ep, k _ _ (.inr d) e2, c⟩, r⟩
  | own y => obtain ⟨ob, e⟩ := x; exact ⟨ob, k _ _ (.inl rfl) e⟩
  | xd fs => obtain ⟨mA, ⟨od, es, ep, e, c⟩, r⟩ := x; exact ⟨mA, ⟨od, es, ep, k _ _ (.inl rfl) e, c⟩, r⟩
  | rng lo hi => obtain ⟨t, u, v, e⟩ := x; exact ⟨t, u, v, k _ _ (.inl rfl) e⟩
  | frz ob u ih => obtain ⟨e, q⟩ := x; exact ⟨k _ _ (.inl rfl) e, ih q⟩
  | tbl ps =>
    have e : h.get? a = some { cls := .none, data := .fields ps } := x
    show h'.get? a = some { cls := .none, data := .fields ps }
    exact k a _ (.inl rfl) e
  | met f y =>
    have e : h.get? a = some (PySem.W.methodObj (.ref f) (.ref y)) := x
    show h'.get? a = some (PySem.W.methodObj (.ref f) (.ref y))
    exact k a _ (.inl rfl) e
  | ext φ => obtain ⟨p, ⟨o, e⟩, st⟩ := x; exact ⟨st _ _ p fun o q => k _ _ (.inl rfl) q, ⟨o, k _ _ (.inl rfl) e⟩, st⟩
theorem HOk.lt (x : HOk P w H h) (e : H a = some o) : a < h.objs.size := (x a o e).lt
theorem HOk.fresh (x : HOk P w H h) (e : h.objs.size ≤ a) : H a = none := by
  cases q : H a with
  | none => rfl
  | some u => exact absurd (Nat.lt_of_lt_of_le (x.lt q) e) (Nat.lt_irrefl _)
theorem HOk.kept (x : HOk P w H h) (k : ∀ b u, h.get? b = some u → h'.get? b = some u) : HOk P w H h' := fun a o e =>
  (x a o e).stay (fun b u _ q => k b u q) (fun _ q => q) fun _ _ q => q
theorem HOk.laid (x : HOk P w H h) (k : ∀ b u, h.get? b = some u → h'.get? b = some u) (hp : h.objs.size ≤ a) (new : Z4 P w (upd H a o) h' a o) : HOk P w (upd H a o) h' := fun b u e => by
  have hn := x.fresh hp
  by_cases hb : b = a
  · subst hb; rw [Zc] at e; cases e; exact new
  · rw [Zg hb] at e
    exact (x b u e).stay (fun c v _ q => k c v q) (fun c q => by rw [Zg (Zx q hn)]; exact q) fun c xs q => by rw [Zg (Zx q hn)]; exact q
end

noncomputable def Rd (H : Hp) (a : Addr) (u : HO) : Prop := H a = some u ∨ ∃ o, H a = some (.frz o u)
theorem Rd.ok {P : Program} {w : World} {H : Hp} {h : Heap} {a : Addr} {u : HO} (r : Rd H a u) (x : HOk P w H h) : Z4 P w H h a u := by
  rcases r with r | ⟨o, r⟩
  · exact x a u r
  · obtain ⟨_, q⟩ := x a _ r
    exact q
noncomputable def Mut : Option HO → Prop
  | some (.lst _) => True
  | some (.dK _) => True
  | some (.dT _) => True
  | some (.set _ _) => True
  | some (.ins _ _ _) => True
  | some (.ext _) => True
  | _ => False
section
variable {P : Program} {w : World} {H : Hp} {h h' : Heap} {x e : Addr} {o' : HO}
theorem HOk.write (ok : HOk P w H h) (mu : Mut (H x)) (he : e = x ∨ H e = some (.own x)) (k : ∀ b u, b ≠ e → h.get? b = some u → h'.get? b = some u) (heo : ∃ u, h'.get? e = some u)
    (new : Z4 P w (upd H x o') h' x o') : HOk P w (upd H x o') h' := fun b u q => by
  have nown : ∀ c y, H c = some (.own y) → c ≠ x := fun c y r z => by subst z; rw [r] at mu; exact mu
  have ntup : ∀ c xs, H c = some (.tup xs) → c ≠ x := fun c xs r z => by subst z; rw [r] at mu; exact mu
  by_cases hb : b = x
  · subst hb; rw [Zc] at q; cases q; exact new
  · rw [Zg hb] at q
    by_cases hbe : b = e
    · have q' : H b = some (.own x) := by
        rcases he with z | z
        · exact absurd (hbe.trans z) hb
        · rw [hbe]; exact z
      rw [q] at q'; cases q'
      obtain ⟨v, hv⟩ := heo
      exact ⟨v, by rw [hbe]; exact hv⟩
    · refine (ok b u q).stay (fun c v hc r => k c v ?_ r) (fun c r => by rw [Zg (nown c b r)]; exact r) fun c xs r => by rw [Zg (ntup c xs r)]; exact r
      rcases hc with rfl | hc
      · exact hbe
      · rintro rfl
        rcases he with z | z
        · exact nown c b hc z
        · rw [hc] at z; cases z; exact hb rfl
end

structure Un (fs ex : List Addr) (H H' : Hp) (h h' : Heap) : Prop where
  keep : ∀ b o, h.get? b = some o → H b = none → b ∉ fs → b ∉ ex → h'.get? b = some o
  slot : ∀ b o, h.get? b = some o → H b = none → b ∈ fs → b ∉ ex → ∃ sl, h'.get? b = some { o with slots := sl }
  free : ∀ b o, h.get? b = some o → H b = none → b ∉ ex → H' b = none
  there : ∀ b o, h.get? b = some o → b ∉ ex → ∃ o', h'.get? b = some o'
  tups : ∀ b xs, H b = some (.tup xs) → H' b = some (.tup xs)
  frzs : ∀ b o u, H b = some (.frz o u) → H' b = some (.frz o u)
  tbls : ∀ b ps, H b = some (.tbl ps) → ∃ more, H' b = some (.tbl (ps ++ more))
section
variable {fs fs' ex ex' : List Addr} {H H1 H2 : Hp} {h h1 h2 h' : Heap} {a x e : Addr} {o : HO}
theorem Un.any (u : Un fs ex H H1 h h1) {b : Addr} {ob : Obj} (q : h.get? b = some ob) (n : H b = none) (hx : b ∉ ex) : ∃ sl, h1.get? b = some { ob with slots := sl } := by
  by_cases hb : b ∈ fs
  · exact u.slot b ob q n hb hx
  · exact ⟨ob.slots, u.keep b ob q n hb hx⟩
theorem Un.kept (k : ∀ b u, h.get? b = some u → h'.get? b = some u) : Un fs ex H H h h' :=
  ⟨fun b ob q _ _ _ => k b ob q, fun b ob q _ _ _ => ⟨ob.slots, k b ob q⟩, fun _ _ _ n _ => n, fun b ob q _ => ⟨ob, k b ob q⟩, fun _ _ q => q, fun _ _ _ q => q, fun _ ps q => ⟨#[], by rw [q]; simp⟩⟩
theorem Un.refl : Un fs ex H H h h := Un.kept fun _ _ q => q
theorem Un.laid (k : ∀ b u, h.get? b = some u → h'.get? b = some u) (hp : h.objs.size ≤ a) (hn : H a = none) : Un fs ex H (upd H a o) h h' where
  keep := fun b u q _ _ _ => k b u q
  slot := fun b u q _ _ _ => ⟨u.slots, k b u q⟩
  free := fun b u q n _ => by rw [Zg (Nat.ne_of_lt (Nat.lt_of_lt_of_le (Heap.lt_size q) hp))]; exact n
  there := fun b u q _ => ⟨u, k b u q⟩
  tups := fun b xs q => by rw [Zg (Zx q hn)]; exact q
  frzs := fun b u xs q => by rw [Zg (Zx q hn)]; exact q
  tbls := fun b ps q => ⟨#[], by rw [Zg (Zx q hn), q]; simp⟩
theorem Un.write (mu : Mut (H x)) (he : e = x ∨ H e = some (.own x)) (k : ∀ b u, b ≠ e → h.get? b = some u → h'.get? b = some u) (heo : ∃ u, h'.get? e = some u) : Un fs ex H (upd H x o) h h' := by
  have hx : ∀ b, H b = none → b ≠ x := fun b n z => by subst z; rw [n] at mu; exact mu
  have hb : ∀ b, H b = none → b ≠ e := fun b n z => by
    subst z
    rcases he with r | r
    · exact hx b n r
    · rw [n] at r; cases r
  have hm : ∀ b u, H b = some u → ¬ Mut (some u) → b ≠ x := fun b u q nm z => by subst z; rw [q] at mu; exact nm mu
  refine ⟨fun b u q n _ _ => k b u (hb b n) q, fun b u q n _ _ => ⟨u.slots, k b u (hb b n) q⟩, fun b u q n _ => by rw [Zg (hx b n)]; exact n, fun b u q _ => ?_,
    fun b xs q => by rw [Zg (hm b _ q fun z => z)]; exact q, fun b u xs q => by rw [Zg (hm b _ q fun z => z)]; exact q, fun b ps q => ⟨#[], by rw [Zg (hm b _ q fun z => z), q]; simp⟩⟩
  by_cases hbe : b = e
  · subst hbe; exact heo
  · exact ⟨u, k b u hbe q⟩
end

noncomputable def trk (h : Heap) (H : Hp) : List Addr := (List.range h.objs.size).filter fun a => (H a).isSome
noncomputable def hidT (h : Heap) (H : Hp) : Heap := PySem.W.hideAll h (trk h H)
theorem hidT_size (h : Heap) (H : Hp) : (hidT h H).objs.size = h.objs.size := PySem.W.hideAll_size _ _
theorem hidT_get {h : Heap} {H : Hp} {b : Addr} {o : Obj} (e : h.get? b = some o) (n : H b = none) : (hidT h H).get? b = some o :=
  PySem.W.hideAll_get _ e fun hm => by
    have q : (H b).isSome = true := (List.mem_filter.mp hm).2
    rw [n] at q; simp at q
theorem of_hidT {h : Heap} {H : Hp} {b : Addr} {o : Obj} (e : (hidT h H).get? b = some o) : h.get? b = some o ∧ H b = none := by
  have e' : h.get? b = some o := PySem.W.of_hideAll (trk h H) e
  refine ⟨e', ?_⟩
  cases q : H b with
  | none => rfl
  | some x =>
    have hm : b ∈ trk h H := List.mem_filter.mpr ⟨List.mem_range.mpr (Heap.lt_size e'), by simp [q]⟩
    have z : (hidT h H).get? b = none := PySem.W.hideAll_none (trk h H) hm
    rw [z] at e; cases e
noncomputable def allNews (g h : Heap) (L : Addr) : List (Addr × Obj) := (List.range h.objs.size).filterMap fun a => if a = L ∨ (g.get? a).isSome = true then none else (h.get? a).map fun o => (a, o)
noncomputable def rest (g h : Heap) (L d : Addr) : List (Addr × Obj) := (allNews g h L).filter fun p => decide (p.1 ≠ d)
end L2

namespace L2
open PySem PySem.Spec PyProof.Rows

structure Mod (K : PySem.W.Frag) (mg : Str → Option Value) (base : Heap) : Prop where
  kin : K.In base
  glob : base.Ns mainGlobals mg
  blt : ∃ mb, base.Ns builtinsNs mb ∧ ∀ x : Str, x ≠ "__name__" → mb x = bootBuiltins x
  nolimit : base.NoLimit
structure Cx where
  prog : Program
  w : World
  K : PySem.W.Frag
  mg : Str → Option Value
  base : Heap
  A : Around
  N : List Str
  s₀ : Shared
  H₀ : Hp
  env : Env
  outer : List Env
  stack : List Env
  ex : List Addr
  fn : Str → Bool
  calm : Bool
  pn : List (Addr × Obj)
  xe : Value → Shared → Prop
noncomputable def frs (l : List Env) : List Addr := l.filterMap (·.frame)
noncomputable abbrev Cx.fs (X : Cx) : List Addr := frs X.outer
noncomputable def Vis (sc : Scope) (x : Str) : Prop := sc.names.lookup x = some .local ∨ sc.names.lookup x = some .cell ∨ sc.names.lookup x = some .free
noncomputable def Loc (sc : Scope) (x : Str) : Prop := sc.names.lookup x = some .local ∨ sc.names.lookup x = some .cell
noncomputable def Look (env : Env) (h : Heap) (m : Str → Option Value) (x : Str) (u : Value) : Prop :=
  (env.kindOf x = some .local ∧ m x = some u) ∨ ((env.kindOf x = some .cell ∨ env.kindOf x = some .free) ∧ ∃ c, env.cells.lookup x = some c ∧ h.IsCell c (some u))
structure Cx.Ok (X : Cx) : Prop where
  mod : Mod X.K X.mg X.base
  kind : X.env.scope.kind = .function
  glob : X.env.globals = mainGlobals
  blt : X.env.builtins = builtinsNs
  above : X.s₀.heap.objs.size ≤ X.env.locals
  inj : ∀ x y c, X.env.cells.lookup x = some c → X.env.cells.lookup y = some c → x = y
  has : ∀ x, (X.env.kindOf x = some .cell ∨ X.env.kindOf x = some .free) → ∃ c, X.env.cells.lookup x = some c
  cab : ∀ x c, X.fn x = true → X.env.cells.lookup x = some c → X.s₀.heap.objs.size ≤ c
  hd : X.calm = true → X.A.handled = none
  frames : X.A.frames = some X.stack
  stk : X.stack = X.outer ∨ (X.stack = X.env :: X.outer ∧ X.env.frame = some X.env.locals)
  exf : ∀ b ∈ X.ex, b ≠ X.env.locals ∧ ∀ x c, X.env.cells.lookup x = some c → c ≠ b
  bs : ∀ b o, X.base.get? b = some o → X.s₀.heap.get? b = some o ∧ X.H₀ b = none
  bsz : X.base.objs.size ≤ X.s₀.heap.objs.size
  noex : ∀ b o, X.base.get? b = some o → b ∉ X.ex
  exfs : ∀ b ∈ X.ex, b ∉ X.fs
  funs : X.s₀.heap.FunFrames X.base X.outer
  frf : ∀ b ∈ X.fs, X.H₀ b = none
structure Inv (X : Cx) (pins : List (Addr × Obj)) (σ : List (Option V)) (H : Hp) (s : Shared) : Prop where
  ok : X.Ok
  os : s.os = X.s₀.os
  bare : AllBare s.gens
  base : Un X.fs X.ex X.H₀ H X.s₀.heap s.heap
  loc : ∃ m, s.heap.Ns X.env.locals m ∧ ∀ (i : Nat) (x : Str) (v : V), X.N[i]? = some x → σ[i]? = some (some v) → Vis X.env.scope x → ∃ u, ZE v u ∧ Look X.env s.heap m x u
  cell : ∀ x c, X.env.cells.lookup x = some c → ∃ v, s.heap.IsCell c v
  free : H X.env.locals = none
  freeC : ∀ x c, X.env.cells.lookup x = some c → H c = none
  pin : ∀ p ∈ X.pn ++ pins, s.heap.get? p.1 = some p.2 ∧ H p.1 = none ∧ p.1 ≠ X.env.locals ∧ p.1 ∉ X.fs ∧ ∀ v, p.2.data ≠ .cell v
  hok : HOk X.prog X.w H s.heap
  len : σ.length = X.N.length
section
variable {X : Cx} {pins : List (Addr × Obj)} {σ : List (Option V)} {H H' : Hp} {s : Shared} {h' : Heap}

theorem Cx.Ok.nofr (ok : X.Ok) {b : Addr} {o : Obj} (e : X.base.get? b = some o) : b ∉ X.fs := fun hb => by
  have := (ok.funs.mem hb).1
  rw [e] at this; cases this
theorem Inv.bs (I : Inv X pins σ H s) : ∀ b o, X.base.get? b = some o → s.heap.get? b = some o ∧ H b = none := fun b o e =>
  ⟨I.base.keep b o (I.ok.bs b o e).1 (I.ok.bs b o e).2 (I.ok.nofr e) (I.ok.noex b o e), I.base.free b o (I.ok.bs b o e).1 (I.ok.bs b o e).2 (I.ok.noex b o e)⟩
theorem Inv.bk (I : Inv X pins σ H s) : ∀ b o, X.base.get? b = some o → s.heap.get? b = some o := fun b o e => (I.bs b o e).1
theorem Inv.mod (I : Inv X pins σ H s) : Mod X.K X.mg X.base := I.ok.mod
theorem Inv.kIn (I : Inv X pins σ H s) : X.K.In s.heap := I.ok.mod.kin.keeps I.bk
theorem Inv.lt (I : Inv X pins σ H s) : X.env.locals < s.heap.objs.size := let ⟨_, hn, _⟩ := I.loc; hn.lt
theorem Inv.sz (I : Inv X pins σ H s) : X.s₀.heap.objs.size ≤ s.heap.objs.size := Nat.le_trans I.ok.above (Nat.le_of_lt I.lt)
theorem Inv.nofs (I : Inv X pins σ H s) {a : Addr} (h : s.heap.objs.size ≤ a) : a ∉ X.fs := fun hb => by
  obtain ⟨_, o, ho, _⟩ := I.ok.funs.mem hb
  exact absurd (Nat.lt_of_lt_of_le (Heap.lt_size ho) (Nat.le_trans I.sz h)) (Nat.lt_irrefl _)
theorem Inv.cne (I : Inv X pins σ H s) : ∀ x c, X.env.cells.lookup x = some c → c ≠ X.env.locals := fun x c e z => by
  obtain ⟨v, o, ho, hd⟩ := I.cell x c e
  obtain ⟨m, ⟨o', es, ep, ho', hd', _⟩, _⟩ := I.loc
  rw [z, ho'] at ho; cases ho; rw [hd'] at hd; cases hd
theorem Inv.funs (I : Inv X pins σ H s) : s.heap.FunFrames X.base X.outer := by
  have all : ∀ (l : List Env), (∀ b ∈ frs l, b ∈ X.fs) → X.s₀.heap.FunFrames X.base l → s.heap.FunFrames X.base l := by
    intro l
    induction l with
    | nil => intro _ _; trivial
    | cons env r ih =>
      intro hs hl
      obtain ⟨hk, ⟨L, o, hf, hn, ho, hd⟩, hr⟩ := hl
      have hL : L ∈ X.fs := hs L (by unfold frs; rw [List.filterMap_cons, hf]; exact List.mem_cons_self)
      obtain ⟨sl, e⟩ := I.base.slot L o ho (I.ok.frf L hL) hL fun z => I.ok.exfs L z hL
      exact ⟨hk, ⟨L, _, hf, hn, e, hd⟩, ih (fun b hb => hs b (by unfold frs; rw [List.filterMap_cons, hf]; exact List.mem_cons_of_mem _ hb)) hr⟩
  exact all X.outer (fun _ hb => hb) I.ok.funs
theorem Inv.stack (I : Inv X pins σ H s) : s.heap.FunFrames X.base X.stack := by
  rcases I.ok.stk with e | ⟨e, hf⟩
  · rw [e]; exact I.funs
  · rw [e]
    obtain ⟨m, hn, _⟩ := I.loc
    refine .cons (by rw [I.ok.kind]; decide) hf hn ?_ I.funs
    exact Heap.get?_none_of_le (Nat.le_trans I.ok.bsz I.ok.above)
theorem Inv.stkSub (I : Inv X pins σ H s) : ∀ b ∈ frs X.stack, b ∈ X.env.locals :: X.fs := fun b hb => by
  rcases I.ok.stk with e | ⟨e, hf⟩
  · rw [e] at hb; exact List.mem_cons_of_mem _ hb
  · rw [e] at hb
    unfold frs at hb
    rw [List.filterMap_cons, hf] at hb
    exact hb
theorem Inv.stkFree (I : Inv X pins σ H s) : ∀ b ∈ frs X.stack, H b = none := fun b hb => by
  rcases List.mem_cons.mp (I.stkSub b hb) with e | hb
  · rw [e]; exact I.free
  · obtain ⟨_, o, ho, _⟩ := I.ok.funs.mem hb
    exact I.base.free b o ho (I.ok.frf b hb) fun z => I.ok.exfs b z hb
theorem Inv.step {g' : Array GenState} {t' : Nat} {d' : Drawn} {ch : List Addr} (I : Inv X pins σ H s)
    (hch : ∀ b ∈ ch, (b ∈ X.ex ∨ X.s₀.heap.objs.size ≤ b) ∧ b ≠ X.env.locals ∧ (∀ x c, X.env.cells.lookup x = some c → c ≠ b) ∧ ∀ p ∈ X.pn ++ pins, p.1 ≠ b)
    (keep : ∀ b o, b ≠ X.env.locals → b ∉ X.fs → b ∉ ch → s.heap.get? b = some o → H b = none → h'.get? b = some o)
    (slot : ∀ b o, b ≠ X.env.locals → b ∈ X.fs → b ∉ ch → s.heap.get? b = some o → H b = none → ∃ sl, h'.get? b = some { o with slots := sl }) (free : ∀ b o, b ∉ ch → s.heap.get? b = some o → H b = none → H' b = none)
    (there : ∀ b o, b ∉ ch → s.heap.get? b = some o → ∃ o', h'.get? b = some o')
    (tups : ∀ b xs, H b = some (.tup xs) → H' b = some (.tup xs)) (frzs : ∀ b o u, H b = some (.frz o u) → H' b = some (.frz o u)) (tbls : ∀ b ps, H b = some (.tbl ps) → ∃ more, H' b = some (.tbl (ps ++ more)))
    (ns : ∀ m, s.heap.Ns X.env.locals m → h'.Ns X.env.locals m) (hok : HOk X.prog X.w H' h') (hg : AllBare g') :
    Inv X pins σ H' { s with heap := h', gens := g', drawn := d', toks := t' } := by
  have neL : ∀ b o, X.s₀.heap.get? b = some o → b ≠ X.env.locals := fun b o e => Nat.ne_of_lt (Nat.lt_of_lt_of_le (Heap.lt_size e) I.ok.above)
  have neC : ∀ b o, X.s₀.heap.get? b = some o → b ∉ X.ex → b ∉ ch := fun b o e hx hb => by
    rcases (hch b hb).1 with z | z
    · exact hx z
    · exact absurd (Nat.lt_of_lt_of_le (Heap.lt_size e) z) (Nat.lt_irrefl _)
  have cellK : ∀ x c, X.env.cells.lookup x = some c → ∀ v, s.heap.IsCell c v → h'.IsCell c v := fun x c e v ⟨o, ho, hd⟩ => by
    have nch : c ∉ ch := fun z => (hch c z).2.2.1 x c e rfl
    by_cases hc : c ∈ X.fs
    · obtain ⟨sl, q⟩ := slot c o (I.cne x c e) hc nch ho (I.freeC x c e)
      exact ⟨_, q, hd⟩
    · exact ⟨o, keep c o (I.cne x c e) hc nch ho (I.freeC x c e), hd⟩
  refine ⟨I.ok, I.os, hg, ⟨fun b o e n hb hx => ?_, fun b o e n hb hx => ?_, fun b o e n hx => ?_, fun b o e hx => ?_, fun b xs e => tups b xs (I.base.tups b xs e), fun b o xs e => frzs b o xs (I.base.frzs b o xs e), fun b ps e => ?_⟩, ?_, fun x c e => ?_, ?_, fun x c e => ?_, fun p hp => ?_, hok, I.len⟩
  · exact keep b o (neL b o e) hb (neC b o e hx) (I.base.keep b o e n hb hx) (I.base.free b o e n hx)
  · obtain ⟨sl, e1⟩ := I.base.slot b o e n hb hx
    obtain ⟨sl', e2⟩ := slot b _ (neL b o e) hb (neC b o e hx) e1 (I.base.free b o e n hx)
    exact ⟨sl', e2⟩
  · obtain ⟨o', e1⟩ := I.base.there b o e hx
    exact free b o' (neC b o e hx) e1 (I.base.free b o e n hx)
  · obtain ⟨o', e1⟩ := I.base.there b o e hx
    exact there b o' (neC b o e hx) e1
  · obtain ⟨m1, e1⟩ := I.base.tbls b ps e
    obtain ⟨m2, e2⟩ := tbls b _ e1
    exact ⟨m1 ++ m2, by rw [e2, Array.append_assoc]⟩
  · obtain ⟨m, hn, hl⟩ := I.loc
    refine ⟨m, ns m hn, fun i x v e1 e2 e3 => ?_⟩
    obtain ⟨u, r, l⟩ := hl i x v e1 e2 e3
    refine ⟨u, r, ?_⟩
    rcases l with l | ⟨k, c, e, z⟩
    · exact .inl l
    · exact .inr ⟨k, c, e, cellK x c e _ z⟩
  · obtain ⟨v, z⟩ := I.cell x c e
    exact ⟨v, cellK x c e v z⟩
  · obtain ⟨m, ⟨o, _, _, ho, _⟩, _⟩ := I.loc
    exact free _ o (fun z => (hch _ z).2.1 rfl) ho I.free
  · obtain ⟨v, o, ho, hd⟩ := I.cell x c e
    exact free c o (fun z => (hch c z).2.2.1 x c e rfl) ho (I.freeC x c e)
  · obtain ⟨e, n, ne, nf, d⟩ := I.pin p hp
    have nch : p.1 ∉ ch := fun z => (hch p.1 z).2.2.2 p hp rfl
    exact ⟨keep p.1 p.2 ne nf nch e n, free p.1 p.2 nch e n, ne, nf, d⟩
theorem Inv.un {t' : Nat} (I : Inv X pins σ H s) (u : Un X.fs [] H H' s.heap h') (hok : HOk X.prog X.w H' h') : Inv X pins σ H' { s with heap := h', toks := t' } := by
  obtain ⟨m, ⟨o, es, ep, ho, r⟩, _⟩ := id I.loc
  obtain ⟨sl, hL⟩ := u.any ho I.free (by simp)
  exact I.step (g' := s.gens) (d' := s.drawn) (ch := []) (fun _ z => nomatch z) (fun b o _ hb _ e n => u.keep b o e n hb (by simp)) (fun b o _ hb _ e n => u.slot b o e n hb (by simp)) (fun b o _ e n => u.free b o e n (by simp)) (fun b o _ e => u.there b o e (by simp)) u.tups u.frzs u.tbls (fun m' hm => by
    obtain ⟨o', es', ep', ho', r'⟩ := hm
    rw [ho] at ho'; cases ho'
    exact ⟨_, es', ep', hL, r'⟩) hok I.bare
theorem Inv.call {g' : Array GenState} {t' : Nat} {d' : Drawn} {ch : List Addr} (I : Inv X pins σ H s) (u : Un (frs X.stack) ch H H' s.heap h') (hok : HOk X.prog X.w H' h') (hg : AllBare g')
    (hch : ∀ b ∈ ch, (b ∈ X.ex ∨ X.s₀.heap.objs.size ≤ b) ∧ b ≠ X.env.locals ∧ (∀ x c, X.env.cells.lookup x = some c → c ≠ b) ∧ ∀ p ∈ X.pn ++ pins, p.1 ≠ b) :
    Inv X pins σ H' { s with heap := h', gens := g', drawn := d', toks := t' } := by
  obtain ⟨m, ⟨o, es, ep, ho, r⟩, _⟩ := id I.loc
  obtain ⟨sl, hL⟩ := u.any ho I.free fun z => (hch _ z).2.1 rfl
  exact I.step (ch := ch) hch (fun b o hL hb hc e n => u.keep b o e n (fun z => (List.mem_cons.mp (I.stkSub b z)).elim hL hb) hc) (fun b o _ _ hc e n => u.any e n hc) (fun b o hc e n => u.free b o e n hc) (fun b o hc e => u.there b o e hc) u.tups u.frzs u.tbls (fun m' hm => by
    obtain ⟨o', es', ep', ho', r'⟩ := hm
    rw [ho] at ho'; cases ho'
    exact ⟨_, es', ep', hL, r'⟩) hok hg
theorem Inv.turned {t' : Nat} {it : Addr} (I : Inv X pins σ H s) (k : ∀ b o, b ≠ it → s.heap.get? b = some o → h'.get? b = some o) (hn : H it = none) (hL : it ≠ X.env.locals)
    (h1 : it ∈ X.ex ∨ X.s₀.heap.objs.size ≤ it) (h2 : ∀ x c, X.env.cells.lookup x = some c → c ≠ it) (h3 : ∀ p ∈ X.pn ++ pins, p.1 ≠ it) : Inv X pins σ H { s with heap := h', toks := t' } := by
  have nit : ∀ b u, H b = some u → b ≠ it := fun b u e z => by rw [z, hn] at e; cases e
  refine I.step (g' := s.gens) (d' := s.drawn) (ch := [it]) (fun b hb => ?_) (fun b o _ _ hc e _ => k b o (fun z => hc (by simp [z])) e) (fun b o _ _ hc e _ => ⟨o.slots, k b o (fun z => hc (by simp [z])) e⟩) (fun _ _ _ _ n => n)
    (fun b o hc e => ⟨o, k b o (fun z => hc (by simp [z])) e⟩) (fun _ _ e => e) (fun _ _ _ e => e) (fun b ps e => ⟨#[], by rw [e]; simp⟩) (fun m hm => ?_) (fun b u e => ?_) I.bare
  · have e : b = it := by simpa using hb
    subst e
    exact ⟨h1, hL, h2, h3⟩
  · obtain ⟨o, es, ep, ho, r⟩ := hm
    exact ⟨o, es, ep, k _ o (Ne.symm hL) ho, r⟩
  · refine (I.hok b u e).stay (fun c v hc q => k c v ?_ q) (fun _ q => q) fun _ _ q => q
    rcases hc with z | z
    · rw [z]; exact nit b u e
    · exact nit c _ z
theorem Inv.tok (I : Inv X pins σ H s) (t : Nat) : Inv X pins σ H { s with toks := t } := I.un (h' := s.heap) (t' := t) Un.refl I.hok
theorem Inv.kept {t' : Nat} (I : Inv X pins σ H s) (k : ∀ b u, s.heap.get? b = some u → h'.get? b = some u) : Inv X pins σ H { s with heap := h', toks := t' } := I.un (Un.kept k) (I.hok.kept k)
theorem Inv.laid {a : Addr} {o : HO} {t' : Nat} (I : Inv X pins σ H s) (k : ∀ b u, s.heap.get? b = some u → h'.get? b = some u) (hp : s.heap.objs.size ≤ a) (new : Z4 X.prog X.w (upd H a o) h' a o) :
    Inv X pins σ (upd H a o) { s with heap := h', toks := t' } := I.un (Un.laid k hp (I.hok.fresh hp)) (I.hok.laid k hp new)
theorem Inv.write {x e : Addr} {o : HO} {t' : Nat} (I : Inv X pins σ H s) (mu : Mut (H x)) (he : e = x ∨ H e = some (.own x)) (k : ∀ b u, b ≠ e → s.heap.get? b = some u → h'.get? b = some u) (heo : ∃ u, h'.get? e = some u)
    (new : Z4 X.prog X.w (upd H x o) h' x o) : Inv X pins σ (upd H x o) { s with heap := h', toks := t' } := I.un (Un.write mu he k heo) (I.hok.write mu he k heo new)
theorem Inv.pins_of {pins' : List (Addr × Obj)} (I : Inv X pins σ H s) (h : ∀ p ∈ pins', s.heap.get? p.1 = some p.2 ∧ H p.1 = none ∧ p.1 ≠ X.env.locals ∧ p.1 ∉ X.fs ∧ ∀ v, p.2.data ≠ .cell v) : Inv X pins' σ H s :=
  ⟨I.ok, I.os, I.bare, I.base, I.loc, I.cell, I.free, I.freeC, fun p hp => (List.mem_append.mp hp).elim (fun z => I.pin p (List.mem_append_left _ z)) (h p), I.hok, I.len⟩
theorem nodup_ix {N : List Str} (hN : N.Nodup) {i j : Nat} {x : Str} (a : N[i]? = some x) (b : N[j]? = some x) : i = j := by
  obtain ⟨h1, e1⟩ := List.getElem?_eq_some_iff.mp a
  obtain ⟨h2, e2⟩ := List.getElem?_eq_some_iff.mp b
  exact (List.getElem_inj hN).mp (e1.trans e2.symm)
theorem store_ok2 {M : Model} {A : Around} {E : Value → Shared → Prop} {i : Nat} {x : Str} {v : V} {u : Value} {Q : Unit → Shared → Prop} (I : Inv X pins σ H s) (hN : X.N.Nodup) (hi : X.N[i]? = some x) (hx : Loc X.env.scope x) (r : ZE v u)
    (h : ∀ s', Inv X pins (σ.set i (some v)) H s' → (∃ a, Heap.SameBut a s.heap s'.heap ∧ (a = X.env.locals ∨ X.env.cells.lookup x = some a)) → Q () s') (hf : X.fn x = true ∨ X.env.scope.names.lookup x = some .local := by first | exact .inl rfl | exact .inr rfl | assumption) : wpAny M A (storeName X.env x u) Q E s := by
  obtain ⟨m, hn, hl⟩ := id I.loc
  have hcls : (X.env.scope.kind == .class || (X.env.scope.kind == .module && X.env.locals != X.env.globals)) = false := by rw [I.ok.kind]; rfl
  have hiσ : i < σ.length := by rw [I.len]; exact (List.getElem?_eq_some_iff.mp hi).1
  have cne := I.cne
  have tracked : ∀ {a : Addr} {h' : Heap}, (∃ o, s.heap.get? a = some o ∧ H a = none) → Heap.SameBut a s.heap h' → HOk X.prog X.w H h' := fun {a h'} ha hs b ob e => by
    obtain ⟨_, _, hfree⟩ := ha
    refine (I.hok b ob e).stay (fun c w' hc q => (hs.2 c ?_).trans q) (fun _ q => q) fun _ _ q => q
    rintro rfl
    rcases hc with rfl | hc
    · rw [hfree] at e; cases e
    · rw [hfree] at hc; cases hc
  rcases hx with hk | hk
  · refine wpAny_storeName_local hk hn (fun h' hn' hs => ?_) hcls
    obtain ⟨oL, _, _, hoL, _⟩ := id hn
    refine h _ ⟨I.ok, I.os, I.bare, ⟨fun b o e n hb hx => ?_, fun b o e n hb hx => ?_, I.base.free, fun b o e hx => ?_, I.base.tups, I.base.frzs, I.base.tbls⟩, ⟨_, hn', fun j y v' e1 e2 e3 => ?_⟩, fun y c e => ?_, I.free, I.freeC, fun p hp => ?_, tracked ⟨oL, hoL, I.free⟩ hs, by simpa using I.len⟩ ⟨_, hs, .inl rfl⟩
    · exact (hs.2 b (Nat.ne_of_lt (Nat.lt_of_lt_of_le (Heap.lt_size e) I.ok.above))).trans (I.base.keep b o e n hb hx)
    · obtain ⟨sl, e1⟩ := I.base.slot b o e n hb hx
      exact ⟨sl, (hs.2 b (Nat.ne_of_lt (Nat.lt_of_lt_of_le (Heap.lt_size e) I.ok.above))).trans e1⟩
    · obtain ⟨o', e1⟩ := I.base.there b o e hx
      exact ⟨o', (hs.2 b (Nat.ne_of_lt (Nat.lt_of_lt_of_le (Heap.lt_size e) I.ok.above))).trans e1⟩
    · by_cases hj : j = i
      · subst hj
        rw [hi] at e1; cases e1
        rw [List.getElem?_set_self hiσ] at e2
        cases e2
        exact ⟨u, r, .inl ⟨hk, by simp⟩⟩
      · rw [List.getElem?_set_ne (Ne.symm hj)] at e2
        obtain ⟨u', r', q⟩ := hl j y v' e1 e2 e3
        refine ⟨u', r', ?_⟩
        rcases q with ⟨k, e⟩ | ⟨k, c, e, z⟩
        · refine .inl ⟨k, ?_⟩
          have : y ≠ x := fun e => hj (nodup_ix hN e1 (e ▸ hi))
          simp [this, e]
        · exact .inr ⟨k, c, e, z.sameBut hs (cne y c e)⟩
    · obtain ⟨w', z⟩ := I.cell y c e
      exact ⟨w', z.sameBut hs (cne y c e)⟩
    · obtain ⟨e, n, ne, nf, d⟩ := I.pin p hp
      exact ⟨(hs.2 p.1 ne).trans e, n, ne, nf, d⟩
  · have hfn : X.fn x = true := by
      rcases hf with z | z
      · exact z
      · rw [z] at hk; cases hk
    obtain ⟨c, hc⟩ := I.ok.has x (.inl hk)
    obtain ⟨w', z⟩ := I.cell x c hc
    refine wpAny_storeName_cell I.ok.kind hk hc z (fun h' hc' hs => ?_)
    obtain ⟨oc, hoc, hocd⟩ := id z
    refine h { s with heap := h' } ⟨I.ok, I.os, I.bare, ⟨fun b o e n hb hx => ?_, fun b o e n hb hx => ?_, I.base.free, fun b o e hx => ?_, I.base.tups, I.base.frzs, I.base.tbls⟩, ⟨m, hn.sameBut hs (Ne.symm (cne x c hc)), fun j y v' e1 e2 e3 => ?_⟩, fun y c' e => ?_, I.free, I.freeC, fun p hp => ?_, tracked ⟨oc, hoc, I.freeC x c hc⟩ hs, by simpa using I.len⟩ ⟨c, hs, .inr hc⟩
    · exact (hs.2 b (Nat.ne_of_lt (Nat.lt_of_lt_of_le (Heap.lt_size e) (I.ok.cab x c hfn hc)))).trans (I.base.keep b o e n hb hx)
    · obtain ⟨sl, e1⟩ := I.base.slot b o e n hb hx
      exact ⟨sl, (hs.2 b (Nat.ne_of_lt (Nat.lt_of_lt_of_le (Heap.lt_size e) (I.ok.cab x c hfn hc)))).trans e1⟩
    · obtain ⟨o', e1⟩ := I.base.there b o e hx
      exact ⟨o', (hs.2 b (Nat.ne_of_lt (Nat.lt_of_lt_of_le (Heap.lt_size e) (I.ok.cab x c hfn hc)))).trans e1⟩
    · by_cases hj : j = i
      · subst hj
        rw [hi] at e1; cases e1
        rw [List.getElem?_set_self hiσ] at e2
        cases e2
        exact ⟨u, r, .inr ⟨.inl hk, c, hc, hc'⟩⟩
      · rw [List.getElem?_set_ne (Ne.symm hj)] at e2
        obtain ⟨u', r', q⟩ := hl j y v' e1 e2 e3
        refine ⟨u', r', ?_⟩
        rcases q with q | ⟨k, c', e, z'⟩
        · exact .inl q
        · refine .inr ⟨k, c', e, z'.sameBut hs ?_⟩
          rintro rfl
          exact hj (nodup_ix hN e1 (I.ok.inj _ _ _ e hc ▸ hi))
    · by_cases hcc : c' = c
      · subst hcc; exact ⟨_, hc'⟩
      · obtain ⟨w2, z2⟩ := I.cell y c' e
        exact ⟨w2, z2.sameBut hs hcc⟩
    · obtain ⟨e, n, ne, nf, d⟩ := I.pin p hp
      refine ⟨(hs.2 p.1 ?_).trans e, n, ne, nf, d⟩
      intro q
      rw [q, hoc] at e
      have q' : oc = p.2 := Option.some.inj e
      exact d w' (by rw [← q']; exact hocd)
theorem store_ok {M : Model} {A : Around} {E : Value → Shared → Prop} {i : Nat} {x : Str} {v : V} {u : Value} {Q : Unit → Shared → Prop} (I : Inv X pins σ H s) (hN : X.N.Nodup) (hi : X.N[i]? = some x) (hx : Loc X.env.scope x) (r : ZE v u)
    (h : ∀ s', Inv X pins (σ.set i (some v)) H s' → Q () s') (hf : X.fn x = true ∨ X.env.scope.names.lookup x = some .local := by first | exact .inl rfl | exact .inr rfl | assumption) : wpAny M A (storeName X.env x u) Q E s :=
  store_ok2 I hN hi hx r (fun s' I' _ => h s' I') hf
theorem Inv.call' {s' : Shared} {ch : List Addr} (I : Inv X pins σ H s) (ho : s'.os = s.os) (u : Un (frs X.stack) ch H H' s.heap s'.heap) (hok : HOk X.prog X.w H' s'.heap) (hg : AllBare s'.gens)
    (hch : ∀ b ∈ ch, (b ∈ X.ex ∨ X.s₀.heap.objs.size ≤ b) ∧ b ≠ X.env.locals ∧ (∀ x c, X.env.cells.lookup x = some c → c ≠ b) ∧ ∀ p ∈ X.pn ++ pins, p.1 ≠ b) : Inv X pins σ H' s' := by
  obtain ⟨h', g', d', t', o'⟩ := s'
  have e : o' = s.os := ho
  subst e
  exact I.call (g' := g') (t' := t') (d' := d') u hok hg hch
end

noncomputable abbrev XK := Value → Option Addr → Hp → Prop
noncomputable abbrev St := List (Option V)
noncomputable abbrev VK := V → Hp → Prop
noncomputable abbrev TE := St → Hp → VK → Prop
noncomputable abbrev TT := St → Hp → (Bool → Hp → Prop) → Prop
noncomputable abbrev TA := St → Hp → (List V → Hp → Prop) → Prop
structure Ends where
  nx : St → Hp → Prop
  rt : VK
  bk : St → Hp → Prop := fun _ _ => False
  ct : St → Hp → Prop := fun _ _ => False
noncomputable abbrev TS := Ends → St → Hp → Prop
noncomputable def EP (X : Cx) (pins : List (Addr × Obj)) (σ : St) (Q : VK) (u : Value) (s' : Shared) : Prop := ∃ v H', Inv X pins σ H' s' ∧ ZE v u ∧ Q v H'
noncomputable def TP (X : Cx) (pins : List (Addr × Obj)) (σ : St) (Q : Bool → Hp → Prop) (b : Bool) (s' : Shared) : Prop := ∃ H', Inv X pins σ H' s' ∧ Q b H'
noncomputable def AP (X : Cx) (pins : List (Addr × Obj)) (σ : St) (Q : List V → Hp → Prop) (us : List Value) (s' : Shared) : Prop := ∃ vs H', Inv X pins σ H' s' ∧ ZO vs us ∧ Q vs H'
noncomputable def SP (X : Cx) (pins : List (Addr × Obj)) (D : Ends) (f : Flow) (s' : Shared) : Prop :=
  match f with
  | .next => ∃ σ' H', Inv X pins σ' H' s' ∧ D.nx σ' H'
  | .brk => ∃ σ' H', Inv X pins σ' H' s' ∧ D.bk σ' H'
  | .cont => ∃ σ' H', Inv X pins σ' H' s' ∧ D.ct σ' H'
  | .ret u => ∃ v σ' H', Inv X pins σ' H' s' ∧ ZE v u ∧ D.rt v H'
noncomputable def PE (X : Cx) (e : Expr) (t : TE) : Prop :=
  ∀ (pins : List (Addr × Obj)) (s : Shared) (σ : St) (H : Hp) (Q : VK), Inv X pins σ H s → t σ H Q → wpAny (model X.prog X.w) X.A (eval e X.env) (EP X pins σ Q) X.xe s
noncomputable def PT (X : Cx) (e : Expr) (t : TT) : Prop :=
  ∀ (pins : List (Addr × Obj)) (s : Shared) (σ : St) (H : Hp) (Q : Bool → Hp → Prop), Inv X pins σ H s → t σ H Q → wpAny (model X.prog X.w) X.A (isTrue e X.env (eval e X.env)) (TP X pins σ Q) X.xe s
noncomputable def PW (X : Cx) (e : Expr) (t : TT) : Prop :=
  ∀ (whole : Sem Value) (pins : List (Addr × Obj)) (s : Shared) (σ : St) (H : Hp) (Q : Bool → Hp → Prop), Inv X pins σ H s → t σ H Q → wpAny (model X.prog X.w) X.A (isTrue e X.env whole) (TP X pins σ Q) X.xe s
theorem PW.pt {X : Cx} {e : Expr} {t : TT} (h : PW X e t) : PT X e t := h _
noncomputable def PA (X : Cx) (es : List Expr) (t : TA) : Prop :=
  ∀ (pos : Pos) (pins : List (Addr × Obj)) (s : Shared) (σ : St) (H : Hp) (Q : List V → Hp → Prop), Inv X pins σ H s → t σ H Q → wpAny (model X.prog X.w) X.A (spliced (backTo pos (starEach es X.env))) (AP X pins σ Q) X.xe s
noncomputable def PS (X : Cx) (st : Stmt) (t : TS) : Prop :=
  ∀ (pins : List (Addr × Obj)) (s : Shared) (σ : St) (H : Hp) (D : Ends), Inv X pins σ H s → t D σ H → wpAny (model X.prog X.w) X.A (exec st X.env) (SP X pins D) X.xe s
noncomputable def PSs (X : Cx) (st : List Stmt) (t : TS) : Prop :=
  ∀ (pins : List (Addr × Obj)) (s : Shared) (σ : St) (H : Hp) (D : Ends), Inv X pins σ H s → t D σ H → wpAny (model X.prog X.w) X.A (execs st X.env) (SP X pins D) X.xe s
theorem thn {α : Type} {t : Sem α} {Q Q' : α → Shared → Prop} {M : Model} {A : Around} {E : Value → Shared → Prop} {s : Shared} (h : wpAny M A t Q E s) (hQ : ∀ a s, Q a s → Q' a s) : wpAny M A t Q' E s := wpAny_mono h hQ fun _ _ x => x
end L2

namespace L2
open PySem PySem.Spec PyProof.Rows
section
variable {X : Cx}

noncomputable def tVar (i : Nat) : TE := fun σ H Q => ∃ v, σ[i]? = some (some v) ∧ Q v H
noncomputable def tC (v : V) : TE := fun _ H Q => Q v H
theorem pe_var {i : Nat} {x : Str} {pos : Pos} (hN : X.N[i]? = some x) (hv : Vis X.env.scope x) (hd : (x == ("__debug__" : Str)) = false := by decide) (hcd : (x == ("__classdict__" : Str)) = false := by decide) : PE X (.Name x pos) (tVar i) := by
  intro pins s σ H Q I h
  obtain ⟨v, e, h⟩ := h
  obtain ⟨m, hn, hl⟩ := I.loc
  obtain ⟨u, r, l⟩ := hl i x v hN e hv
  have fin : EP X pins σ Q u s := ⟨v, H, I, r, h⟩
  rcases l with ⟨hk, hm⟩ | ⟨hk, c, hc, hcell⟩
  · exact wpAny_Name (wpAny_loadName_local I.ok.kind hk hn hm fin) hd
  · rcases hk with hk | hk
    · exact wpAny_Name (wpAny_loadName_cell I.ok.kind hk hc hcell fin) hd
    · exact wpAny_Name (wpAny_loadName_free I.ok.kind hk hc hcell fin hcd) hd
theorem Zh {i j pos} : PE X (.Constant (.int i) j pos) (tC (.int i)) := fun _ _ _ H _ I h => wpAny_Constant_int ⟨.int i, H, I.tok _, ⟨_, rfl⟩, h⟩
theorem pe_bl {b j pos} : PE X (.Constant (.bool b) j pos) (tC (.bl b)) := fun _ _ _ H _ I h => Constant_bool ⟨.bl b, H, I, rfl, h⟩
theorem pe_non {j pos} : PE X (.Constant .none j pos) (tC .non) := fun _ _ _ H _ I h => Constant_none ⟨.non, H, I, rfl, h⟩
theorem Zn {x j pos} : PE X (.Constant (.str x) j pos) (tC (.str x)) := fun _ _ _ H _ I h => Calls.Constant_str ⟨.str x, H, I.tok _, ⟨_, rfl⟩, h⟩
noncomputable def Gl (X : Cx) (x : Str) : Prop := X.env.kindOf x = some .globalImplicit
theorem ld_glob {E : Value → Shared → Prop} {pins : List (Addr × Obj)} {s : Shared} {σ : St} {H : Hp} {x : Str} {u : Value} {pos : Pos} {Q : Value → Shared → Prop} (I : Inv X pins σ H s) (hg : Gl X x) (hm : X.mg x = some u) (h : Q u s)
    (hd : (x == ("__debug__" : Str)) = false := by decide) : wpAny (model X.prog X.w) X.A (eval (.Name x pos) X.env) Q E s :=
  Calls.Name_function_global I.ok.kind hg (Calls.loadGlobal_global (by rw [I.ok.glob]; exact I.mod.glob.keeps I.bk) hm h) hd
theorem ld_blt {E : Value → Shared → Prop} {pins : List (Addr × Obj)} {s : Shared} {σ : St} {H : Hp} {x : Str} {u : Value} {pos : Pos} {Q : Value → Shared → Prop} (I : Inv X pins σ H s) (hg : Gl X x) (hm : X.mg x = none) (hv : bootBuiltins x = some u) (h : Q u s)
    (hn : x ≠ "__name__" := by decide) (hd : (x == ("__debug__" : Str)) = false := by decide) : wpAny (model X.prog X.w) X.A (eval (.Name x pos) X.env) Q E s := by
  obtain ⟨mb, h1, h2⟩ := I.mod.blt
  exact Calls.Name_function_global I.ok.kind hg (Calls.loadGlobal_builtin (by rw [I.ok.glob]; exact I.mod.glob.keeps I.bk) hm (by rw [I.ok.blt]; exact h1.keeps I.bk) ((h2 x hn).trans hv) h) hd
theorem ZL {x : Str} {v : V} {u : Value} {pos : Pos} (hg : Gl X x) (hm : X.mg x = some u) (r : ZE v u) (hd : (x == ("__debug__" : Str)) = false := by decide) : PE X (.Name x pos) (tC v) :=
  fun _ _ _ H _ I h => ld_glob I hg hm ⟨v, H, I, r, h⟩ hd
theorem pe_bltn {x : Str} {v : V} {u : Value} {pos : Pos} (hg : Gl X x) (hm : X.mg x = none) (hv : bootBuiltins x = some u) (r : ZE v u) (hn : x ≠ "__name__" := by decide) (hd : (x == ("__debug__" : Str)) = false := by decide) : PE X (.Name x pos) (tC v) :=
  fun _ _ _ H _ I h => ld_blt I hg hm hv ⟨v, H, I, r, h⟩ hn hd
variable {a b : Expr} {ta tb : TE} {pos : Pos}
noncomputable def PC (X : Cx) (op : CmpOp) (a b : Expr) (t : TE) : Prop :=
  ∀ (pins : List (Addr × Obj)) (s : Shared) (σ : St) (H : Hp) (Q : VK), Inv X pins σ H s → t σ H Q →
    wpAny (model X.prog X.w) X.A (eval a X.env) (fun v s₁ => wpAny (model X.prog X.w) X.A (eval b X.env) (fun u s₂ => wpAny (model X.prog X.w) X.A (compareOp op v u) (EP X pins σ Q) X.xe s₂) X.xe s₁) X.xe s
noncomputable def tB (t : TE) : TT := fun σ H Q => t σ H fun x H1 => ∃ c, x = .bl c ∧ Q c H1
theorem pe_cmp {op : CmpOp} {t : TE} (h : PC X op a b t) (h1 : behindInMarks op b = false := by first | exact nobehind _ (by decide) (by decide) | rfl) : PE X (.Compare a [op] [b] pos) t := fun pins s σ H Q I hw => wpAny_Compare1 (h pins s σ H Q I hw) h1
theorem XS {op : CmpOp} {t : TE} (h : PC X op a b t) (h1 : behindInMarks op b = false := by first | exact nobehind _ (by decide) (by decide) | rfl) : PT X (.Compare a [op] [b] pos) (tB t) := by
  intro pins s σ H Q I hw
  refine wpAny_isTrue_Compare1 (thn (h pins s σ H _ I hw) fun v s1 h1 => thn h1 fun u s2 h2 => thn h2 fun c s3 zz9 => ?_) h1
  obtain ⟨x, H1, I1, r1, q1⟩ := zz9
  obtain ⟨d, rfl, q⟩ := q1
  cases r1
  exact wpAny_truthy_bool ⟨H1, I1, q⟩
theorem Xj {e : Expr} {t : TE} (h : PE X e t) (he : ∀ whole, isTrue e X.env whole = (do let v ← whole; standAt e.pos; holding [v] (truthy v)) := by intro _; rfl) : PT X e (tB t) := by
  intro pins s σ H Q I hw
  refine isTrue_plain (thn (h pins s σ H _ I hw) fun v s1 ⟨x, H1, I1, r1, q1⟩ => ?_) (he _)
  obtain ⟨d, rfl, q⟩ := q1
  cases r1
  exact wpAny_truthy_bool ⟨H1, I1, q⟩
variable {tA tB' : TT} {rest : List Expr}
noncomputable def tAnd (t u : TT) : TT := fun σ H Q => t σ H fun c H1 => if c = true then u σ H1 Q else Q false H1
noncomputable def tOr (t u : TT) : TT := fun σ H Q => t σ H fun c H1 => if c = true then Q true H1 else u σ H1 Q
noncomputable def tNot (t : TT) : TT := fun σ H Q => t σ H fun c H1 => Q (!c) H1
theorem J4 (ha : PT X a tA) : PW X (.BoolOp .And [a] pos) tA := by
  intro wh pins s σ H Q I h
  refine isTrue_and (thn (ha pins s σ H Q I h) fun c s1 e => ?_)
  cases c with
  | true => exact isTrue_and_nil e
  | false => exact e
theorem pw_or1 (ha : PT X a tA) : PW X (.BoolOp .Or [a] pos) tA := by
  intro wh pins s σ H Q I h
  refine isTrue_or (thn (ha pins s σ H Q I h) fun c s1 e => ?_)
  cases c with
  | false => exact isTrue_or_nil e
  | true => exact e
theorem JV (ha : PT X a tA) (hb : PW X (.BoolOp .And (b :: rest) pos) tB') : PW X (.BoolOp .And (a :: b :: rest) pos) (tAnd tA tB') := by
  intro wh pins s σ H Q I h
  refine isTrue_and (thn (ha pins s σ H _ I h) fun c s1 zz9 => ?_)
  obtain ⟨H1, I1, q1⟩ := zz9
  cases c with
  | true => exact hb wh pins s1 σ H1 Q I1 q1
  | false => exact ⟨H1, I1, q1⟩
theorem pw_or (ha : PT X a tA) (hb : PW X (.BoolOp .Or (b :: rest) pos) tB') : PW X (.BoolOp .Or (a :: b :: rest) pos) (tOr tA tB') := by
  intro wh pins s σ H Q I h
  refine isTrue_or (thn (ha pins s σ H _ I h) fun c s1 zz9 => ?_)
  obtain ⟨H1, I1, q1⟩ := zz9
  cases c with
  | true => exact ⟨H1, I1, q1⟩
  | false => exact hb wh pins s1 σ H1 Q I1 q1
theorem pt_not (ha : PT X a tA) : PT X (.UnaryOp .Not a pos) (tNot tA) := by
  intro pins s σ H Q I h
  exact isTrue_not (ha pins s σ H (fun c H1 => Q (!c) H1) I h)
noncomputable def tAndV (ta tb : TE) : TE := fun σ H Q => ta σ H fun x H1 => ∃ c, x = .bl c ∧ if c = true then tb σ H1 Q else Q (.bl false) H1
noncomputable def tNotV (ta : TE) : TE := fun σ H Q => ta σ H fun x H1 => ∃ c, x = .bl c ∧ Q (.bl (!c)) H1
theorem pe_one {op} {t : TE} (h : PE X a t) : PE X (.BoolOp op [a] pos) t := fun pins s σ H Q I hw => BoolOp_one (h pins s σ H Q I hw)
theorem pe_and (ha : PE X a ta) (hb : PE X (.BoolOp .And (b :: rest) pos) tb) : PE X (.BoolOp .And (a :: b :: rest) pos) (tAndV ta tb) := by
  intro pins s σ H Q I h
  refine BoolOp_and (thn (ha pins s σ H _ I h) fun v s1 zz9 => ?_)
  obtain ⟨x, H1, I1, r1, q1⟩ := zz9
  obtain ⟨c, rfl, q1⟩ := q1
  cases r1
  refine wpAny_truthy_bool ?_
  cases c with
  | true => exact hb pins s1 σ H1 Q I1 q1
  | false => exact ⟨.bl false, H1, I1, rfl, q1⟩
theorem pe_not (ha : PE X a ta) : PE X (.UnaryOp .Not a pos) (tNotV ta) := by
  intro pins s σ H Q I h
  refine UnaryOp_ (thn (ha pins s σ H _ I h) fun v s1 zz9 => ?_)
  obtain ⟨x, H1, I1, r1, q1⟩ := zz9
  obtain ⟨c, rfl, q1⟩ := q1
  cases r1
  exact not_of (wpAny_truthy_bool ⟨.bl (!c), H1, I1, rfl, q1⟩)
noncomputable def tIf (t : TT) (ta tb : TE) : TE := fun σ H Q => t σ H fun c H1 => if c = true then ta σ H1 Q else tb σ H1 Q
theorem Jl {c : Expr} (hc : PT X c tA) (ha : PE X a ta) (hb : PE X b tb) : PE X (.IfExp c a b pos) (tIf tA ta tb) := by
  intro pins s σ H Q I h
  refine wpAny_IfExp (thn (hc pins s σ H _ I h) fun d s1 zz9 => ?_)
  obtain ⟨H1, I1, q1⟩ := zz9
  cases d with
  | true => exact ha pins s1 σ H1 Q I1 q1
  | false => exact hb pins s1 σ H1 Q I1 q1
end
end L2

namespace L2
open PySem PySem.Spec PyProof.Rows

noncomputable def SqL (K : PySem.W.Frag) (H : Hp) (a : Addr) (xs : List V) : Prop :=
  Rd H a (.lst xs) ∨
    ∃ (o : Obj) (its : Array Value) (n : Nat), K.lookup a = some o ∧ o.cls = .type "list" ∧ o.dict = none ∧ o.data = .seq its n ∧ its.size ≤ sizeLine ∧ ZO xs its.toList
noncomputable def SqT (K : PySem.W.Frag) (H : Hp) (a : Addr) (xs : List V) : Prop :=
  Rd H a (.tup xs) ∨
    ∃ (o : Obj) (its : Array Value) (n : Nat), K.lookup a = some o ∧ o.cls = .type "tuple" ∧ o.data = .seq its n ∧ its.size ≤ sizeLine ∧ ZO xs its.toList
noncomputable def absV : Value → Option V
  | .none => some .non
  | .bool b => some (.bl b)
  | .int i _ => some (.int i)
  | .str x _ => some (.str x)
  | .bytes b _ => some (.byt b)
  | .float b _ => some (.flt b)
  | .ref a => some (.ref a)
  | .type n => some (.ty n)
  | _ => none
theorem ZE.abs {x : V} {u : Value} (r : ZE x u) : absV u = some x := by
  cases x with
  | non => cases r; rfl
  | bl _ => cases r; rfl
  | int _ => obtain ⟨t, rfl⟩ := r; rfl
  | str _ => obtain ⟨t, rfl⟩ := r; rfl
  | byt _ => obtain ⟨t, rfl⟩ := r; rfl
  | flt _ => obtain ⟨t, rfl⟩ := r; rfl
  | ref _ => cases r; rfl
  | ty _ => cases r; rfl
theorem ZE.inj {x y : V} {u : Value} (r : ZE x u) (q : ZE y u) : x = y := Option.some.inj (r.abs.symm.trans q.abs)
theorem ZO.inj : ∀ {xs ys : List V} {us : List Value}, ZO xs us → ZO ys us → xs = ys
  | _, _, _, .nil, .nil => rfl
  | _, _, _, .cons r t, .cons r' t' => by rw [r.inj r', ZO.inj t t']
section
variable {X : Cx} {pins : List (Addr × Obj)} {σ : St} {H : Hp} {s : Shared} {a : Addr} {xs ys : List V}
theorem SqL.of {K : PySem.W.Frag} (h : H a = some (.lst xs)) : SqL K H a xs := .inl (.inl h)
theorem SqT.of {K : PySem.W.Frag} (h : H a = some (.tup xs)) : SqT K H a xs := .inl (.inl h)
theorem Inv.list (I : Inv X pins σ H s) (h : SqL X.K H a xs) : ∃ its : List Value, ZO xs its ∧ PlainL s.heap a its.toArray ∧ xs.length ≤ sizeLine := by
  rcases h with h | ⟨o, its, n, hk, hc, hd, hs, hz, r⟩
  · obtain ⟨z, its, n, r, e⟩ := h.ok I.hok
    exact ⟨its, r, ⟨_, n, e, rfl, rfl, rfl⟩, z⟩
  · refine ⟨its.toList, r, ⟨o, n, I.kIn a o hk, hc, hd, by simpa using hs⟩, ?_⟩
    have e := r.length
    simp only [Array.length_toList] at e
    omega
theorem Inv.tuple (I : Inv X pins σ H s) (h : SqT X.K H a xs) : ∃ its : List Value, ZO xs its ∧ IsTup s.heap a its.toArray ∧ xs.length ≤ sizeLine := by
  rcases h with h | ⟨o, its, n, hk, hc, hs, hz, r⟩
  · obtain ⟨z, its, r, p⟩ := h.ok I.hok
    exact ⟨its, r, p, z⟩
  · refine ⟨its.toList, r, ⟨o, I.kIn a o hk, hc, n, by simpa using hs⟩, ?_⟩
    have e := r.length
    simp only [Array.length_toList] at e
    omega
theorem Inv.list_inj (I : Inv X pins σ H s) (h : SqL X.K H a xs) (h' : SqL X.K H a ys) : xs = ys := by
  obtain ⟨its, r, ⟨o, n, e, _, _, d⟩, _⟩ := I.list h
  obtain ⟨its', r', ⟨o', n', e', _, _, d'⟩, _⟩ := I.list h'
  rw [e] at e'; cases e'
  rw [d] at d'
  injection d' with d1 _
  have : its = its' := by simpa using congrArg Array.toList d1
  subst this
  exact r.inj r'
end

noncomputable abbrev Cx.wish (X : Cx) (E : Value → Shared → Prop) : Cx := { X with xe := E }
noncomputable abbrev Cx.nox (X : Cx) : Cx := X.wish fun _ _ => False
theorem Cx.Ok.wish {X : Cx} (ok : X.Ok) (E : Value → Shared → Prop) : (X.wish E).Ok :=
  ⟨ok.mod, ok.kind, ok.glob, ok.blt, ok.above, ok.inj, ok.has, ok.cab, ok.hd, ok.frames, ok.stk, ok.exf, ok.bs, ok.bsz, ok.noex, ok.exfs, ok.funs, ok.frf⟩
theorem Cx.Ok.unwish {X : Cx} {E : Value → Shared → Prop} (ok : (X.wish E).Ok) : X.Ok :=
  ⟨ok.mod, ok.kind, ok.glob, ok.blt, ok.above, ok.inj, ok.has, ok.cab, ok.hd, ok.frames, ok.stk, ok.exf, ok.bs, ok.bsz, ok.noex, ok.exfs, ok.funs, ok.frf⟩
section
variable {X : Cx} {pins : List (Addr × Obj)} {σ : St} {H : Hp} {s : Shared} {E : Value → Shared → Prop}
theorem Inv.wish (I : Inv X pins σ H s) (E : Value → Shared → Prop) : Inv (X.wish E) pins σ H s := ⟨I.ok.wish E, I.os, I.bare, I.base, I.loc, I.cell, I.free, I.freeC, I.pin, I.hok, I.len⟩
theorem Inv.unwish (I : Inv (X.wish E) pins σ H s) : Inv X pins σ H s := ⟨I.ok.unwish, I.os, I.bare, I.base, I.loc, I.cell, I.free, I.freeC, I.pin, I.hok, I.len⟩
theorem SP.unwish {D : Ends} {f : Flow} {s' : Shared} (h : SP (X.wish E) pins D f s') : SP X pins D f s' := by
  cases f with
  | next => obtain ⟨σ', H', I, q⟩ := h; exact ⟨σ', H', I.unwish, q⟩
  | brk => obtain ⟨σ', H', I, q⟩ := h; exact ⟨σ', H', I.unwish, q⟩
  | cont => obtain ⟨σ', H', I, q⟩ := h; exact ⟨σ', H', I.unwish, q⟩
  | ret u => obtain ⟨v, σ', H', I, r, q⟩ := h; exact ⟨v, σ', H', I.unwish, r, q⟩
theorem PSs.nox {st : List Stmt} {t : TS} (h : PSs X.nox st t) : PSs X st t := fun pins s σ H D I hw =>
  wpAny_mono (h pins s σ H D (I.wish _) hw) (fun _ _ q => q.unwish) fun _ _ z => False.elim z
end

section
variable {X : Cx} {st : Stmt} {rest : List Stmt} {t u : TS} {e : Expr} {te : TE} {pos : Pos}
noncomputable def tNext : TS := fun D σ H => D.nx σ H
noncomputable def tSeq (t u : TS) : TS := fun D σ H => t { D with nx := u D } σ H
theorem Zp : PSs X [] tNext := fun _ _ σ H _ I h => wpAny_execs_nil ⟨σ, H, I, h⟩
theorem Ze (h1 : PS X st t) (h2 : PSs X rest u) : PSs X (st :: rest) (tSeq t u) := by
  intro pins s σ H D I h
  refine wpAny_execs_cons (thn (h1 pins s σ H { D with nx := u D } I h) fun f s1 q => ?_)
  cases f with
  | next =>
    obtain ⟨σ', H', I', q⟩ := q
    exact h2 pins s1 σ' H' D I' q
  | ret v => exact q
  | brk => exact q
  | cont => exact q
theorem Zf (h1 : PS X st t) : PSs X [st] t := by
  intro pins s σ H D I h
  refine wpAny_execs_cons (thn (h1 pins s σ H D I h) fun f s1 q => ?_)
  cases f with
  | next => exact wpAny_execs_nil q
  | ret v => exact q
  | brk => exact q
  | cont => exact q
theorem Inv.quiet {pins : List (Addr × Obj)} {σ : St} {H : Hp} {s : Shared} (I : Inv X pins σ H s) : interactive X.env = false := by simp [interactive, I.ok.kind]
noncomputable def tDrop (te : TE) : TS := fun D σ H => te σ H fun _ H1 => D.nx σ H1
theorem ZG (he : PE X e te) (hs : swapsWith e none pos.line X.env = pure false := by rfl) : PS X (.Expr e pos) (tDrop te) := by
  intro pins s σ H D I h
  exact wpAny_Expr_any (thn (he pins s σ H _ I h) fun v s1 ⟨x, H1, I1, r1, q1⟩ => ⟨σ, H1, I1, q1⟩) I.quiet hs
noncomputable def tRet (te : TE) : TS := fun D σ H => te σ H D.rt
theorem Zk (he : PE X e te) : PS X (.Return (some e) pos) (tRet te) := by
  intro pins s σ H D I h
  exact wpAny_Return_some (thn (he pins s σ H _ I h) fun v s1 ⟨x, H1, I1, r1, q1⟩ => ⟨x, σ, H1, I1, r1, q1⟩)
noncomputable def tIfS (c : TT) (t u : TS) : TS := fun D σ H => c σ H fun b H1 => if b = true then t D σ H1 else u D σ H1
theorem ZA {c : Expr} {a b : List Stmt} {tc : TT} (hc : PT X c tc) (ha : PSs X a t) (hb : PSs X b u) : PS X (.If c a b pos) (tIfS tc t u) := by
  intro pins s σ H D I h
  refine wpAny_If (thn (hc pins s σ H _ I h) fun d s1 zz9 => ?_)
  obtain ⟨H1, I1, q1⟩ := zz9
  cases d with
  | true => exact ha pins s1 σ H1 D I1 q1
  | false => exact hb pins s1 σ H1 D I1 q1
end

noncomputable abbrev TG := V → St → Hp → (St → Hp → Prop) → Prop
noncomputable abbrev TGs := List V → St → Hp → (St → Hp → Prop) → Prop
noncomputable def PG (X : Cx) (target : Expr) (t : TG) : Prop :=
  ∀ (pins : List (Addr × Obj)) (s : Shared) (σ : St) (H : Hp) (v : V) (u : Value) (Q : St → Hp → Prop), Inv X pins σ H s → ZE v u → t v σ H Q →
    wpAny (model X.prog X.w) X.A (assign target X.env u) (fun _ s' => ∃ σ' H', Inv X pins σ' H' s' ∧ Q σ' H') X.xe s
noncomputable def PGs (X : Cx) (ts : List Expr) (t : TGs) : Prop :=
  ∀ (pins : List (Addr × Obj)) (s : Shared) (σ : St) (H : Hp) (vs : List V) (us : List Value) (Q : St → Hp → Prop), Inv X pins σ H s → ZO vs us → t vs σ H Q →
    wpAny (model X.prog X.w) X.A (assignInOrder ((assignEach ts X.env).map (·.2)) us) (fun _ s' => ∃ σ' H', Inv X pins σ' H' s' ∧ Q σ' H') X.xe s
noncomputable abbrev TSet := V → V → V → Hp → (Hp → Prop) → Prop
noncomputable def PSet (X : Cx) (t : TSet) : Prop :=
  ∀ (pins : List (Addr × Obj)) (s : Shared) (σ : St) (H : Hp) (o i v : V) (ov iv u : Value) (Q : Hp → Prop), Inv X pins σ H s → ZE o ov → ZE i iv → ZE v u → t o i v H Q →
    wpAny (model X.prog X.w) X.A (setItem ov iv u) (fun _ s' => ∃ H', Inv X pins σ H' s' ∧ Q H') X.xe s
section
variable {X : Cx} {pos : Pos}
noncomputable def gName (i : Nat) : TG := fun v σ H Q => Q (σ.set i (some v)) H
theorem ZP {i : Nat} {x : Str} (hN : X.N.Nodup) (hi : X.N[i]? = some x) (hx : Loc X.env.scope x) (hf : X.fn x = true ∨ X.env.scope.names.lookup x = some .local := by first | exact .inl rfl | exact .inr rfl | assumption) : PG X (.Name x pos) (gName i) := by
  intro pins s σ H v u Q I r h
  exact wpAny_assign_Name (store_ok I hN hi hx r (fun s' I' => ⟨_, H, I', h⟩) hf)
noncomputable def gNil : TGs := fun vs σ H Q => vs = [] ∧ Q σ H
noncomputable def gCons (t : TG) (u : TGs) : TGs := fun vs σ H Q => ∃ v r, vs = v :: r ∧ t v σ H fun σ' H' => u r σ' H' Q
theorem pgs_nil : PGs X [] gNil := by
  intro pins s σ H vs us Q I r h
  obtain ⟨e, h⟩ := h
  subst e
  cases r
  exact assignInOrder_nil ⟨σ, H, I, h⟩
theorem Z2 {e : Expr} {es : List Expr} {t : TG} {u : TGs} (h1 : PG X e t) (h2 : PGs X es u)
    (hs : (assignEach (e :: es) X.env).map (·.2) = assign e X.env :: (assignEach es X.env).map (·.2) := by rfl) : PGs X (e :: es) (gCons t u) := by
  intro pins s σ H vs us Q I r h
  obtain ⟨v, vr, e1, h⟩ := h
  subst e1
  cases r with
  | cons r rr =>
    rw [hs]
    refine assignInOrder_cons (thn (h1 pins s σ H _ _ _ I r h) fun _ s1 zz9 => ?_)
    obtain ⟨σ1, H1, I1, q1⟩ := zz9
    exact h2 pins s1 σ1 H1 _ _ Q I1 rr q1
noncomputable def gTup (K : PySem.W.Frag) (n : Nat) (t : TGs) : TG := fun v σ H Q => ∃ a xs, v = .ref a ∧ SqT K H a xs ∧ xs.length = n ∧ t xs σ H Q
theorem pg_tup {es : List Expr} {k : Nat} {t : TGs} {n : Nat} (hc : X.calm = true) (h : PGs X es t)
    (hn : (assignEach es X.env).length = n := by rfl) (hst : (assignEach es X.env).findIdx? (·.1) = none := by rfl) : PG X (.Tuple es k pos) (gTup X.K n t) := by
  intro pins s σ H v u Q I r hw
  obtain ⟨a, xs, e1, hq, hl, hw⟩ := hw
  subst e1
  cases r
  obtain ⟨its, rv, ht, hz⟩ := I.tuple hq
  refine assign_Tuple_tuple (I.ok.hd hc) ht (by simp [hn, ← hl, rv.length]) hst fun h' hx => ?_
  have I1 : Inv X pins σ H { s with heap := h' } := I.kept (t' := s.toks) fun b o e => hx b o (Nat.ne_of_lt (Heap.lt_size e)) e
  exact h pins _ σ H xs _ Q I1 (by simpa using rv) hw
noncomputable def gSub (to ti : TE) (t : TSet) : TG := fun v σ H Q => to σ H fun o H1 => ti σ H1 fun i H2 => t o i v H2 fun H3 => Q σ H3
theorem pg_sub {o i : Expr} {to ti : TE} {t : TSet} (ho : PE X o to) (hi : PE X i ti) (hs : PSet X t)
    (ha : ∀ v, assign (.Subscript o i pos) X.env v = (do
      let ov ← holding [v] (eval o X.env)
      let iv ← holding [v, ov] (eval i X.env)
      standAt pos
      holding [v, ov, iv] (setItem ov iv v)
      release [v, ov, iv] []) := by intro _; rfl) : PG X (.Subscript o i pos) (gSub to ti t) := by
  intro pins s σ H v u Q I r h
  rw [ha]
  refine wpAny_bind (wpAny_holding (thn (ho pins s σ H _ I h) fun ov s1 zz9 => ?_))
  obtain ⟨x, H1, I1, r1, q1⟩ := zz9
  refine wpAny_bind (wpAny_holding (thn (hi pins s1 σ H1 _ I1 q1) fun iv s2 zz9 => ?_))
  obtain ⟨y, H2, I2, r2, q2⟩ := zz9
  refine wpAny_bind (wpAny_standAt (wpAny_bind (wpAny_holding (thn (hs pins s2 σ H2 x y v ov iv u _ I2 r1 r2 r q2) fun _ s3 zz9 => ?_))))
  obtain ⟨H3, I3, q3⟩ := zz9
  exact wpAny_release ⟨σ, H3, I3, q3⟩
noncomputable def tAsg (te : TE) (g : TG) : TS := fun D σ H => te σ H fun x H1 => g x σ H1 D.nx
theorem ps_asg {tg e : Expr} {te : TE} {g : TG} (he : PE X e te) (hg : PG X tg g) (hs : swapsWithSole [tg] e pos.line X.env = pure false := by rfl) (hw : swappedStores [tg] e X.env = pure none := by rfl)
    (h1 : (assignEach [tg] X.env).map (·.2) = [assign tg X.env] := by rfl) : PS X (.Assign [tg] e pos) (tAsg te g) := by
  intro pins s σ H D I h
  refine wpAny_Assign_stores (thn (he pins s σ H _ I h) fun v s1 zz9 => ?_) hs hw
  obtain ⟨x, H1, I1, r1, q1⟩ := zz9
  rw [h1]
  exact thn (hg pins s1 σ H1 x v _ I1 r1 q1) fun _ s2 q => q
theorem Zu {i : Nat} {x : Str} {e : Expr} {te : TE} {pos' : Pos} (hN : X.N.Nodup) (hi : X.N[i]? = some x) (hx : Loc X.env.scope x) (he : PE X e te) (hs : swapsWith e (some (.Name x pos')) pos.line X.env = pure false := by rfl) (hf : X.fn x = true ∨ X.env.scope.names.lookup x = some .local := by first | exact .inl rfl | exact .inr rfl | assumption) :
    PS X (.Assign [.Name x pos'] e pos) (tAsg te (gName i)) := by
  intro pins s σ H D I h
  refine wpAny_Assign_Name (thn (he pins s σ H _ I h) fun v s1 zz9 => ?_) hs
  obtain ⟨y, H1, I1, r1, q1⟩ := zz9
  exact store_ok I1 hN hi hx r1 (fun s2 I2 => ⟨_, H1, I2, q1⟩) hf
noncomputable def tPar (i j : Nat) (ta : TA) : TS := fun D σ H => ta σ H fun vs H1 => ∃ v w, vs = [v, w] ∧ D.nx ((σ.set i (some v)).set j (some w)) H1
theorem ps_par {i j : Nat} {x y : Str} {a b : Expr} {ta : TA} {px py pt : Pos} {kt k2 pt2} (hc : X.calm = true) (hN : X.N.Nodup) (hi : X.N[i]? = some x) (hj : X.N[j]? = some y) (hij : i ≠ j)
    (hx : X.env.scope.names.lookup x = some .local) (hy : X.env.scope.names.lookup y = some .local) (ha : PA X [a, b] ta)
    (hw : swappedStores [.Tuple [.Name x px, .Name y py] kt pt] (.Tuple [a, b] k2 pt2) X.env = pure (some [x, y]))
    (hs : swapsWithSole [.Tuple [.Name x px, .Name y py] kt pt] (.Tuple [a, b] k2 pt2) pos.line X.env = pure false := by rfl) :
    PS X (.Assign [.Tuple [.Name x px, .Name y py] kt pt] (.Tuple [a, b] k2 pt2) pos) (tPar i j ta) := by
  intro pins s σ H D I h
  rw [exec_Assign_arm]
  refine wpAny_bind (wpAny_standAt ?_)
  rw [hs]
  refine wpAny_bind (wpAny_pure ?_)
  rw [if_neg (by decide)]
  refine wpAny_bind (Tuple_ (thn (ha _ pins s σ H _ I h) fun us s1 zz9 => ?_))
  obtain ⟨vs, H1, I1, r1, q1⟩ := zz9
  obtain ⟨v, w, e1, q1⟩ := q1
  subst e1
  obtain ⟨u1, u2, rfl, rv, rw'⟩ : ∃ u1 u2, us = [u1, u2] ∧ ZE v u1 ∧ ZE w u2 := by
    cases r1 with
    | cons p q =>
      cases q with
      | cons p' q' =>
        cases q'
        exact ⟨_, _, rfl, p, p'⟩
  refine wpAny_newObj_type ?_ (by show 2 ≤ sizeLine; decide)
  have I2 : Inv X pins σ H1 { s1 with heap := s1.heap.push { cls := .type "tuple", data := .seq [u1, u2].toArray } } := I1.kept (t' := s1.toks) fun b o e => Heap.get?_push_of_some _ e
  rw [hw]
  refine wpAny_bind (wpAny_pure ?_)
  show wpAny (model X.prog X.w) X.A (do rule "assign.swapped-stores"; let items ← unpackItems (.ref s1.heap.objs.size) 2 none; assignInOrder [fun v => bindName X.env y v, fun v => bindName X.env x v] items.reverse; pure Flow.next) _ _ _
  refine wpAny_bind (wpAny_rule (wpAny_bind (unpackItems_tuple (items := #[u1, u2]) (I.ok.hd hc) (IsTup.new s1.heap _) fun h' hx' => ?_)))
  have I3 := I2.kept (h' := h') (t' := s1.toks) fun b o e => hx' b o (Nat.ne_of_lt (Heap.lt_size e)) e
  show wpAny _ _ (assignInOrder [fun v => bindName X.env y v, fun v => bindName X.env x v] [u2, u1] >>= fun _ => pure Flow.next) _ _ _
  refine wpAny_bind (assignInOrder_cons (wpAny_bindName (store_ok I3 hN hj (.inl hy) rw' (fun s2 I4 => ?_) (.inr hy))))
  refine assignInOrder_cons (wpAny_bindName (store_ok I4 hN hi (.inl hx) rv (fun s3 I5 => assignInOrder_nil (wpAny_pure ?_)) (.inr hx)))
  rw [List.set_comm _ _ (Ne.symm hij)] at I5
  exact ⟨_, H1, I5, q1⟩
end

section
variable {X : Cx} {pos : Pos}
noncomputable def tWhile (c : TT) (tb : TS) : TS := fun D σ H => ∃ W : Nat → St → Hp → Prop, (∃ m, W m σ H) ∧ ∀ m σ H, W m σ H →
  c σ H fun b H1 => if b = true then ∃ N : St → Hp → Prop, (∀ σ' H', N σ' H' → ∃ m', m' < m ∧ W m' σ' H') ∧ tb { D with nx := N, ct := N, bk := D.nx } σ H1 else D.nx σ H1
theorem ps_while {c : Expr} {body : List Stmt} {tc : TT} {tb : TS} (hp : PassesOwn (model X.prog X.w) X.A X.env X.xe) (hc : PT X c tc) (hb : PSs X body tb) : PS X (.While c body [] pos) (tWhile tc tb) := by
  intro pins s σ H D I h
  obtain ⟨W, ⟨m0, w0⟩, turn⟩ := h
  refine wpAny_While (codeAny_whileLoop (fun n s' => ∃ σ' H', Inv X pins σ' H' s' ∧ W n σ' H') ?_ m0 ⟨σ, H, I, w0⟩)
  rintro n s1 ⟨σ1, H1, I1, w1⟩
  refine wpAny_passesOwn hp (thn (hc pins s1 σ1 H1 _ I1 (turn n σ1 H1 w1)) fun b s2 zz9 => ?_)
  obtain ⟨H2, I2, q2⟩ := zz9
  cases b with
  | true =>
    obtain ⟨N, hN, q2⟩ := q2
    rw [if_pos rfl]
    refine wpAny_passesOwn hp (thn (hb pins s2 σ1 H2 _ I2 q2) fun f s3 q3 => ?_)
    cases f with
    | next =>
      obtain ⟨σ3, H3, I3, n3⟩ := q3
      obtain ⟨m', hm, w3⟩ := hN σ3 H3 n3
      exact ⟨m', hm, σ3, H3, I3, w3⟩
    | cont =>
      obtain ⟨σ3, H3, I3, n3⟩ := q3
      obtain ⟨m', hm, w3⟩ := hN σ3 H3 n3
      exact ⟨m', hm, σ3, H3, I3, w3⟩
    | brk => exact q3
    | ret v => exact q3
  | false =>
    rw [if_neg Bool.false_ne_true]
    exact wpAny_execs_nil ⟨σ1, H2, I2, q2⟩
end

structure It where
  go : Nat → Hp → Prop
  yld : Nat → Hp → V → Hp → Prop
  stop : Nat → Hp → Prop
noncomputable def FpOk (X : Cx) (pins : List (Addr × Obj)) (H : Hp) (b : Addr) : Prop :=
  H b = none ∧ b ≠ X.env.locals ∧ b ∉ X.fs ∧ (b ∈ X.ex ∨ X.s₀.heap.objs.size ≤ b) ∧ (∀ x c, X.env.cells.lookup x = some c → c ≠ b) ∧ ∀ p ∈ X.pn ++ pins, p.1 ≠ b
theorem Inv.fpOk {X : Cx} {pins : List (Addr × Obj)} {σ : St} {H H' : Hp} {s : Shared} {b : Addr} (I : Inv X pins σ H s) (hb : s.heap.objs.size ≤ b) (hn : H' b = none) : FpOk X pins H' b := by
  refine ⟨hn, Nat.ne_of_gt (Nat.lt_of_lt_of_le I.lt hb), I.nofs hb, .inr (Nat.le_trans I.sz hb), fun x c e z => ?_, fun p hp z => ?_⟩
  · obtain ⟨v, q⟩ := I.cell x c e
    exact absurd (Nat.lt_of_lt_of_le q.lt (by rw [z]; exact hb)) (Nat.lt_irrefl _)
  · exact absurd (Nat.lt_of_lt_of_le (Heap.lt_size (I.pin p hp).1) (by rw [z]; exact hb)) (Nat.lt_irrefl _)
structure Turn (P : Program) (w : World) (K : PySem.W.Frag) (tg : Expr) (J : It) (fp : List Addr) (it : Addr) (tn : Nat → Heap → Prop) : Prop where
  mem : it ∈ fp
  obj : ∀ i h, tn i h → ∀ b ∈ fp, ∃ o, h.get? b = some o ∧ ∀ v, o.data ≠ .cell v
  keep : ∀ i h h', tn i h → (∀ b ∈ fp, ∀ o, h.get? b = some o → h'.get? b = some o) → tn i h'
  item : ∀ (X : Cx), X.prog = P → X.w = w → X.K = K → X.calm = true → ∀ (i : Nat) (pins : List (Addr × Obj)) (s : Shared) (σ : St) (H : Hp) (E : Value → Shared → Prop), Inv X pins σ H s → (∀ b ∈ fp, FpOk X pins H b) → tn i s.heap → J.go i H →
    wpAny (model P w) X.A (pyNext (.ref it)) (fun r s1 => ∃ u, r = some u ∧
      wpAny (model P w) X.A (letOwnedTupleGo tg (.ref it) u) (fun _ s2 => ∃ x H', Inv X pins σ H' s2 ∧ ZE x u ∧ J.yld i H x H' ∧ tn (i + 1) s2.heap ∧ ∀ b ∈ fp, H' b = none) E s1) E s
  done : ∀ (X : Cx), X.prog = P → X.w = w → X.K = K → X.calm = true → ∀ (i : Nat) (pins : List (Addr × Obj)) (s : Shared) (σ : St) (H : Hp) (E : Value → Shared → Prop), Inv X pins σ H s → (∀ b ∈ fp, FpOk X pins H b) → tn i s.heap → J.stop i H →
    wpAny (model P w) X.A (pyNext (.ref it)) (fun r s1 => r = none ∧ Inv X pins σ H s1) E s
  self : ∀ (A : Around) (i : Nat) (s : Shared) (Q : Value → Shared → Prop) (E : Value → Shared → Prop), tn i s.heap → Q (.ref it) s → wpAny (model P w) A (pyIter (.ref it)) Q E s
noncomputable abbrev TI := St → Hp → (It → Hp → Prop) → Prop
noncomputable def PIE (X : Cx) (pins : List (Addr × Obj)) (σ : St) (tg : Expr) (R : It → Hp → Prop) (itv : Value) (s2 : Shared) : Prop :=
  ∃ (it : Addr) (fp : List Addr) (tn : Nat → Heap → Prop) (J : It) (H' : Hp), itv = .ref it ∧ Inv X pins σ H' s2 ∧ Turn X.prog X.w X.K tg J fp it tn ∧ tn 0 s2.heap ∧ (∀ b ∈ fp, FpOk X pins H' b) ∧ R J H'
noncomputable def PI (X : Cx) (tg iter : Expr) (wi : TI) : Prop :=
  ∀ (pins : List (Addr × Obj)) (s : Shared) (σ : St) (H : Hp) (R : It → Hp → Prop), Inv X pins σ H s → wi σ H R →
    wpAny (model X.prog X.w) X.A (eval iter X.env) (fun v s1 => wpAny (model X.prog X.w) X.A (pyIter v) (PIE X pins σ tg R) X.xe s1) X.xe s
theorem go_of {M : Model} {A : Around} {E : Value → Shared → Prop} {s : Shared} {tg : Expr} {it : Addr} {u : Value} {o : Obj} {n : String} {vs : Array Value} {Q : Unit → Shared → Prop} (ho : s.heap.get? it = some o) (hc : o.cls = .type n) (hd : o.data = .fields vs)
    (hn : ["enumerate", "zip", "dict_itemiterator", "dict_reverseitemiterator", "odict_iterator", "itertools.zip_longest", "itertools.pairwise"].contains n = false) (hQ : Q () s) : wpAny M A (letOwnedTupleGo tg (.ref it) u) Q E s := by
  unfold letOwnedTupleGo
  cases tg <;> first
    | exact wpAny_pure hQ
    | (cases u <;> first
        | exact wpAny_pure hQ
        | (refine wpAny_bind (wpAny_load ho ?_)
           rw [hc, hd]
           show wpAny M A (if (["enumerate", "zip", "dict_itemiterator", "dict_reverseitemiterator", "odict_iterator", "itertools.zip_longest", "itertools.pairwise"].contains n && vs[0]? == some (rawInt _)) = true then _ else _) Q E s
           rw [if_neg (by intro h; rw [hn, Bool.false_and] at h; cases h)]
           exact wpAny_pure hQ))
noncomputable def Itl (K : PySem.W.Frag) (a : Addr) : It :=
  ⟨fun i H => ∃ xs x, SqL K H a xs ∧ xs[i]? = some x, fun i H x H' => H' = H ∧ ∀ xs, SqL K H a xs → xs[i]? = some x, fun i H => ∃ xs, SqL K H a xs ∧ xs.length ≤ i⟩
noncomputable def Itr (lo : Int) (n : Nat) : It := ⟨fun i _ => i < n, fun i H x H' => H' = H ∧ x = .int (lo + i), fun i _ => n ≤ i⟩
theorem turn_list {P : Program} {w : World} {K : PySem.W.Frag} {tg : Expr} (a it : Addr) : Turn P w K tg (Itl K a) [it] it (fun i h => h.IsListIter it a i) where
  mem := by simp
  obj := fun i h st b hb => by
    have e : b = it := by simpa using hb
    subst e
    obtain ⟨o, e, c, d⟩ := st
    exact ⟨o, e, fun v z => by rw [d] at z; cases z⟩
  keep := fun i h h' st k => st.at fun o e => k it (by simp) o e
  item := by
    intro X hP hw hK hc i pins s σ H E I hf st hg
    subst hP hw hK
    obtain ⟨xs, x, hq, hx⟩ := hg
    obtain ⟨its, rv, p, hz⟩ := I.list hq
    obtain ⟨u, hu, ru⟩ := rv.get hx
    obtain ⟨f0, f1, f2, f3, f4, f5⟩ := hf it (by simp)
    refine wpAny_pyNext_list_item st p.isList (x := u) (by simpa using hu) fun h' st' sb => ?_
    have I1 : Inv X pins σ H { s with heap := h' } := I.turned (t' := s.toks) (fun b o hb e => (sb.2 b hb).trans e) f0 f1 f3 f4 f5
    obtain ⟨o, e, c, d⟩ := id st'
    exact ⟨u, rfl, go_of (s := { s with heap := h' }) e c d (by decide) ⟨x, H, I1, ru, ⟨rfl, fun ys hy => by rw [I.list_inj hy hq]; exact hx⟩, st', fun b hb => (hf b hb).1⟩⟩
  done := by
    intro X hP hw hK hc i pins s σ H E I hf st hg
    subst hP hw hK
    obtain ⟨xs, hq, hx⟩ := hg
    obtain ⟨its, rv, p, hz⟩ := I.list hq
    obtain ⟨f0, f1, f2, f3, f4, f5⟩ := hf it (by simp)
    have hl := rv.length
    exact wpAny_pyNext_list_end (I.ok.hd hc) st p.isList (by simp; omega) fun h' eb => ⟨rfl, I.turned (t' := s.toks) (fun b o hb e => eb b o hb e) f0 f1 f3 f4 f5⟩
  self := fun _ _ _ _ _ st h => wpAny_pyIter_listiter st h
theorem turn_range {P : Program} {w : World} {K : PySem.W.Frag} {tg : Expr} (it : Addr) (lo : Int) (n : Nat) : Turn P w K tg (Itr lo n) [it] it (fun i h => IsRangeIter h it (lo + (i : Nat) * 1) ((n : Int) - (i : Nat)) 1) where
  mem := by simp
  obj := fun i h st b hb => by
    have e : b = it := by simpa using hb
    subst e
    exact ⟨_, st, fun v z => by
      have z' : Data.fields _ = Data.cell v := z
      cases z'⟩
  keep := fun i h h' st k => k it (by simp) _ st
  item := by
    intro X hP hw hK hc i pins s σ H E I hf st hg
    subst hP hw hK
    obtain ⟨f0, f1, f2, f3, f4, f5⟩ := hf it (by simp)
    have W := Walks.range (prog := X.prog) (w := X.w) (I.ok.hd hc) it lo 1 n
    refine W.item i s _ _ hg st fun v h' tk hv st' kk => ?_
    obtain ⟨t, rfl⟩ := hv
    have I1 : Inv X pins σ H { s with heap := h', toks := tk } := I.turned (fun b o hb e => kk b o (by simpa using hb) e) f0 f1 f3 f4 f5
    refine ⟨_, rfl, go_of (s := { s with heap := h', toks := tk }) (n := "range_iterator") st' rfl rfl (by decide) ⟨.int (lo + i), H, I1, ⟨t, ?_⟩, ⟨rfl, rfl⟩, st', fun b hb => (hf b hb).1⟩⟩
    rw [Int.mul_one]
  done := by
    intro X hP hw hK hc i pins s σ H E I hf st hg
    subst hP hw hK
    obtain ⟨f0, f1, f2, f3, f4, f5⟩ := hf it (by simp)
    exact wpAny_pyNext_range_end (I.ok.hd hc) st (by have : n ≤ i := hg; omega) fun h' eb => ⟨rfl, I.turned (t' := s.toks) (fun b o hb e => eb b o hb e) f0 f1 f3 f4 f5⟩
  self := fun _ _ _ _ _ st h => wpAny_pyIter_rangeiter st h
end L2

namespace L2
open PySem PySem.Spec PyProof.Rows
section
variable {X : Cx} {tg : Expr}
noncomputable def iList (K : PySem.W.Frag) (tl : TE) : TI := fun σ H R => tl σ H fun x H1 => ∃ a, x = .ref a ∧ (∃ xs, SqL K H1 a xs) ∧ R (Itl K a) H1
theorem YB {l : Expr} {tl : TE} (hl : PE X l tl) : PI X tg l (iList X.K tl) := by
  intro pins s σ H R I h
  refine thn (hl pins s σ H _ I h) fun v s1 zz9 => ?_
  obtain ⟨x, H1, I1, r1, q1⟩ := zz9
  obtain ⟨a, e, ⟨xs, hq⟩, q⟩ := q1
  subst e
  cases r1
  obtain ⟨its, rv, p, hz⟩ := I1.list hq
  refine wpAny_pyIter_list p.isList ?_
  refine ⟨s1.heap.objs.size, [s1.heap.objs.size], _, _, H1, rfl, I1.kept (t' := s1.toks) fun b o e => Heap.get?_push_of_some _ e, turn_list a _, ⟨_, Heap.get?_push_size _ rfl, rfl, rfl⟩, fun b hb => ?_, q⟩
  have e : b = s1.heap.objs.size := by simpa using hb
  subst e
  exact I1.fpOk (Nat.le_refl _) (I1.hok.fresh (Nat.le_refl _))
theorem range_it {pins : List (Addr × Obj)} {σ : St} {H : Hp} {s : Shared} {R : It → Hp → Prop} {E : Value → Shared → Prop} {lo hi : Int} {t u v : Tok} {tk : Nat} (I : Inv X pins σ H s) (h1 : -(2 ^ 62) ≤ lo) (h2 : lo < 2 ^ 62) (h3 : -(2 ^ 62) ≤ hi) (h4 : hi < 2 ^ 62)
    (q : R (Itr lo (hi - lo).toNat) H) : wpAny (model X.prog X.w) X.A (pyIter (.ref s.heap.objs.size)) (PIE X pins σ tg R) E { s with heap := s.heap.push { cls := .type "range", data := .fields #[.int lo t, .int hi u, .int 1 v] }, toks := tk } := by
  refine wpAny_pyIter_range (IsRange.new ..) (small_one h1 h2 h3 h4) ?_
  have I1 : Inv X pins σ H { s with heap := s.heap.push { cls := .type "range", data := .fields #[.int lo t, .int hi u, .int 1 v] }, toks := tk } := I.kept fun b o e => Heap.get?_push_of_some _ e
  refine ⟨(s.heap.push { cls := .type "range", data := .fields #[.int lo t, .int hi u, .int 1 v] }).objs.size, [(s.heap.push { cls := .type "range", data := .fields #[.int lo t, .int hi u, .int 1 v] }).objs.size], _, _, H, rfl,
    I1.kept (t' := tk) fun b o e => Heap.get?_push_of_some _ e, turn_range _ lo (hi - lo).toNat, ?_, fun b hb => ?_, q⟩
  · have e1 : lo + ((0 : Nat) : Int) * 1 = lo := by simp
    have e2 : (((hi - lo).toNat : Nat) : Int) - ((0 : Nat) : Int) = Builtin.Range.rangeSize lo hi 1 := by rw [rangeSize_one]; split <;> omega
    show IsRangeIter _ _ (lo + ((0 : Nat) : Int) * 1) ((((hi - lo).toNat : Nat) : Int) - ((0 : Nat) : Int)) 1
    rw [e1, e2]
    exact Heap.get?_push_size _ rfl
  · have e : b = (s.heap.push { cls := .type "range", data := .fields #[.int lo t, .int hi u, .int 1 v] }).objs.size := by simpa using hb
    subst e
    exact I1.fpOk (Nat.le_refl _) (I1.hok.fresh (Nat.le_refl _))
noncomputable def iRng1 (ta : TA) : TI := fun σ H R => ta σ H fun vs H1 => ∃ j : Int, vs = [.int j] ∧ -(2 ^ 62) ≤ j ∧ j < 2 ^ 62 ∧ R (Itr 0 j.toNat) H1
theorem pi_range1 {a : Expr} {ta : TA} {p pos : Pos} (hg : Gl X "range") (hm : X.mg "range" = none) (ha : PA X [a] ta) (hs : starEach [a] X.env = [(false, eval a X.env)] := by rfl) : PI X tg (.Call (.Name "range" p) [a] [] pos) (iRng1 ta) := by
  intro pins s σ H R I h
  refine Call_ (ld_blt I hg hm boot_range (PyProof.Rows.callWith_type1 (thn (ha pos pins s σ H _ I h) fun us s1 zz9 => ?_) hs rfl))
  obtain ⟨vs, H1, I1, r1, q1⟩ := zz9
  obtain ⟨j, e, q1, q2, q⟩ := q1
  subst e
  cases r1 with
  | cons r rr =>
    cases rr
    obtain ⟨t, rfl⟩ := r
    exact call_range_1 (range_it I1 (by omega) (by omega) q1 q2 (by simpa using q))
noncomputable def tFor (wi : TI) (g : TG) (tb : TS) : TS := fun D σ H => wi σ H fun J H1 => ∃ W : Nat → Nat → St → Hp → Prop, (∃ m, W 0 m σ H1) ∧ ∀ i m σ H, W i m σ H →
  (J.stop i H ∧ D.nx σ H) ∨ (J.go i H ∧ ∃ N : St → Hp → Prop, (∀ σ' H', N σ' H' → ∃ m', m' < m ∧ W (i + 1) m' σ' H') ∧ ∀ x H', J.yld i H x H' → g x σ H' fun σ2 H2 => tb { D with nx := N, ct := N, bk := D.nx } σ2 H2)
noncomputable def pinsAt (fp : List Addr) (h : Heap) : List (Addr × Obj) := fp.filterMap fun b => (h.get? b).map fun o => (b, o)
theorem mem_pinsAt {fp : List Addr} {h : Heap} {b : Addr} {o : Obj} (hb : b ∈ fp) (e : h.get? b = some o) : (b, o) ∈ pinsAt fp h := List.mem_filterMap.mpr ⟨b, hb, by rw [e]; rfl⟩
theorem of_pinsAt {fp : List Addr} {h : Heap} {p : Addr × Obj} (hp : p ∈ pinsAt fp h) : p.1 ∈ fp ∧ h.get? p.1 = some p.2 := by
  obtain ⟨b, hb, e⟩ := List.mem_filterMap.mp hp
  cases q : h.get? b with
  | none => rw [q] at e; cases e
  | some o =>
    rw [q] at e
    have e' : (b, o) = p := Option.some.inj e
    subst e'
    exact ⟨hb, q⟩
theorem Inv.pinned {pins : List (Addr × Obj)} {σ : St} {H : Hp} {s : Shared} {fp : List Addr} (I : Inv X pins σ H s) (hf : ∀ b ∈ fp, FpOk X pins H b) (ho : ∀ b ∈ fp, ∃ o, s.heap.get? b = some o ∧ ∀ v, o.data ≠ .cell v) : Inv X (pins ++ pinsAt fp s.heap) σ H s :=
  I.pins_of fun p hp => (List.mem_append.mp hp).elim (fun z => I.pin p (List.mem_append_right _ z)) fun z => by
    obtain ⟨hb, e⟩ := of_pinsAt z
    obtain ⟨f0, f1, f2, _⟩ := hf p.1 hb
    obtain ⟨o, e', d⟩ := ho p.1 hb
    rw [e] at e'; cases e'
    exact ⟨e, f0, f1, f2, d⟩
theorem Inv.unpinned {pins pl : List (Addr × Obj)} {σ : St} {H : Hp} {s : Shared} (I : Inv X (pins ++ pl) σ H s) : Inv X pins σ H s := I.pins_of fun p hp => I.pin p (List.mem_append_right _ (List.mem_append_left _ hp))
theorem JW {iter : Expr} {body : List Stmt} {wi : TI} {g : TG} {tb : TS} {pos : Pos} (hp : PassesOwn (model X.prog X.w) X.A X.env X.xe) (hc : X.calm = true) (hi : PI X tg iter wi) (hg : PG X tg g) (hb : PSs X body tb)
    (hs : ∀ x, foldedSetIterable iter X.env x = pure x := by intro _; rfl) : PS X (.For tg iter body [] pos) (tFor wi g tb) := by
  intro pins s σ H D I h
  refine wpAny_For (thn (hi pins s σ H _ I h) fun v s1 h1 => thn h1 fun itv s2 h2 => ?_) hs
  obtain ⟨it, fp, tn, J, H2, e, I2, T, st2, f2, W, ⟨m0, w0⟩, turn⟩ := h2
  subst e
  -- what stays true of the iterator's objects through the loop
  have stat : ∀ {H' : Hp}, (∀ b ∈ fp, H' b = none) → ∀ b ∈ fp, FpOk X pins H' b := fun hn b hb => ⟨hn b hb, (f2 b hb).2⟩
  refine codeAny_forLoop_any (fun n s' => ∃ i σ' H', Inv X pins σ' H' s' ∧ tn i s'.heap ∧ (∀ b ∈ fp, H' b = none) ∧ W i n σ' H') ?_ m0 ⟨0, σ, H2, I2, st2, fun b hb => (f2 b hb).1, w0⟩
  rintro n s3 ⟨i, σ3, H3, I3, st3, fr3, w3⟩
  rcases turn i n σ3 H3 w3 with ⟨stop, qn⟩ | ⟨go, N, hN, step⟩
  · refine wpAny_passesOwn hp (thn (T.done X rfl rfl rfl hc i pins s3 σ3 H3 X.xe I3 (stat fr3) st3 stop) fun r s4 zz9 => ?_)
    obtain ⟨hr, I4⟩ := zz9
    subst hr
    exact wpAny_execs_nil ⟨σ3, H3, I4, qn⟩
  · refine wpAny_passesOwn hp (thn (T.item X rfl rfl rfl hc i pins s3 σ3 H3 X.xe I3 (stat fr3) st3 go) fun r s4 zz9 => ?_)
    obtain ⟨u, hr, h4⟩ := zz9
    subst hr
    refine wpAny_passesOwn hp (thn h4 fun _ s5 zz9 => ?_)
    obtain ⟨x, H5, I5, r5, y5, st5, fr5⟩ := zz9
    have I5' := I5.pinned (stat fr5) (T.obj _ _ st5)
    refine wpAny_passesOwn hp (thn (hg _ s5 σ3 H5 x u _ I5' r5 (step x H5 y5)) fun _ s6 zz9 => ?_)
    obtain ⟨σ6, H6, I6, q6⟩ := zz9
    refine wpAny_passesOwn hp (thn (hb _ s6 σ6 H6 _ I6 q6) fun f s7 q7 => ?_)
    have again : ∀ {σ7 : St} {H7 : Hp}, Inv X (pins ++ pinsAt fp s5.heap) σ7 H7 s7 → N σ7 H7 → ∃ m, m < n ∧ ∃ i σ' H', Inv X pins σ' H' s7 ∧ tn i s7.heap ∧ (∀ b ∈ fp, H' b = none) ∧ W i m σ' H' := fun {σ7 H7} I7 n7 => by
      obtain ⟨m', hm, w7⟩ := hN σ7 H7 n7
      refine ⟨m', hm, i + 1, σ7, H7, I7.unpinned, T.keep _ _ _ st5 fun b hb o e => (I7.pin (b, o) (List.mem_append_right _ (List.mem_append_right _ (mem_pinsAt hb e)))).1, fun b hb => ?_, w7⟩
      obtain ⟨o, e, d⟩ := T.obj _ _ st5 b hb
      exact (I7.pin (b, o) (List.mem_append_right _ (List.mem_append_right _ (mem_pinsAt hb e)))).2.1
    cases f with
    | next => obtain ⟨σ7, H7, I7, n7⟩ := q7; exact again I7 n7
    | cont => obtain ⟨σ7, H7, I7, n7⟩ := q7; exact again I7 n7
    | brk => obtain ⟨σ7, H7, I7, q7⟩ := q7; exact ⟨σ7, H7, I7.unpinned, q7⟩
    | ret v => obtain ⟨x7, σ7, H7, I7, r7, q7⟩ := q7; exact ⟨x7, σ7, H7, I7.unpinned, r7, q7⟩
end

theorem for_list {K : PySem.W.Frag} {a : Addr} {xs : List V} {g : TG} {tb : TS} {D : Ends} {σ : St} {H : Hp} (Pv : Nat → St → Hp → Prop) (h0 : Pv 0 σ H) (hl : ∀ i σ H, i ≤ xs.length → Pv i σ H → SqL K H a xs)
    (hs : ∀ i x σ H, xs[i]? = some x → Pv i σ H → g x σ H fun σ2 H2 => tb { D with nx := Pv (i + 1), ct := Pv (i + 1), bk := D.nx } σ2 H2) (hd : ∀ σ H, Pv xs.length σ H → D.nx σ H) :
    ∃ W : Nat → Nat → St → Hp → Prop, (∃ m, W 0 m σ H) ∧ ∀ i m σ H, W i m σ H →
      ((Itl K a).stop i H ∧ D.nx σ H) ∨ ((Itl K a).go i H ∧ ∃ N : St → Hp → Prop, (∀ σ' H', N σ' H' → ∃ m', m' < m ∧ W (i + 1) m' σ' H') ∧ ∀ x H', (Itl K a).yld i H x H' → g x σ H' fun σ2 H2 => tb { D with nx := N, ct := N, bk := D.nx } σ2 H2) := by
  refine ⟨fun i m σ H => m = xs.length - i ∧ i ≤ xs.length ∧ Pv i σ H, ⟨xs.length, by simp, Nat.zero_le _, h0⟩, ?_⟩
  rintro i m σ H ⟨rfl, hi, p⟩
  have q := hl i σ H hi p
  by_cases hlt : i < xs.length
  · refine .inr ⟨⟨xs, xs[i], q, by simp [hlt]⟩, Pv (i + 1), fun σ' H' p' => ⟨xs.length - (i + 1), by omega, rfl, hlt, p'⟩, fun x H' y => ?_⟩
    obtain ⟨e, y⟩ := y
    subst e
    exact hs i x σ _ (y xs q) p
  · have e : i = xs.length := by omega
    subst e
    exact .inl ⟨⟨xs, q, Nat.le_refl _⟩, hd σ H p⟩
theorem for_range {lo : Int} {n : Nat} {g : TG} {tb : TS} {D : Ends} {σ : St} {H : Hp} (Pv : Nat → St → Hp → Prop) (h0 : Pv 0 σ H)
    (hs : ∀ i σ H, i < n → Pv i σ H → g (.int (lo + i)) σ H fun σ2 H2 => tb { D with nx := Pv (i + 1), ct := Pv (i + 1), bk := D.nx } σ2 H2) (hd : ∀ σ H, Pv n σ H → D.nx σ H) :
    ∃ W : Nat → Nat → St → Hp → Prop, (∃ m, W 0 m σ H) ∧ ∀ i m σ H, W i m σ H →
      ((Itr lo n).stop i H ∧ D.nx σ H) ∨ ((Itr lo n).go i H ∧ ∃ N : St → Hp → Prop, (∀ σ' H', N σ' H' → ∃ m', m' < m ∧ W (i + 1) m' σ' H') ∧ ∀ x H', (Itr lo n).yld i H x H' → g x σ H' fun σ2 H2 => tb { D with nx := N, ct := N, bk := D.nx } σ2 H2) := by
  refine ⟨fun i m σ H => m = n - i ∧ i ≤ n ∧ Pv i σ H, ⟨n, by simp, Nat.zero_le _, h0⟩, ?_⟩
  rintro i m σ H ⟨rfl, hi, p⟩
  by_cases hlt : i < n
  · refine .inr ⟨hlt, Pv (i + 1), fun σ' H' p' => ⟨n - (i + 1), by omega, rfl, hlt, p'⟩, fun x H' y => ?_⟩
    obtain ⟨e, y⟩ := y
    subst e y
    exact hs i σ _ hlt p
  · have e : i = n := by omega
    subst e
    exact .inl ⟨Nat.le_refl _, hd σ H p⟩
end L2

namespace L2
open PySem PySem.Spec PyProof.Rows

noncomputable abbrev R2 := V → V → Hp → VK → Prop
noncomputable def OpR (X : Cx) (f : Value → Value → Sem Value) (r : R2) : Prop :=
  ∀ (pins : List (Addr × Obj)) (s : Shared) (σ : St) (H : Hp) (x y : V) (v u : Value) (Q : VK), Inv X pins σ H s → ZE x v → ZE y u → r x y H Q →
    wpAny (model X.prog X.w) X.A (f v u) (EP X pins σ Q) X.xe s
noncomputable def Jw (X : Cx) (f : Value) (r : List V → Hp → VK → Prop) : Prop :=
  ∀ (pins : List (Addr × Obj)) (s : Shared) (σ : St) (H : Hp) (xs : List V) (us : List Value) (Q : VK), Inv X pins σ H s → ZO xs us → r xs H Q →
    wpAny (model X.prog X.w) X.A (call f us) (EP X pins σ Q) X.xe s
noncomputable def TruR (X : Cx) (r : V → Hp → (Bool → Hp → Prop) → Prop) : Prop :=
  ∀ (pins : List (Addr × Obj)) (s : Shared) (σ : St) (H : Hp) (x : V) (v : Value) (Q : Bool → Hp → Prop), Inv X pins σ H s → ZE x v → r x H Q →
    wpAny (model X.prog X.w) X.A (truthy v) (TP X pins σ Q) X.xe s
noncomputable def tOp (r : R2) (ta tb : TE) : TE := fun σ H Q => ta σ H fun x H1 => tb σ H1 fun y H2 => r x y H2 Q
noncomputable def rI (C : Int → Int → Prop) (g : Int → Int → V) : R2 := fun x y H Q => ∃ i j, x = .int i ∧ y = .int j ∧ C i j ∧ Q (g i j) H
noncomputable def rI0 (g : Int → Int → V) : R2 := fun x y H Q => ∃ i j, x = .int i ∧ y = .int j ∧ Q (g i j) H
section
variable {X : Cx} {a b c : Expr} {ta tb tc : TE} {pos : Pos}

theorem binT (ha : PE X a ta) (hb : PE X b tb) {pins : List (Addr × Obj)} {s : Shared} {σ : St} {H : Hp} {R : V → V → Hp → Prop} (I : Inv X pins σ H s)
    (h : ta σ H fun x H1 => tb σ H1 fun y H2 => R x y H2) {Q : Value → Shared → Prop} {f : Value → Value → Sem Value}
    (hf : ∀ v u s2 x y H2, Inv X pins σ H2 s2 → ZE x v → ZE y u → R x y H2 → wpAny (model X.prog X.w) X.A (f v u) Q X.xe s2) :
    wpAny (model X.prog X.w) X.A (eval a X.env) (fun v s₁ => wpAny (model X.prog X.w) X.A (eval b X.env) (fun u s₂ => wpAny (model X.prog X.w) X.A (f v u) Q X.xe s₂) X.xe s₁) X.xe s := by
  refine thn (ha pins s σ H _ I h) fun v s1 zz9 => ?_
  obtain ⟨x, H1, I1, r1, q1⟩ := zz9
  refine thn (hb pins s1 σ H1 _ I1 q1) fun u s2 zz9 => ?_
  obtain ⟨y, H2, I2, r2, q2⟩ := zz9
  exact hf v u s2 x y H2 I2 r1 r2 q2
theorem Zs {op : Operator} {r : R2} (ho : OpR X (binaryOp op) r) (ha : PE X a ta) (hb : PE X b tb) : PE X (.BinOp a op b pos) (tOp r ta tb) := by
  intro pins s σ H Q I h
  exact wpAny_BinOp (binT ha hb I h fun v u s2 x y H2 I2 rx ry q => ho pins s2 σ H2 x y v u Q I2 rx ry q)
theorem opI {f : Value → Value → Sem Value} {C : Int → Int → Prop} {g : Int → Int → Int}
    (rule : ∀ (i j : Int) (t u : Tok) (s : Shared) (Q : Value → Shared → Prop) (E : Value → Shared → Prop), C i j → Q (.int (g i j) s.toks) { s with toks := s.toks + 1 } → wpAny (model X.prog X.w) X.A (f (.int i t) (.int j u)) Q E s) :
    OpR X f (rI C fun i j => .int (g i j)) := by
  intro pins s σ H x y v u Q I rx ry h
  obtain ⟨i, j, rfl, rfl, hc, q⟩ := h
  obtain ⟨t, rfl⟩ := rx
  obtain ⟨t', rfl⟩ := ry
  exact rule i j t t' s _ _ hc ⟨.int (g i j), H, I.tok _, ⟨_, rfl⟩, q⟩
theorem opI0 {f : Value → Value → Sem Value} {g : Int → Int → Int}
    (rule : ∀ (i j : Int) (t u : Tok) (s : Shared) (Q : Value → Shared → Prop) (E : Value → Shared → Prop), Q (.int (g i j) s.toks) { s with toks := s.toks + 1 } → wpAny (model X.prog X.w) X.A (f (.int i t) (.int j u)) Q E s) :
    OpR X f (rI0 fun i j => .int (g i j)) := by
  intro pins s σ H x y v u Q I rx ry h
  obtain ⟨i, j, rfl, rfl, q⟩ := h
  obtain ⟨t, rfl⟩ := rx
  obtain ⟨t', rfl⟩ := ry
  exact rule i j t t' s _ _ ⟨.int (g i j), H, I.tok _, ⟨_, rfl⟩, q⟩
theorem opB0 {f : Value → Value → Sem Value} {g : Int → Int → Bool}
    (rule : ∀ (i j : Int) (t u : Tok) (s : Shared) (Q : Value → Shared → Prop) (E : Value → Shared → Prop), Q (.bool (g i j)) s → wpAny (model X.prog X.w) X.A (f (.int i t) (.int j u)) Q E s) :
    OpR X f (rI0 fun i j => .bl (g i j)) := by
  intro pins s σ H x y v u Q I rx ry h
  obtain ⟨i, j, rfl, rfl, q⟩ := h
  obtain ⟨t, rfl⟩ := rx
  obtain ⟨t', rfl⟩ := ry
  exact rule i j t t' s _ _ ⟨.bl (g i j), H, I, rfl, q⟩
noncomputable def CDiv (i j : Int) : Prop := 0 < j ∧ j < 1073741824
noncomputable def CPow (i j : Int) : Prop := 0 ≤ j ∧ j ≤ 1000000 ∧ i.natAbs < 2 ^ 64
noncomputable def CMul (i j : Int) : Prop := (-(2 ^ 64) < i ∧ i < 2 ^ 64) ∨ (-(2 ^ 64) < j ∧ j < 2 ^ 64)
theorem CMul.ok {i j : Int} (h : CMul i j) : IntMulOk i j := by
  rcases h with ⟨h1, h2⟩ | ⟨h1, h2⟩
  · exact .of_left (intBits_le_64 h1 h2)
  · exact .of_right (intBits_le_64 h1 h2)
theorem Yz : OpR X (binaryOp .Add) (rI0 fun i j => .int (i + j)) := opI0 fun _ _ _ _ _ _ _ q => add_int q
theorem op_sub : OpR X (binaryOp .Sub) (rI0 fun i j => .int (i - j)) := opI0 fun _ _ _ _ _ _ _ q => sub_int q
theorem op_mul : OpR X (binaryOp .Mult) (rI CMul fun i j => .int (i * j)) := opI fun _ _ _ _ _ _ _ hc q => mul_int q hc.ok
theorem Xp : OpR X (binaryOp .FloorDiv) (rI CDiv fun i j => .int (i / j)) := opI fun i j _ _ _ _ _ hc q => by
  have h1 : (0 : Int) < j := hc.1
  have h2 : j < 1073741824 := hc.2
  exact floordiv_int (by omega) (by rw [Int.fdiv_eq_ediv_of_nonneg i (by omega)]; exact q) (.inl (PyProof.noPylong_small (by omega)))
theorem Yo : OpR X (binaryOp .Mod) (rI (fun _ j => 0 < j) fun i j => .int (i % j)) := opI fun i j _ _ _ _ _ hc q => by
  have h1 : (0 : Int) < j := hc
  exact mod_int' (by omega) (by rw [Int.fmod_eq_emod_of_nonneg i (by omega)]; exact q)
theorem op_pow : OpR X (binaryOp .Pow) (rI CPow fun i j => .int (i ^ j.toNat)) := opI fun _ _ _ _ _ _ _ hc q => pow_int_small hc.1 hc.2.1 hc.2.2 q
end

noncomputable def scal : V → V → Bool
  | .non, .non => true | .non, .int _ => true | .int _, .non => true | .non, .bl _ => true | .bl _, .non => true | .non, .str _ => true | .str _, .non => true
  | .int _, .int _ => true | .bl _, .bl _ => true | .str _, .str _ => true | .byt _, .byt _ => true
  | .int _, .str _ => true | .str _, .int _ => true | .bl _, .str _ => true | .str _, .bl _ => true
  | _, _ => false
noncomputable def rEq : R2 := fun x y H Q => scal x y = true ∧ Q (.bl (decide (x = y))) H
noncomputable def rNe : R2 := fun x y H Q => scal x y = true ∧ Q (.bl (!decide (x = y))) H
theorem dec_int {i j : Int} : decide (V.int i = V.int j) = (i == j) := by
  rw [Bool.eq_iff_iff]
  simp
theorem dec_bl {i j : Bool} : decide (V.bl i = V.bl j) = (i == j) := by
  rw [Bool.eq_iff_iff]
  simp
theorem dec_str {i j : Str} : decide (V.str i = V.str j) = (i == j) := by
  rw [Bool.eq_iff_iff]
  simp
theorem dec_byt {i j : Array UInt8} : decide (V.byt i = V.byt j) = (i.toList == j.toList) := by
  rw [Bool.eq_iff_iff]
  cases i
  cases j
  simp
section
variable {X : Cx} {a b c : Expr} {ta tb tc : TE} {pos : Pos}
theorem ZH {pins : List (Addr × Obj)} {σ : St} {H : Hp} {s : Shared} {Q : VK} {k k' : Bool} (I : Inv X pins σ H s) (q : Q (.bl k) H) (e : k = k') : EP X pins σ Q (.bool k') s := by
  subst e
  exact ⟨.bl k, H, I, rfl, q⟩
theorem Yc : OpR X (compareOp .Eq) rEq := by
  intro pins s σ H x y v u Q I rx ry h
  obtain ⟨hs, q⟩ := h
  cases x with
  | non =>
    cases rx
    cases y with
    | non => cases ry; exact PySem.EqNone.eq_none_none (ZH I q (by simp))
    | bl j => cases ry; exact PySem.EqNone.eq_none_bool (ZH I q (by simp))
    | int j => obtain ⟨t', rfl⟩ := ry; exact PySem.EqNone.eq_none_int (ZH I q (by simp))
    | str j => obtain ⟨t', rfl⟩ := ry; exact PySem.EqNone.eq_none_str (ZH I q (by simp))
    | _ => exact absurd (show false = true from hs) Bool.false_ne_true
  | bl i =>
    cases rx
    cases y with
    | non => cases ry; exact PySem.EqNone.eq_bool_none (ZH I q (by simp))
    | bl j => cases ry; exact eq_bool (ZH I q dec_bl)
    | str j => obtain ⟨t', rfl⟩ := ry; exact PySem.EqMixed.eq_bool_str (ZH I q (by simp))
    | _ => exact absurd (show false = true from hs) Bool.false_ne_true
  | int i =>
    obtain ⟨t, rfl⟩ := rx
    cases y with
    | non => cases ry; exact PySem.EqNone.eq_int_none (ZH I q (by simp))
    | int j => obtain ⟨t', rfl⟩ := ry; exact eq_int (ZH I q dec_int)
    | str j => obtain ⟨t', rfl⟩ := ry; exact PySem.EqMixed.eq_int_str (ZH I q (by simp))
    | _ => exact absurd (show false = true from hs) Bool.false_ne_true
  | str i =>
    obtain ⟨t, rfl⟩ := rx
    cases y with
    | non => cases ry; exact PySem.EqNone.eq_str_none (ZH I q (by simp))
    | bl j => cases ry; exact PySem.EqMixed.eq_str_bool (ZH I q (by simp))
    | int j => obtain ⟨t', rfl⟩ := ry; exact PySem.EqMixed.eq_str_int (ZH I q (by simp))
    | str j => obtain ⟨t', rfl⟩ := ry; exact eq_str (ZH I q dec_str)
    | _ => exact absurd (show false = true from hs) Bool.false_ne_true
  | byt i =>
    obtain ⟨t, rfl⟩ := rx
    cases y with
    | byt j => obtain ⟨t', rfl⟩ := ry; exact PySem.W.eq_bytes (ZH I q dec_byt)
    | _ => exact absurd (show false = true from hs) Bool.false_ne_true
  | _ => cases y <;> exact absurd (show false = true from hs) Bool.false_ne_true
theorem op_ne : OpR X (compareOp .NotEq) rNe := by
  intro pins s σ H x y v u Q I rx ry h
  obtain ⟨hs, q⟩ := h
  cases x with
  | non =>
    cases rx
    cases y with
    | non => cases ry; exact PySem.EqNone.ne_none_none (ZH I q (by simp))
    | bl j => cases ry; exact PySem.EqNone.ne_none_bool (ZH I q (by simp))
    | int j => obtain ⟨t', rfl⟩ := ry; exact PySem.EqNone.ne_none_int (ZH I q (by simp))
    | str j => obtain ⟨t', rfl⟩ := ry; exact PySem.EqNone.ne_none_str (ZH I q (by simp))
    | _ => exact absurd (show false = true from hs) Bool.false_ne_true
  | bl i =>
    cases rx
    cases y with
    | non => cases ry; exact PySem.EqNone.ne_bool_none (ZH I q (by simp))
    | bl j => cases ry; exact ne_bool (ZH I q (congrArg not dec_bl))
    | str j => obtain ⟨t', rfl⟩ := ry; exact PySem.EqMixed.ne_bool_str (ZH I q (by simp))
    | _ => exact absurd (show false = true from hs) Bool.false_ne_true
  | int i =>
    obtain ⟨t, rfl⟩ := rx
    cases y with
    | non => cases ry; exact PySem.EqNone.ne_int_none (ZH I q (by simp))
    | int j => obtain ⟨t', rfl⟩ := ry; exact ne_int (ZH I q (congrArg not dec_int))
    | str j => obtain ⟨t', rfl⟩ := ry; exact PySem.EqMixed.ne_int_str (ZH I q (by simp))
    | _ => exact absurd (show false = true from hs) Bool.false_ne_true
  | str i =>
    obtain ⟨t, rfl⟩ := rx
    cases y with
    | non => cases ry; exact PySem.EqNone.ne_str_none (ZH I q (by simp))
    | bl j => cases ry; exact PySem.EqMixed.ne_str_bool (ZH I q (by simp))
    | int j => obtain ⟨t', rfl⟩ := ry; exact PySem.EqMixed.ne_str_int (ZH I q (by simp))
    | str j => obtain ⟨t', rfl⟩ := ry; exact ne_str (ZH I q (congrArg not dec_str))
    | _ => exact absurd (show false = true from hs) Bool.false_ne_true
  | byt i =>
    obtain ⟨t, rfl⟩ := rx
    cases y with
    | byt j => obtain ⟨t', rfl⟩ := ry; exact PySem.W.ne_bytes (ZH I q (congrArg not dec_byt))
    | _ => exact absurd (show false = true from hs) Bool.false_ne_true
  | _ => cases y <;> exact absurd (show false = true from hs) Bool.false_ne_true
theorem op_lt : OpR X (compareOp .Lt) (rI0 fun i j => .bl (decide (i < j))) := opB0 fun _ _ _ _ _ _ _ q => lt_int q
theorem op_le : OpR X (compareOp .LtE) (rI0 fun i j => .bl (decide (i ≤ j))) := opB0 fun _ _ _ _ _ _ _ q => le_int q
theorem op_gt : OpR X (compareOp .Gt) (rI0 fun i j => .bl (decide (j < i))) := opB0 fun _ _ _ _ _ _ _ q => gt_int q
theorem op_ge : OpR X (compareOp .GtE) (rI0 fun i j => .bl (decide (j ≤ i))) := opB0 fun _ _ _ _ _ _ _ q => ge_int q
theorem op_lt_str : OpR X (compareOp .Lt) (fun x y H Q => ∃ i j, x = .str i ∧ y = .str j ∧ Q (.bl (decide (i.cps.toList < j.cps.toList))) H) := by
  intro pins s σ H x y v u Q I rx ry h
  obtain ⟨i, j, rfl, rfl, q⟩ := h
  obtain ⟨t, rfl⟩ := rx
  obtain ⟨t', rfl⟩ := ry
  exact lt_str (ZH I q rfl)
theorem op_in_str : OpR X (compareOp .In) (fun x y H Q => ∃ i j, x = .str i ∧ y = .str j ∧ Q (.bl (!(Builtin.Str.occurrences j i 0 j.length 1).isEmpty)) H) := by
  intro pins s σ H x y v u Q I rx ry h
  obtain ⟨i, j, rfl, rfl, q⟩ := h
  obtain ⟨t, rfl⟩ := rx
  obtain ⟨t', rfl⟩ := ry
  exact in_str (ZH I q rfl)
theorem op_isN : OpR X (compareOp .Is) (fun x y H Q => y = .non ∧ Q (.bl (decide (x = .non))) H) := by
  intro pins s σ H x y v u Q I rx ry h
  obtain ⟨rfl, q⟩ := h
  cases ry
  refine is_none_gen (ZH I q ?_)
  cases x <;> first
    | (cases rx; rfl)
    | (obtain ⟨t, rfl⟩ := rx; rfl)
theorem op_notN : OpR X (compareOp .IsNot) (fun x y H Q => y = .non ∧ Q (.bl (!decide (x = .non))) H) := by
  intro pins s σ H x y v u Q I rx ry h
  obtain ⟨rfl, q⟩ := h
  cases ry
  refine isnot_none_gen (ZH I q ?_)
  cases x <;> first
    | (cases rx; rfl)
    | (obtain ⟨t, rfl⟩ := rx; rfl)
theorem Zr (b : Expr) {op : CmpOp} (h : op ≠ .In := by decide) (h2 : op ≠ .NotIn := by decide) : behindInMarks op b = false := by
  have e1 : (op == CmpOp.In) = false := by cases op <;> first | rfl | exact absurd rfl h
  have e2 : (op == CmpOp.NotIn) = false := by cases op <;> first | rfl | exact absurd rfl h2
  cases b <;> simp [behindInMarks, e1, e2]
theorem pe_cmpR {op : CmpOp} {r : R2} (ho : OpR X (compareOp op) r) (ha : PE X a ta) (hb : PE X b tb) (hm : behindInMarks op b = false) : PE X (.Compare a [op] [b] pos) (tOp r ta tb) := by
  intro pins s σ H Q I h
  exact wpAny_Compare1 (binT ha hb I h fun v u s2 x y H2 I2 rx ry q => ho pins s2 σ H2 x y v u Q I2 rx ry q) hm
noncomputable def tTest (t : TE) : TT := fun σ H Q => t σ H fun x H' => ∃ k, x = .bl k ∧ Q k H'
theorem Zl {op : CmpOp} {r : R2} (ho : OpR X (compareOp op) r) (ha : PE X a ta) (hb : PE X b tb) (hm : behindInMarks op b = false) : PT X (.Compare a [op] [b] pos) (tTest (tOp r ta tb)) := by
  intro pins s σ H Q I h
  refine wpAny_isTrue_Compare1 (thn (ha pins s σ H _ I h) fun v s1 ⟨x, H1, I1, r1, q1⟩ => thn (hb pins s1 σ H1 _ I1 q1) fun u s2 ⟨y, H2, I2, r2, q2⟩ =>
    thn (ho pins s2 σ H2 x y v u _ I2 r1 r2 q2) fun c s3 ⟨z, H3, I3, r3, k, e, q3⟩ => ?_) hm
  subst e
  cases r3
  exact wpAny_truthy_bool ⟨H3, I3, q3⟩
noncomputable def tChain (r r' : R2) (ta tb tc : TE) : TE := fun σ H Q => ta σ H fun x H1 => tb σ H1 fun y H2 => r x y H2 fun z H3 => ∃ k, z = .bl k ∧
  (if k = true then tc σ H3 fun w' H4 => r' y w' H4 Q else Q (.bl false) H3)
theorem pe_chain {op op' : CmpOp} {r r' : R2} (ho : OpR X (compareOp op) r) (ho' : OpR X (compareOp op') r') (ha : PE X a ta) (hb : PE X b tb) (hc : PE X c tc)
    (hm : lastMarks [op, op'] [b, c] = false := by with_unfolding_all rfl) : PE X (.Compare a [op, op'] [b, c] pos) (tChain r r' ta tb tc) := by
  intro pins s σ H Q I h
  refine Compare_chain (thn (ha pins s σ H _ I h) fun v s1 ⟨x, H1, I1, r1, q1⟩ => chain_link (thn (hb pins s1 σ H1 _ I1 q1) fun u s2 ⟨y, H2, I2, r2, q2⟩ =>
    thn (ho pins s2 σ H2 x y v u _ I2 r1 r2 q2) fun d s3 ⟨z, H3, I3, r3, k, e, q3⟩ => ?_)) hm
  subst e
  cases r3
  refine wpAny_truthy_bool ?_
  cases k with
  | false => exact ite_ff ⟨.bl false, H3, I3, rfl, q3⟩
  | true => exact ite_tt (chain_last (thn (hc pins s3 σ H3 _ I3 q3) fun w' s4 ⟨z', H4, I4, r4, q4⟩ => ho' pins s4 σ H4 y z' u w' Q I4 r2 r4 q4))
noncomputable def TruV (K : PySem.W.Frag) (x : V) (H : Hp) (k : Bool) : Prop :=
  match x with
  | .non => k = false
  | .bl b => k = b
  | .int i => k = (i != 0)
  | .str y => y.length ≤ sizeLine ∧ k = ((y.length : Int) != 0)
  | .byt y => y.size ≤ sizeLine ∧ k = ((y.size : Int) != 0)
  | .ref p => (∃ xs, SqL K H p xs ∧ k = !xs.isEmpty) ∨ (∃ xs, SqT K H p xs ∧ k = !xs.isEmpty) ∨ ∃ kvs, H p = some (.dK kvs) ∧ k = !kvs.isEmpty
  | _ => False
theorem isEmpty_kv {κ : Type} {kvs : List (κ × V)} {vs : List (κ × Value)} (r : KV kvs vs) : (!vs.isEmpty) = !kvs.isEmpty := by
  cases r <;> rfl
theorem isEmpty_of {xs : List V} {its : List Value} (r : ZO xs its) : (!its.toArray.isEmpty) = !xs.isEmpty := by
  cases r <;> simp
theorem line63 : (sizeLine : Nat) < 2 ^ 63 := by rw [sizeLine_eq]; decide
theorem tru_ok : TruR X (fun x H Q => ∃ k, TruV X.K x H k ∧ Q k H) := by
  intro pins s σ H x v Q I rx h
  obtain ⟨k, e, q⟩ := h
  have hl := line63
  have hs : sizeLine = 16777216 := sizeLine_eq
  cases x with
  | non =>
    cases rx
    have e' : k = false := e
    subst e'
    exact truthy_none ⟨H, I, q⟩
  | bl b =>
    cases rx
    have e' : k = b := e
    subst e'
    exact wpAny_truthy_bool ⟨H, I, q⟩
  | int i =>
    obtain ⟨t, rfl⟩ := rx
    have e' : k = (i != 0) := e
    subst e'
    exact PySem.P.truthy_int ⟨H, I, q⟩
  | str y =>
    obtain ⟨t, rfl⟩ := rx
    obtain ⟨hy, e'⟩ : y.length ≤ sizeLine ∧ k = ((y.length : Int) != 0) := e
    subst e'
    exact PySem.P.truthy_str (by omega) ⟨H, I.tok _, q⟩
  | byt y =>
    obtain ⟨t, rfl⟩ := rx
    obtain ⟨hy, e'⟩ : y.size ≤ sizeLine ∧ k = ((y.size : Int) != 0) := e
    subst e'
    exact PySem.W.truthy_bytes (by omega) ⟨H, I.tok _, q⟩
  | ref p =>
    cases rx
    have e' : (∃ xs, SqL X.K H p xs ∧ k = !xs.isEmpty) ∨ (∃ xs, SqT X.K H p xs ∧ k = !xs.isEmpty) ∨ ∃ kvs, H p = some (.dK kvs) ∧ k = !kvs.isEmpty := e
    rcases e' with ⟨xs, hx, e'⟩ | ⟨xs, hx, e'⟩ | ⟨kvs, hx, e'⟩
    · subst e'
      obtain ⟨its, r, pl, hz⟩ := I.list hx
      have hlen := r.length
      exact wpAny_truthy_list pl.isList (by simp only [List.size_toArray]; omega) ⟨H, I.tok _, by rw [isEmpty_of r]; exact q⟩
    · subst e'
      obtain ⟨its, r, pl, hz⟩ := I.tuple hx
      have hlen := r.length
      exact truthy_tuple pl (by simp only [List.size_toArray]; omega) ⟨H, I.tok _, by rw [isEmpty_of r]; exact q⟩
    · subst e'
      obtain ⟨hz, hS, vs, r, m⟩ : kvs.length ≤ sizeLine ∧ (p == sysModules) = false ∧ ∃ vs, KV kvs vs ∧ s.heap.DictOf (Z0 X.prog X.w) p vs := I.hok p _ hx
      have hlen : kvs.length = vs.length := Paired.length r
      exact wpAny_truthy_dict hS m (by omega) ⟨H, I.tok _, by rw [isEmpty_kv r]; exact q⟩
  | _ => exact (show False from e).elim
theorem pt_truth (ha : PE X a ta) (he : ∀ whole, isTrue a X.env whole = (do let v ← whole; standAt a.pos; holding [v] (truthy v))) :
    PT X a (fun σ H Q => ta σ H fun x H' => ∃ k, TruV X.K x H' k ∧ Q k H') := by
  intro pins s σ H Q I h
  exact isTrue_plain (thn (ha pins s σ H _ I h) fun v s1 ⟨x, H1, I1, r1, q1⟩ => tru_ok pins s1 σ H1 x v Q I1 r1 q1) (he _)
theorem YC : OpR X (binaryOp .Add) (fun x y H Q => ∃ i j, x = .str i ∧ y = .str j ∧ i.length + j.length ≤ sizeLine ∧ Q (.str (i ++ j)) H) := by
  intro pins s σ H x y v u Q I rx ry h
  obtain ⟨i, j, rfl, rfl, hz, q⟩ := h
  obtain ⟨t, rfl⟩ := rx
  obtain ⟨t', rfl⟩ := ry
  exact add_str (fun t' tk => ⟨.str (i ++ j), H, I.tok _, ⟨_, rfl⟩, q⟩) hz
theorem vals1 {x : V} {us : List Value} (r : ZO [x] us) : ∃ u, us = [u] ∧ ZE x u := by
  cases r with
  | cons r1 r2 => cases r2; exact ⟨_, rfl, r1⟩
theorem vals2 {x y : V} {us : List Value} (r : ZO [x, y] us) : ∃ u w', us = [u, w'] ∧ ZE x u ∧ ZE y w' := by
  cases r with
  | cons r1 r2 =>
    cases r2 with
    | cons r3 r4 => cases r4; exact ⟨_, _, rfl, r1, r3⟩
theorem call_max2 (hc : X.calm = true) : Jw X (.builtin "max") (fun xs H Q => ∃ i j, xs = [.int i, .int j] ∧ Q (.int (if j > i then j else i)) H) := by
  intro pins s σ H xs us Q I r h
  obtain ⟨i, j, rfl, q⟩ := h
  obtain ⟨u, w', rfl, ⟨t, rfl⟩, ⟨t', rfl⟩⟩ := vals2 r
  refine max_two_ints (I.ok.hd hc) fun h' tk k => ⟨_, H, I.kept k, ?_, q⟩
  by_cases hj : j > i
  · rw [if_pos hj, if_pos hj]; exact ⟨_, rfl⟩
  · rw [if_neg hj, if_neg hj]; exact ⟨_, rfl⟩
theorem call_min2 (hc : X.calm = true) : Jw X (.builtin "min") (fun xs H Q => ∃ i j, xs = [.int i, .int j] ∧ Q (.int (if j < i then j else i)) H) := by
  intro pins s σ H xs us Q I r h
  obtain ⟨i, j, rfl, q⟩ := h
  obtain ⟨u, w', rfl, ⟨t, rfl⟩, ⟨t', rfl⟩⟩ := vals2 r
  refine min_two_ints (I.ok.hd hc) fun h' tk k => ⟨_, H, I.kept k, ?_, q⟩
  by_cases hj : j < i
  · rw [if_pos hj, if_pos hj]; exact ⟨_, rfl⟩
  · rw [if_neg hj, if_neg hj]; exact ⟨_, rfl⟩
theorem call_int1 : Jw X (.type "int") (fun xs H Q => (∃ i, xs = [.int i] ∧ Q (.int i) H) ∨ ∃ k, xs = [.bl k] ∧ Q (.int (if k then 1 else 0)) H) := by
  intro pins s σ H xs us Q I r h
  rcases h with ⟨i, rfl, q⟩ | ⟨k, rfl, q⟩
  · obtain ⟨u, rfl, t, rfl⟩ := vals1 r
    exact call_int_int ⟨.int i, H, I, ⟨_, rfl⟩, q⟩
  · obtain ⟨u, rfl, r1⟩ := vals1 r
    cases r1
    exact call_int_bool ⟨.int (if k then 1 else 0), H, I.tok _, ⟨_, rfl⟩, q⟩
theorem JF : Jw X (.type "str") (fun xs H Q => ∃ i, xs = [.int i] ∧ i.natAbs.log2 < 1920 ∧ Q (.str (toString i)) H) := by
  intro pins s σ H xs us Q I r h
  obtain ⟨i, rfl, hz, q⟩ := h
  obtain ⟨u, rfl, t, rfl⟩ := vals1 r
  exact PySem.P.str_of_int hz ⟨.str _, H, I.tok _, ⟨_, rfl⟩, q⟩
noncomputable def LenV (K : PySem.W.Frag) (x : V) (H : Hp) (n : Nat) : Prop :=
  match x with
  | .str y => y.length ≤ sizeLine ∧ n = y.length
  | .byt y => y.size ≤ sizeLine ∧ n = y.size
  | .ref p => (∃ xs, SqL K H p xs ∧ n = xs.length) ∨ ∃ xs, SqT K H p xs ∧ n = xs.length
  | _ => False
theorem ZJ : Jw X (.builtin "len") (fun xs H Q => ∃ x n, xs = [x] ∧ LenV X.K x H n ∧ Q (.int n) H) := by
  intro pins s σ H xs us Q I r h
  obtain ⟨x, n, rfl, e, q⟩ := h
  obtain ⟨u, rfl, rx⟩ := vals1 r
  have hl := line63
  have hs : sizeLine = 16777216 := sizeLine_eq
  cases x with
  | str y =>
    obtain ⟨t, rfl⟩ := rx
    obtain ⟨hy, e'⟩ : y.length ≤ sizeLine ∧ n = y.length := e
    subst e'
    exact len_str (by omega) ⟨.int _, H, I.tok _, ⟨_, rfl⟩, q⟩
  | byt y =>
    obtain ⟨t, rfl⟩ := rx
    obtain ⟨hy, e'⟩ : y.size ≤ sizeLine ∧ n = y.size := e
    subst e'
    exact PySem.W.len_bytes (by omega) ⟨.int _, H, I.tok _, ⟨_, rfl⟩, q⟩
  | ref p =>
    cases rx
    have e' : (∃ xs, SqL X.K H p xs ∧ n = xs.length) ∨ ∃ xs, SqT X.K H p xs ∧ n = xs.length := e
    rcases e' with ⟨xs, hx, e'⟩ | ⟨xs, hx, e'⟩
    · subst e'
      obtain ⟨its, r', pl, hz⟩ := I.list hx
      have hlen := r'.length
      exact Calls.call_len_list pl.isList (by simp only [List.size_toArray]; omega) ⟨.int xs.length, H, I.tok _, ⟨_, by simp only [List.size_toArray]; rw [hlen]⟩, q⟩
    · subst e'
      obtain ⟨its, r', pl, hz⟩ := I.tuple hx
      have hlen := r'.length
      exact len_tuple pl (by simp only [List.size_toArray]; omega) ⟨.int xs.length, H, I.tok _, ⟨_, by simp only [List.size_toArray]; rw [hlen]⟩, q⟩
  | _ => exact (show False from e).elim
end
end L2

namespace L2
open PySem PySem.Spec PyProof.Rows

structure ObjM (h : Heap) (x dx C : Addr) (mA : Str → Option Value) : Prop where
  obj : h.get? x = some (PySem.W.instObj C dx)
  ns : h.Ns1 dx mA
  ne : dx ≠ x
theorem lookIn_ns {h : Heap} {dx : Addr} {mA : Str → Option Value} (n : h.Ns1 dx mA) : ∃ od, h.get? dx = some od ∧ ∀ name, PySem.W.lookIn name od = some (mA name) := by
  obtain ⟨o, es, ep, ho, hd, hk, _, hm⟩ := n
  refine ⟨o, ho, fun name => ?_⟩
  have e := hm name
  unfold nsFind findBy at e
  rw [← Array.find?_toList] at e
  unfold PySem.W.lookIn
  rw [hd]
  dsimp only
  split
  · rename_i y q
    rw [q] at e
    exact congrArg some e
  · rename_i q
    rw [q] at e
    have a : es.toList.any (·.refKey) = false := by
      rw [List.any_eq_false]
      intro y hy
      obtain ⟨z, t, hkey⟩ := hk y (Array.mem_toList_iff.mp hy)
      simp [DictEntry.refKey, hkey]
    have a' : ¬ es.toList.any (·.refKey) = true := by rw [a]; exact Bool.false_ne_true
    rw [if_neg a']
    exact congrArg some e
theorem ObjM.look {h : Heap} {x dx C : Addr} {mA : Str → Option Value} (I : ObjM h x dx C mA) : ∃ od, PySem.W.InstAt h x (PySem.W.instObj C dx) C (some od) ∧ ∀ name, PySem.W.lookIn name od = some (mA name) :=
  let ⟨od, ho, hl⟩ := lookIn_ns I.ns
  ⟨od, ⟨I.obj, rfl, rfl, ho⟩, hl⟩
section
variable {prog : Program} {w : World} {A : Around} {E : Value → Shared → Prop} {s : Shared} {K : PySem.W.Frag} {x dx C f : Addr} {mA : Str → Option Value} {name : Str} {v : Value}

theorem get_map {expr : Bool} {Q : Value → Shared → Prop} (X : K.In s.heap) (I : ObjM s.heap x dx C mA) (hg : PySem.W.plainGet K C name = true) (hh : PySem.W.hasDictIn K C = true)
    (ha : PySem.W.findIn K (.ref C) name = some none) (hv : mA name = some v) (hv' : PySem.W.handedIn v = true) (h : Q v { s with toks := s.toks + 1 }) :
    wpAny (model prog w) A (getAttr (.ref x) name expr) Q E s := by
  obtain ⟨od, J, hl⟩ := I.look
  exact PySem.W.get_value X J (PySem.W.plainGet_of hg).1 (PySem.W.findObj_own hh ha rfl (by rw [hl, hv])) hv' h
theorem get_meth {pl : Sem Bool} {Q : Value × List Value → Shared → Prop} (X : K.In s.heap) (I : ObjM s.heap x dx C mA) (hg : PySem.W.plainGet K C name = true)
    (hf : PySem.W.findIn K (.ref C) name = some (some (.ref f))) (ht : PySem.W.isFn K (.ref f) = true) (hv : mA name = none) (h : Q (.ref f, [.ref x]) s) :
    wpAny (model prog w) A (getMethod (.ref x) name pl) Q E s := by
  obtain ⟨od, J, hl⟩ := I.look
  exact PySem.W.method_fn X J (PySem.W.plainGet_of hg).1 (PySem.W.plainGet_of hg).2 hf (beq_iff_eq.mp ht) (by show (PySem.W.lookIn name od).map (·.isSome) = some false; rw [hl, hv]; rfl) h
theorem set_map {ns : List Str} {Q : Unit → Shared → Prop} (X : K.In s.heap) (I : ObjM s.heap x dx C mA)
    (hs : PySem.W.findIn K (.ref C) "__setattr__" = some (some (.builtin "object.__setattr__"))) (hp : PySem.W.plainOver K C = true) (ht : PySem.W.takerIn K C name = some none) (hh : PySem.W.hasDictIn K C = true)
    (hw : PySem.Within mA ns) (hsz : ns.length ≤ sizeLine)
    (h : ∀ h', ObjM h' x dx C (fun y => if y = name then some v else mA y) → Heap.SameBut dx s.heap h' → Q () { s with heap := h', toks := s.toks + 2 }) :
    wpAny (model prog w) A (setAttr (.ref x) name v) Q E s := by
  obtain ⟨od, J, hl⟩ := I.look
  refine PySem.W.set_plain X J hs (PySem.W.osa_open (s := { s with toks := s.toks + 1 }) (r := none) X J hp ht fun b => ?_)
  obtain ⟨cd, hc, hd'⟩ := PySem.W.any_some hh
  have hx : s.heap.get? x = some ⟨.ref C, some dx, .plain, #[]⟩ := I.obj
  refine wpAny_bind (wpAny_pure (wpAny_bind (wpAny_bind (wpAny_loadPart hx (wpAny_bind (PySem.W.Looks.here (s := { s with toks := s.toks + 1 }) (PySem.W.looks_clsIn X hc) ?_))))))
  rw [hd']
  refine wpAny_pure (a := some dx) (wpAny_bind (wpAny_pure (wpAny_bind ?_)))
  refine wpAny_nsSet1 (s := { s with toks := s.toks + 1 }) I.ns fun h' hn2 hs2 => ?_
  obtain ⟨oD, esD, epD, hoD, hdD, hcD⟩ := hn2.count (PySem.Within.cons name v hw)
  refine wpAny_bind (wpAny_lookBehind hoD (by rw [hdD]; exact pastItsLine_dict (Nat.le_trans hcD (by rw [List.length_cons]; omega))) ?_)
  exact wpAny_pure (h _ ⟨(hs2.2 _ (Ne.symm I.ne)).trans I.obj, hn2, I.ne⟩ hs2)
theorem make_map {R : Result → Shared → Prop} {vs : List Value} {kw : List (Str × Value)} (X : K.In s.heap) (hm : PySem.W.makesIn K C = true)
    (hi : PySem.W.findIn K (.ref C) "__init__" = some (some (.ref f))) (hf : PySem.W.typeIn K (.ref f) = some (.type "function"))
    (h : codeAny (model prog w) (A.under (.builtin "type.__call__" ⟨.ref C :: vs, kw⟩)) (.call (.ref f) ⟨.ref (s.heap.objs.size + 1) :: vs, kw⟩) (PySem.W.InitBack (s.heap.objs.size + 1) R)
      { s with heap := (s.heap.push PySem.W.emptyDict).push (PySem.W.instObj C s.heap.objs.size) }) :
    codeAny (model prog w) A (.call (.ref C) ⟨vs, kw⟩) R s := by
  obtain ⟨hh, g, d, t, os⟩ := s
  exact PySem.W.make_core (PySem.W.makes_of X hm) (PySem.W.looks_findIn X hi) (fun self => PySem.W.bind_fn X self hf) (.inl rfl) h
end

noncomputable def putF (f : Str) (v : V) : List (Str × V) → List (Str × V)
  | [] => [(f, v)]
  | (g, x) :: r => if g = f then (g, v) :: r else (g, x) :: putF f v r
theorem lookup_putF (f g : Str) (v : V) : ∀ fs : List (Str × V), (putF f v fs).lookup g = if g = f then some v else fs.lookup g
  | [] => by
    show List.lookup g [(f, v)] = _
    by_cases h : g = f
    · have hb : (g == f) = true := beq_iff_eq.mpr h
      simp only [List.lookup, hb, if_pos h]
    · have hb : (g == f) = false := beq_eq_false_iff_ne.mpr h
      simp only [List.lookup, hb, if_neg h]
  | (k, x) :: r => by
    have ih := lookup_putF f g v r
    rw [show putF f v ((k, x) :: r) = (if k = f then (k, v) :: r else (k, x) :: putF f v r) from rfl]
    by_cases hk : k = f
    · rw [if_pos hk]
      by_cases h : g = k
      · have hb : (g == k) = true := beq_iff_eq.mpr h
        simp only [List.lookup, hb, if_pos (h.trans hk)]
      · have hb : (g == k) = false := beq_eq_false_iff_ne.mpr h
        simp only [List.lookup, hb, if_neg (fun e : g = f => h (e.trans hk.symm))]
    · rw [if_neg hk]
      by_cases h : g = k
      · have hb : (g == k) = true := beq_iff_eq.mpr h
        simp only [List.lookup, hb, if_neg (fun e : g = f => hk (h.symm.trans e))]
      · have hb : (g == k) = false := beq_eq_false_iff_ne.mpr h
        simp only [List.lookup, hb]
        exact ih
theorem keys_putF (f : Str) (v : V) : ∀ fs : List (Str × V), f ∈ (putF f v fs).map (·.1) ∧ ∀ g, g ∈ fs.map (·.1) → g ∈ (putF f v fs).map (·.1)
  | [] => ⟨by simp [putF], fun g h => by simp at h⟩
  | (k, x) :: r => by
    obtain ⟨i1, i2⟩ := keys_putF f v r
    rw [show putF f v ((k, x) :: r) = (if k = f then (k, v) :: r else (k, x) :: putF f v r) from rfl]
    by_cases hk : k = f
    · rw [if_pos hk]
      subst hk
      exact ⟨by simp, fun g h => by simpa using h⟩
    · rw [if_neg hk]
      refine ⟨?_, fun g h => ?_⟩
      · rw [List.map_cons]
        exact List.mem_cons_of_mem _ i1
      · rw [List.map_cons] at h ⊢
        rcases List.mem_cons.mp h with e | e
        · exact List.mem_cons.mpr (.inl e)
        · exact List.mem_cons_of_mem _ (i2 g e)
theorem length_putF (f : Str) (v : V) : ∀ fs : List (Str × V), (putF f v fs).length ≤ fs.length + 1
  | [] => by simp [putF]
  | (k, x) :: r => by
    have ih := length_putF f v r
    rw [show putF f v ((k, x) :: r) = (if k = f then (k, v) :: r else (k, x) :: putF f v r) from rfl]
    by_cases hk : k = f
    · rw [if_pos hk, List.length_cons, List.length_cons]; omega
    · rw [if_neg hk, List.length_cons, List.length_cons]; omega
theorem RelO.some_of {v : V} {o : Option Value} (r : RelO (some v) o) : ∃ u, o = some u ∧ ZE v u := by
  cases o with
  | none => exact (show False from r).elim
  | some u => exact ⟨u, rfl, r⟩
theorem RelO.none_of {o : Option Value} (r : RelO none o) : o = none := by
  cases o with
  | none => rfl
  | some u => exact (show False from r).elim
theorem handed_of {v : V} {u : Value} (r : ZE v u) : PySem.W.handedIn u = true := by
  cases v with
  | non => cases (show u = Value.none from r); rfl
  | bl b => cases (show u = Value.bool b from r); rfl
  | int i => obtain ⟨t, e⟩ := (show ∃ t, u = Value.int i t from r); cases e; rfl
  | str x => obtain ⟨t, e⟩ := (show ∃ t, u = Value.str x t from r); cases e; rfl
  | byt b => obtain ⟨t, e⟩ := (show ∃ t, u = Value.bytes b t from r); cases e; rfl
  | flt b => obtain ⟨t, e⟩ := (show ∃ t, u = Value.float b t from r); cases e; rfl
  | ref a => cases (show u = Value.ref a from r); rfl
  | ty n => cases (show u = Value.type n from r); rfl
section
variable {P : Program} {w : World} {H H' : Hp} {h h' : Heap} {a C dx : Addr} {fs fs' : List (Str × V)}
theorem ins_get (hok : HOk P w H h) (e : H a = some (.ins C dx fs)) : ∃ mA, ObjM h a dx C mA ∧ (∀ f, RelO (fs.lookup f) (mA f)) ∧ PySem.Within mA (fs.map (·.1)) ∧ fs.length ≤ 1000 ∧ H dx = some (.own a) := by
  obtain ⟨d, z, ne, ob, mA, n, r, q⟩ := (show Z4 P w H h a (.ins C dx fs) from hok a _ e)
  exact ⟨mA, ⟨ob, n, ne⟩, r, q, z, d⟩
end

structure Cls (K : PySem.W.Frag) (C : Addr) : Prop where
  pg : PySem.W.plainGet K C Str.empty = true
  hd : PySem.W.hasDictIn K C = true
  po : PySem.W.plainOver K C = true
  sa : PySem.W.findIn K (.ref C) "__setattr__" = some (some (.builtin "object.__setattr__"))
theorem Cls.get {K : PySem.W.Frag} {C : Addr} (c : Cls K C) (f : Str) : PySem.W.plainGet K C f = true := c.pg
noncomputable def Jc (K : PySem.W.Frag) (C : Addr) (f : Str) : Prop := PySem.W.findIn K (.ref C) f = some none
theorem Jc.taker {K : PySem.W.Frag} {C : Addr} {f : Str} (n : Jc K C f) : PySem.W.takerIn K C f = some none := by
  unfold PySem.W.takerIn
  rw [show PySem.W.findIn K (.ref C) f = some none from n]
  rfl
structure Meth (K : PySem.W.Frag) (C : Addr) (m : Str) (f : Addr) : Prop where
  at_ : PySem.W.findIn K (.ref C) m = some (some (.ref f))
  fn : PySem.W.isFn K (.ref f) = true
  kp : PySem.W.keepIn K (.ref f) = true
section
variable {X : Cx} {pins : List (Addr × Obj)} {σ : St} {H : Hp} {s : Shared} {a C dx : Addr} {fs : List (Str × V)} {f : Str} {v : V} {A : Around} {E : Value → Shared → Prop}

theorem getattr_ok {b : Bool} {Q : Value → Shared → Prop} (I : Inv X pins σ H s) (e : H a = some (.ins C dx fs)) (c : Cls X.K C) (n : Jc X.K C f) (l : fs.lookup f = some v)
    (h : ∀ u s', Inv X pins σ H s' → ZE v u → Q u s') : wpAny (model X.prog X.w) A (getAttr (.ref a) f b) Q E s := by
  obtain ⟨mA, O, r, _, _, _⟩ := ins_get I.hok e
  obtain ⟨u, hu, ru⟩ := RelO.some_of (v := v) (o := mA f) (by rw [← l]; exact r f)
  exact get_map I.kIn O (c.get f) c.hd n hu (handed_of ru) (h u _ (I.tok _) ru)
theorem getmeth_ok {m : Str} {g : Addr} {pl : Sem Bool} {Q : Value × List Value → Shared → Prop} (I : Inv X pins σ H s) (e : H a = some (.ins C dx fs)) (c : Cls X.K C) (k : Meth X.K C m g) (l : fs.lookup m = none)
    (h : Q (.ref g, [.ref a]) s) : wpAny (model X.prog X.w) A (getMethod (.ref a) m pl) Q E s := by
  obtain ⟨mA, O, r, _, _, _⟩ := ins_get I.hok e
  have hn : mA m = none := RelO.none_of (by rw [← l]; exact r m)
  exact get_meth I.kIn O (c.get m) k.at_ k.fn hn h
theorem setattr_ok {y : V} {u : Value} {Q : Unit → Shared → Prop} (I : Inv X pins σ H s) (e : H a = some (.ins C dx fs)) (c : Cls X.K C) (n : Jc X.K C f) (hl : fs.length < 1000) (ry : ZE y u)
    (h : ∀ s', Inv X pins σ (upd H a (.ins C dx (putF f y fs))) s' → Q () s') : wpAny (model X.prog X.w) A (setAttr (.ref a) f u) Q E s := by
  obtain ⟨mA, O, r, wi, _, ho⟩ := ins_get I.hok e
  have hz : (fs.map (·.1)).length ≤ sizeLine := by rw [List.length_map, sizeLine_eq]; omega
  refine set_map I.kIn O c.sa c.po n.taker c.hd wi hz fun h' O' sb => h _ ?_
  have hd : ∃ o, h'.get? dx = some o := let ⟨o, _, _, e', _⟩ := O'.ns; ⟨o, e'⟩
  refine I.write (x := a) (e := dx) (by rw [e]; exact True.intro) (.inr ho) (fun b q hb z => (sb.2 b hb).trans z) hd ?_
  refine ⟨by rw [Zg O.ne]; exact ho, ?_, O.ne, O'.obj, _, O'.ns, fun g => ?_, fun g hg => ?_⟩
  · have := length_putF f y fs; omega
  · show RelO ((putF f y fs).lookup g) (if g = f then some u else mA g)
    rw [lookup_putF]
    by_cases q : g = f
    · rw [if_pos q, if_pos q]; exact ry
    · rw [if_neg q, if_neg q]; exact r g
  · by_cases q : g = f
    · rw [q]; exact (keys_putF f y fs).1
    · refine (keys_putF f y fs).2 g (wi g fun z => hg ?_)
      show (if g = f then some u else mA g) = none
      rw [if_neg q]; exact z
theorem Inv.made (I : Inv X pins σ H s) : Inv X pins σ (upd (upd H s.heap.objs.size (.own (s.heap.objs.size + 1))) (s.heap.objs.size + 1) (.ins C s.heap.objs.size []))
    { s with heap := (s.heap.push PySem.W.emptyDict).push (PySem.W.instObj C s.heap.objs.size) } := by
  have e1 : (s.heap.push PySem.W.emptyDict).get? s.heap.objs.size = some PySem.W.emptyDict := Heap.get?_push_size s.heap rfl
  have e2 : ((s.heap.push PySem.W.emptyDict).push (PySem.W.instObj C s.heap.objs.size)).get? (s.heap.objs.size + 1) = some (PySem.W.instObj C s.heap.objs.size) := by
    have := Heap.get?_push_size (s.heap.push PySem.W.emptyDict) (o := PySem.W.instObj C s.heap.objs.size) rfl
    rwa [Heap.size_push] at this
  have e3 : (s.heap.push PySem.W.emptyDict).Ns s.heap.objs.size (fun _ => none) := ⟨PySem.W.emptyDict, #[], _, e1, rfl, (fun e he => absurd he (by simp)), fun _ => rfl⟩
  have I1 := I.laid (a := s.heap.objs.size) (o := .own (s.heap.objs.size + 1)) (h' := s.heap.push PySem.W.emptyDict) (t' := s.toks) (fun b u q => Heap.get?_push_of_some _ q) (Nat.le_refl _) ⟨_, e1⟩
  refine I1.laid (a := s.heap.objs.size + 1) (o := .ins C s.heap.objs.size []) (t' := s.toks) (fun b u q => Heap.get?_push_of_some _ q) (Nat.le_of_eq (Heap.size_push _ _)) ?_
  have ne : s.heap.objs.size ≠ s.heap.objs.size + 1 := Nat.ne_of_lt (Nat.lt_succ_self _)
  refine ⟨by rw [Zg ne, Zc], Nat.zero_le _, ne, e2, fun _ => none, (Heap.Ns1.of_empty e3).at fun o q => Heap.get?_push_of_some _ q, fun _ => True.intro, fun y hy => absurd rfl hy⟩
theorem attr_of {prog : Program} {w : World} {env : Env} {e : Expr} {f : Str} {pos : Pos} {s : Shared} {Q : Value → Shared → Prop} (hb : attributeBase e f env (eval e env) = eval e env)
    (h : wpAny (model prog w) A (eval e env) (fun o s₁ => wpAny (model prog w) A (getAttr o f true) Q E s₁) E s) : wpAny (model prog w) A (eval (.Attribute e f pos) env) Q E s :=
  Attribute_any_ h (by rw [arm_eval_Attribute, hb])
end

noncomputable def tFld (K : PySem.W.Frag) (ta : TE) (f : Str) : TE := fun σ H Q => ta σ H fun x H1 => ∃ a C dx fs v, x = .ref a ∧ H1 a = some (.ins C dx fs) ∧ Cls K C ∧ Jc K C f ∧ fs.lookup f = some v ∧ Q v H1
noncomputable def sFld (K : PySem.W.Frag) (ta tv : TE) (f : Str) : TS := fun D σ H => tv σ H fun y H1 => ta σ H1 fun x H2 => ∃ a C dx fs, x = .ref a ∧ H2 a = some (.ins C dx fs) ∧ Cls K C ∧ Jc K C f ∧ fs.length < 1000 ∧
  D.nx σ (upd H2 a (.ins C dx (putF f y fs)))
noncomputable def InOp (X : Cx) (op : Operator) (rd : V → V → Hp → VK → Prop) : Prop :=
  ∀ (pins : List (Addr × Obj)) (s : Shared) (σ : St) (H : Hp) (x y : V) (u v : Value) (Q : VK), Inv X pins σ H s → ZE x u → ZE y v → rd x y H Q → wpAny (model X.prog X.w) X.A (inplaceOp op u v) (EP X pins σ Q) X.xe s
noncomputable def sFldAug (K : PySem.W.Frag) (ta tv : TE) (rd : V → V → Hp → VK → Prop) (f : Str) : TS := fun D σ H => ta σ H fun x H1 => ∃ a C dx fs v, x = .ref a ∧ H1 a = some (.ins C dx fs) ∧ Cls K C ∧ Jc K C f ∧ fs.lookup f = some v ∧
  tv σ H1 fun y H2 => rd v y H2 fun z H3 => ∃ dx' fs', H3 a = some (.ins C dx' fs') ∧ fs'.length < 1000 ∧ D.nx σ (upd H3 a (.ins C dx' (putF f z fs')))
section
variable {X : Cx} {o e value : Expr} {f : Str} {pos pos' tpos : Pos} {ta tv : TE}
theorem Zz (he : PE X e ta) (hb : attributeBase e f X.env (eval e X.env) = eval e X.env) : PE X (.Attribute e f pos) (tFld X.K ta f) := by
  intro pins s σ H Q I h
  refine attr_of hb (thn (he pins s σ H _ I h) fun u s1 zz9 => ?_)
  obtain ⟨x, H1, I1, rx, a, C, dx, fs, v, ex, ea, c, n, l, q⟩ := zz9
  subst ex
  obtain rfl : u = Value.ref a := rx
  exact getattr_ok I1 ea c n l fun u' s2 I2 ru => ⟨v, H1, I2, ru, q⟩
theorem ps_fld (ha : PE X o ta) (hv : PE X value tv) (hs : swapsWith value (some (.Attribute o f pos')) pos.line X.env = pure false) : PS X (.Assign [.Attribute o f pos'] value pos) (sFld X.K ta tv f) := by
  intro pins s σ H D I h
  refine plainObj_wpAny_Assign_Attribute (thn (hv pins s σ H _ I h) fun u s1 ⟨y, H1, I1, ry, q⟩ => thn (ha pins s1 σ H1 _ I1 q) fun ov s2 zz9 => ?_) hs
  obtain ⟨x, H2, I2, rx, a, C, dx, fs, ex, ea, c, n, l, q2⟩ := zz9
  subst ex
  obtain rfl : ov = Value.ref a := rx
  exact setattr_ok I2 ea c n l ry fun s3 I3 => ⟨σ, _, I3, q2⟩
theorem ps_fldaug {op : Operator} {rd : V → V → Hp → VK → Prop} (ha : PE X o ta) (hv : PE X value tv) (hop : InOp X op rd) : PS X (.AugAssign (.Attribute o f tpos) op value pos) (sFldAug X.K ta tv rd f) := by
  intro pins s σ H D I h
  refine wpAny_AugAssign_AttributeAny (thn (ha pins s σ H _ I h) fun ov s1 zz9 => ?_)
  obtain ⟨x, H1, I1, rx, a, C, dx, fs, v, ex, ea, c, n, l, q⟩ := zz9
  subst ex
  obtain rfl : ov = Value.ref a := rx
  refine getattr_ok I1 ea c n l fun u s2 I2 ru => thn (hv pins s2 σ H1 _ I2 q) fun w3 s3 ⟨y, H2, I3, ry, q3⟩ => thn (hop pins s3 σ H2 v y u w3 _ I3 ru ry q3) fun w4 s4 zz9 => ?_
  obtain ⟨z, H3, I4, rz, dx', fs', ea', l', q4⟩ := zz9
  exact setattr_ok I4 ea' c n l' rz fun s5 I5 => ⟨σ, _, I5, q4⟩
noncomputable def rAdd : V → V → Hp → VK → Prop := fun x y H Q => ∃ i j, x = .int i ∧ y = .int j ∧ Q (.int (i + j)) H
theorem in_add : InOp X .Add rAdd := by
  rintro pins s σ H x y u v Q I rx ry ⟨i, j, rfl, rfl, q⟩
  obtain ⟨t, rfl⟩ := (show ∃ t, u = Value.int i t from rx)
  obtain ⟨t', rfl⟩ := (show ∃ t', v = Value.int j t' from ry)
  exact PyProof.Rows.iadd_int ⟨.int (i + j), H, I.tok _, ⟨_, rfl⟩, q⟩
end

section
variable {X : Cx} {pins : List (Addr × Obj)} {σ : St} {H : Hp} {s : Shared} {A : Around} {E : Value → Shared → Prop} {Q : Value → Shared → Prop} {c : Value} {b : Bool}
inductive TyOf (K : PySem.W.Frag) (H : Hp) : V → Value → Prop where
  | non : TyOf K H .non (.type "NoneType")
  | bl (x : Bool) : TyOf K H (.bl x) (.type "bool")
  | int (i : Int) : TyOf K H (.int i) (.type "int")
  | str (x : Str) : TyOf K H (.str x) (.type "str")
  | flt (x : UInt64) : TyOf K H (.flt x) (.type "float")
  | lst {a : Addr} {xs : List V} (e : H a = some (.lst xs)) : TyOf K H (.ref a) (.type "list")
  | frz {a : Addr} {o : Obj} {xs : List V} (e : H a = some (.frz o (.lst xs))) : TyOf K H (.ref a) (.type "list")
  | tup {a : Addr} {xs : List V} (e : H a = some (.tup xs)) : TyOf K H (.ref a) (.type "tuple")
  | dK {a : Addr} {kvs : List (Key × V)} (e : H a = some (.dK kvs)) : TyOf K H (.ref a) (.type "dict")
  | dT {a : Addr} {kvs : List (List Key × V)} (e : H a = some (.dT kvs)) : TyOf K H (.ref a) (.type "dict")
  | ins {a C dx : Addr} {fs : List (Str × V)} (e : H a = some (.ins C dx fs)) (cl : Cls K C) (ha : PySem.W.findIn K (.ref C) "__class__" = some (some (.builtin "object.__class__")))
      (hn : PySem.W.specialIn K (.builtin "object.__class__") "__get__" = some (some (.builtin "getset_descriptor.__get__"))) (htk : PySem.W.takesIn K (.builtin "object.__class__") = some true)
      (hm : PySem.W.mroIn K C (.type "object") = some true) : TyOf K H (.ref a) (.ref C)
theorem isinst_ok {x : V} {u t : Value} (I : Inv X pins σ H s) (rx : ZE x u) (ty : TyOf X.K H x t) (e : PySem.W.kitOne X.K t c = some b) (h : ∀ tk, Q (.bool b) { s with toks := tk }) :
    wpAny (model X.prog X.w) A (call (.builtin "isinstance") [u, c]) Q E s := by
  cases ty with
  | non => cases (show u = Value.none from rx); exact PySem.W.kia_one PySem.W.kitx_none I.kIn True.intro e (fun z => nomatch z) h
  | bl y => cases (show u = Value.bool y from rx); exact PySem.W.kia_one PySem.W.kitx_bool I.kIn True.intro e (fun z => nomatch z) h
  | int i => obtain ⟨t, q⟩ := (show ∃ t, u = Value.int i t from rx); cases q; exact PySem.W.kia_one PySem.W.kitx_int I.kIn True.intro e (fun z => nomatch z) h
  | str y => obtain ⟨t, q⟩ := (show ∃ t, u = Value.str y t from rx); cases q; exact PySem.W.kia_one PySem.W.kitx_str I.kIn True.intro e (fun z => nomatch z) h
  | flt y => obtain ⟨t, q⟩ := (show ∃ t, u = Value.float y t from rx); cases q; exact PySem.W.kia_one PySem.W.kitx_float I.kIn True.intro e (fun z => nomatch z) h
  | @lst a xs ea =>
    cases (show u = Value.ref a from rx)
    obtain ⟨_, _, n, _, h1⟩ := (show Z4 X.prog X.w H s.heap a (.lst xs) from I.hok a _ ea)
    exact PySem.W.kia_one PySem.W.kitx_list I.kIn ⟨_, h1, rfl⟩ e (fun z => nomatch z) h
  | @frz a ob xs ea =>
    cases (show u = Value.ref a from rx)
    obtain ⟨_, _, _, n, _, h1⟩ := (show Z4 X.prog X.w H s.heap a (.frz ob (.lst xs)) from I.hok a _ ea)
    exact PySem.W.kia_one PySem.W.kitx_list I.kIn ⟨_, h1, rfl⟩ e (fun z => nomatch z) h
  | @tup a xs ea =>
    cases (show u = Value.ref a from rx)
    obtain ⟨_, _, _, p⟩ := (show Z4 X.prog X.w H s.heap a (.tup xs) from I.hok a _ ea)
    obtain ⟨o, h1, h2, _⟩ := p
    exact PySem.W.kia_one PySem.W.kitx_tuple I.kIn ⟨o, h1, h2⟩ e (fun z => nomatch z) h
  | @dK a kvs ea =>
    cases (show u = Value.ref a from rx)
    obtain ⟨_, _, vs, _, p⟩ := (show Z4 X.prog X.w H s.heap a (.dK kvs) from I.hok a _ ea)
    obtain ⟨o, es, ep, h1, h2, _⟩ := p
    exact PySem.W.kia_one PySem.W.kitx_dict I.kIn ⟨o, h1, h2.1⟩ e (fun z => nomatch z) h
  | @dT a kvs ea =>
    cases (show u = Value.ref a from rx)
    obtain ⟨_, _, xs, _, o, es, ep, h1, h2, _⟩ := (show Z4 X.prog X.w H s.heap a (.dT kvs) from I.hok a _ ea)
    exact PySem.W.kia_one PySem.W.kitx_dict I.kIn ⟨o, h1, h2.1⟩ e (fun z => nomatch z) h
  | @ins a C dx fs ea cl ha hn htk hm =>
    cases (show u = Value.ref a from rx)
    obtain ⟨mA, O, _⟩ := ins_get I.hok ea
    obtain ⟨od, J, _⟩ := O.look
    exact PySem.W.kia_one (PySem.W.kitx_own (cl.get _) cl.hd ha hn htk hm) I.kIn J e (fun z => nomatch z) h
end
end L2

namespace L2
open PySem PySem.Spec PyProof.Rows

structure Room (k : Nat) (A : Around) : Prop where
  hd : A.handled = none
  dp : A.depth + 3 * k + 5 < recursionLimit
  un : A.units + 16 * k + 200 < cLine
theorem Room.mono {j k : Nat} {A : Around} (r : Room k A) (h : j ≤ k) : Room j A := ⟨r.hd, by have := r.dp; omega, by have := r.un; omega⟩
theorem Room.deeper {k : Nat} {A : Around} (r : Room (k + 1) A) (env : Env) : Room k (A.deeper env) :=
  ⟨r.hd, by have := r.dp; show A.depth + 1 + 3 * k + 5 < _; omega, by have := r.un; show A.units + 3 + 16 * k + 200 < _; omega⟩
theorem make_depth {A : Around} {C : Addr} {us : List Value} {kw : List (Str × Value)} : (A.under (.builtin "type.__call__" ⟨.ref C :: us, kw⟩)).depth = A.depth + 1 := by
  first | rfl | simp [Around.under, Code.weight, Code.isCreation, Code.isGuard, Code.isCaller, Code.frames, Code.isFrame, guardIds]
theorem make_units {A : Around} {C : Addr} {us : List Value} {kw : List (Str × Value)} : (A.under (.builtin "type.__call__" ⟨.ref C :: us, kw⟩)).units = A.units + 1 := by
  first | rfl | simp [Around.under, Code.cUnits, Code.frames, Code.isFrame]
theorem Room.make {k : Nat} {A : Around} (r : Room (k + 1) A) (C : Addr) (us : List Value) (kw : List (Str × Value)) : Room k (A.under (.builtin "type.__call__" ⟨.ref C :: us, kw⟩)) :=
  ⟨r.hd, by have := r.dp; rw [make_depth]; omega, by have := r.un; rw [make_units]; omega⟩
theorem Room.depth {k : Nat} {A : Around} (r : Room k A) : A.depth < recursionLimit := by have := r.dp; omega
theorem Room.units {k : Nat} {A : Around} (r : Room k A) : A.units + 64 < cLine := by have := r.un; omega
noncomputable def tNil : TA := fun _ H Q => Q [] H
noncomputable def tCons (ta : TE) (tr : TA) : TA := fun σ H Q => ta σ H fun x H1 => tr σ H1 fun xs H2 => Q (x :: xs) H2
section
variable {X : Cx} {e : Expr} {es : List Expr} {te : TE} {t : TA} {pos : Pos}
theorem Zd : PA X [] tNil := fun _ _ _ _ H Q I h => Calls.spliced_nil ⟨[], H, I, .nil, h⟩
theorem Za (ha : PE X e te) (hr : PA X es t) (hs : starEach (e :: es) X.env = (false, eval e X.env) :: starEach es X.env := by rfl) : PA X (e :: es) (tCons te t) := by
  intro pos pins s σ H Q I h
  rw [hs]
  show wpAny _ _ (spliced ((false, eval e X.env) :: backTo pos (starEach es X.env))) _ _ s
  refine Calls.spliced_cons (thn (ha pins s σ H _ I h) fun u s1 zz9 => ?_)
  obtain ⟨x, H1, I1, r1, q1⟩ := zz9
  exact thn (hr pos pins s1 σ H1 _ I1 q1) fun us s2 ⟨xs, H2, I2, r2, q2⟩ => ⟨x :: xs, H2, I2, .cons r1 r2, q2⟩
noncomputable def tTup (t : TA) : TE := fun σ H Q => t σ H fun xs H1 => xs.length ≤ sizeLine ∧ ∀ p, H1 p = none → Q (.ref p) (upd H1 p (.tup xs))
noncomputable def tLst (t : TA) : TE := fun σ H Q => t σ H fun xs H1 => xs.length ≤ sizeLine ∧ ∀ p, H1 p = none → Q (.ref p) (upd H1 p (.lst xs))
theorem Xq {x1} (h : PA X es t) : PE X (.Tuple es x1 pos) (tTup t) := by
  intro pins s σ H Q I hq
  refine wpAny_Tuple_spliced (thn (h pos pins s σ H _ I hq) fun us s1 ⟨xs, H1, I1, r, z, q⟩ => ⟨by rw [← r.length]; exact z, ?_⟩)
  have hf : H1 s1.heap.objs.size = none := I1.hok.fresh (Nat.le_refl _)
  refine ⟨.ref s1.heap.objs.size, upd H1 s1.heap.objs.size (.tup xs), I1.laid (t' := s1.toks) (fun b u e => Heap.get?_push_of_some _ e) (Nat.le_refl _) ?_, rfl, q _ hf⟩
  exact ⟨z, us, r, ⟨_, Heap.get?_push_size _ rfl, rfl, _, rfl⟩⟩
theorem Xr (h : PA X es t) : PE X (.List es pos) (tLst t) := by
  intro pins s σ H Q I hq
  refine wpAny_List_spliced (thn (h pos pins s σ H _ I hq) fun us s1 ⟨xs, H1, I1, r, z, q⟩ => ⟨by rw [← r.length]; exact z, ?_⟩)
  have hf : H1 s1.heap.objs.size = none := I1.hok.fresh (Nat.le_refl _)
  refine ⟨.ref s1.heap.objs.size, upd H1 s1.heap.objs.size (.lst xs), I1.laid (t' := s1.toks) (fun b u e => Heap.get?_push_of_some _ e) (Nat.le_refl _) ?_, rfl, q _ hf⟩
  exact ⟨z, us, 0, r, Heap.get?_push_size _ rfl⟩
end

noncomputable abbrev Sp := List V → Hp → VK → XK → Prop
noncomputable abbrev CXT := List Env → Hp → Shared → XK → Value → Shared → Prop
structure Env0 (P : Program) (w : World) (K : PySem.W.Frag) (mg : Str → Option Value) (base : Heap) (A : Around) (outer : List Env) (s : Shared) (H : Hp) : Prop where
  frames : A.frames = some outer
  mod : Mod K mg base
  bs : ∀ b o, base.get? b = some o → s.heap.get? b = some o ∧ H b = none
  bsz : base.objs.size ≤ s.heap.objs.size
  funs : s.heap.FunFrames base outer
  frf : ∀ b ∈ frs outer, H b = none
  hok : HOk P w H s.heap
  bare : AllBare s.gens
noncomputable def CE (outer : List Env) (P : Program) (w : World) (H : Hp) (s : Shared) (Q : VK) (u : Value) (s' : Shared) : Prop :=
  ∃ v H', s'.os = s.os ∧ AllBare s'.gens ∧ Un (frs outer) [] H H' s.heap s'.heap ∧ HOk P w H' s'.heap ∧ ZE v u ∧ Q v H'
noncomputable def CR (CX : CXT) (outer : List Env) (P : Program) (w : World) (H : Hp) (s : Shared) (Q : VK) (E : XK) (r : Result) (s' : Shared) : Prop :=
  match r with
  | .ok (.ret u) => CE outer P w H s Q u s'
  | .ok _ => False
  | .error e => CX outer H s E e s'
structure FnOk (P : Program) (w : World) (K : PySem.W.Frag) (mg : Str → Option Value) (base : Heap) (CX : CXT) (k : Nat) (f : Addr) (fd : FuncData) (ps : List Str) (sp : Sp) : Prop where
  len : ∀ vs H Q E, sp vs H Q E → vs.length = ps.length
  run : ∀ (A : Around) (outer : List Env) (s : Shared) (H : Hp) (args : Args) (us : List Value) (vs : List V) (Q : VK) (E : XK), Room k A → Env0 P w K mg base A outer s H → BindsTo s fd args (ps.zip us) → ZO vs us → sp vs H Q E →
    codeAny (model P w) A (.call (.ref f) args) (CR CX outer P w H s Q E) s
theorem Env0.make {P : Program} {w : World} {K : PySem.W.Frag} {mg : Str → Option Value} {base : Heap} {A : Around} {outer : List Env} {s : Shared} {H : Hp} (e : Env0 P w K mg base A outer s H) (C : Addr) (us : List Value) (kw : List (Str × Value)) :
    Env0 P w K mg base (A.under (.builtin "type.__call__" ⟨.ref C :: us, kw⟩)) outer s H := ⟨by first | exact e.frames | (simpa [Around.under, Code.envs, Code.isFrame, pushEnvs] using e.frames), e.mod, e.bs, e.bsz, e.funs, e.frf, e.hok, e.bare⟩
section
variable {X : Cx} {pins : List (Addr × Obj)} {σ : St} {H : Hp} {s s' : Shared}
theorem Inv.env0 (I : Inv X pins σ H s) : Env0 X.prog X.w X.K X.mg X.base X.A X.stack s H :=
  ⟨I.ok.frames, I.ok.mod, I.bs, Nat.le_trans I.ok.bsz I.sz, I.stack, I.stkFree, I.hok, I.bare⟩
theorem Inv.after {Q : VK} {u : Value} (I : Inv X pins σ H s) (h : CE X.stack X.prog X.w H s Q u s') : EP X pins σ Q u s' := by
  obtain ⟨v, H', os, bare, un, hok, r, q⟩ := h
  obtain ⟨hh, g, d, t, os'⟩ := s'
  obtain rfl : os' = s.os := os
  exact ⟨v, H', I.call (h' := hh) (g' := g) (d' := d) (t' := t) (ch := []) un hok bare (fun b z => absurd z (by simp)), r, q⟩
end

noncomputable def tCall (sp : Sp) (dvs : List V) (E : XK) (t : TA) : TE := fun σ H Q => t σ H fun vs H1 => sp (vs ++ dvs) H1 Q E
noncomputable def tMeth (C : Addr) (m : Str) (sp : Sp) (dvs : List V) (E : XK) (ta : TE) (t : TA) : TE := fun σ H Q => ta σ H fun x H1 => ∃ a dx fs, x = .ref a ∧ H1 a = some (.ins C dx fs) ∧ fs.lookup m = none ∧
  t σ H1 fun vs H2 => sp (x :: (vs ++ dvs)) H2 Q E
noncomputable def tMake (C : Addr) (sp : Sp) (dvs : List V) (E : XK) (t : TA) : TE := fun σ H Q => t σ H fun vs H1 => ∀ x dx, H1 x = none → H1 dx = none → dx ≠ x →
  sp (.ref x :: (vs ++ dvs)) (upd (upd H1 dx (.own x)) x (.ins C dx [])) (fun v H2 => v = .non ∧ Q (.ref x) H2) E
noncomputable def Binds (K : PySem.W.Frag) (fd : FuncData) (ps : List Str) (ds : List Value) : Prop :=
  ∀ (s : Shared) (us : List Value), K.In s.heap → (us ++ ds).length = ps.length → BindsTo s fd ⟨us, []⟩ (ps.zip (us ++ ds))
theorem Binds.all {K : PySem.W.Frag} {fd : FuncData} {ps : List Str} (h : ∀ us : List Value, us.length = ps.length → bindArgs fd ⟨us, []⟩ = pure (ps.zip us)) : Binds K fd ps [] := fun s us _ hl => by
  rw [List.append_nil] at hl ⊢
  exact .of_eq (h us hl)
noncomputable def Jb (CX : CXT) (X : Cx) (E : XK) : Prop := ∀ (pins : List (Addr × Obj)) (σ : St) (H : Hp) (s : Shared) (e : Value) (s' : Shared), Inv X pins σ H s → CX X.stack H s E e s' → X.xe e s'
section
variable {X : Cx} {CX : CXT} {k : Nat} {f C : Addr} {fd : FuncData} {ps : List Str} {sp : Sp} {dvs : List V} {ds : List Value} {E : XK} {x m : Str} {p pos apos : Pos} {e o : Expr} {es : List Expr} {ta : TE} {t : TA}

theorem run_fn {pins : List (Addr × Obj)} {σ : St} {H : Hp} {s : Shared} {Q : VK} {us : List Value} {vs : List V} (F : FnOk X.prog X.w X.K X.mg X.base CX k f fd ps sp) (hr : Room k X.A) (hb : Binds X.K fd ps ds) (hd : ZO dvs ds) (hx : Jb CX X E)
    (I : Inv X pins σ H s) (r : ZO vs us) (h : sp (vs ++ dvs) H Q E) : wpAny (model X.prog X.w) X.A (call (.ref f) us) (EP X pins σ Q) X.xe s := by
  have r2 : ZO (vs ++ dvs) (us ++ ds) := r.append hd
  have hl : (us ++ ds).length = ps.length := by rw [← r2.length]; exact F.len _ _ _ _ h
  refine wpAny_call (codeAny_mono (F.run X.A X.stack s H ⟨us, []⟩ (us ++ ds) (vs ++ dvs) Q E hr I.env0 (hb s us I.kIn hl) r2 h) fun r s' hq => ?_)
  cases r with
  | error e => exact hx pins σ H s e s' I hq
  | ok fl =>
    cases fl with
    | ret u => exact I.after hq
    | next => exact False.elim hq
    | brk => exact False.elim hq
    | cont => exact False.elim hq
theorem pe_call (F : FnOk X.prog X.w X.K X.mg X.base CX k f fd ps sp) (hr : Room k X.A) (hg : Gl X x) (hm : X.mg x = some (.ref f)) (hk : PySem.W.keepIn X.K (.ref f) = true) (hb : Binds X.K fd ps ds) (hd : ZO dvs ds) (hx : Jb CX X E)
    (ha : PA X (e :: es) t) (hdb : (x == ("__debug__" : Str)) = false := by decide) (he : starEach (e :: es) X.env = (false, eval e X.env) :: starEach es X.env := by rfl) (hpl : (backTo pos (starEach es X.env)).any (·.1) = false := by rfl) :
    PE X (.Call (.Name x p) (e :: es) [] pos) (tCall sp dvs E t) := by
  intro pins s σ H Q I h
  refine wpAny_Call_Name_kw (ld_glob I hg hm ?_ hdb)
  refine PySem.W.callWith_K (h₀ := X.base) I.ok.mod.kin hk (thn (ha pos pins s σ H _ I h) fun us s1 ⟨vs, H1, I1, r, q⟩ => ⟨I1.kIn, ?_⟩) he hpl
  exact run_fn F hr hb hd hx I1 r q
theorem pe_meth {pl : Sem Bool} (he : PE X o ta) (c : Cls X.K C) (hm : Meth X.K C m f) (F : FnOk X.prog X.w X.K X.mg X.base CX k f fd ps sp) (hr : Room k X.A) (hb : Binds X.K fd ps ds) (hd : ZO dvs ds) (hx : Jb CX X E) (ha : PA X (e :: es) t)
    (hst : starEach (e :: es) X.env = (false, eval e X.env) :: starEach es X.env := by rfl) (hpl : (backTo pos (starEach es X.env)).any (·.1) = false := by rfl)
    (ht : eval (.Call (.Attribute o m apos) (e :: es) [] pos) X.env = (do
      let ov ← eval o X.env
      standAt apos.atName
      let (f, first) ← holding [ov] (getMethod ov m pl)
      callWith pos f first (backTo pos (starEach (e :: es) X.env)) (backToKw pos (keywordEach [] X.env))) := by rfl) :
    PE X (.Call (.Attribute o m apos) (e :: es) [] pos) (tMeth C m sp dvs E ta t) := by
  intro pins s σ H Q I h
  refine PySem.W.methodCall_KW (pl := pl) (thn (he pins s σ H _ I h) fun u s1 zz9 => ?_) ht
  obtain ⟨x, H1, I1, rx, a, dx, fs, ex, ea, l, q⟩ := zz9
  subst ex
  obtain rfl : u = Value.ref a := rx
  refine getmeth_ok I1 ea c hm l ?_
  refine PySem.W.callWith_K (first := [.ref a]) (h₀ := X.base) I.ok.mod.kin hm.kp (thn (ha pos pins s1 σ H1 _ I1 q) fun us s2 ⟨vs, H2, I2, r, q2⟩ => ⟨I2.kIn, ?_⟩) hst hpl
  exact run_fn (us := .ref a :: us) (vs := .ref a :: vs) F hr hb hd hx I2 (.cons rfl r) q2
structure Mk (K : PySem.W.Frag) (C f : Addr) : Prop where
  makes : PySem.W.makesIn K C = true
  init : PySem.W.findIn K (.ref C) "__init__" = some (some (.ref f))
  fn : PySem.W.isFn K (.ref f) = true
  kp : PySem.W.keepIn K (.ref C) = true
theorem run_make {pins : List (Addr × Obj)} {σ : St} {H : Hp} {s : Shared} {Q : VK} {us : List Value} {vs : List V} (M : Mk X.K C f) (F : FnOk X.prog X.w X.K X.mg X.base CX k f fd ps sp) (hr : Room (k + 1) X.A) (hb : Binds X.K fd ps ds) (hd : ZO dvs ds)
    (hx : Jb CX X E) (I : Inv X pins σ H s) (r : ZO vs us)
    (h : ∀ x dx, H x = none → H dx = none → dx ≠ x → sp (.ref x :: (vs ++ dvs)) (upd (upd H dx (.own x)) x (.ins C dx [])) (fun v H2 => v = .non ∧ Q (.ref x) H2) E) :
    wpAny (model X.prog X.w) X.A (call (.ref C) us) (EP X pins σ Q) X.xe s := by
  have hq := h (s.heap.objs.size + 1) s.heap.objs.size (I.hok.fresh (Nat.le_succ _)) (I.hok.fresh (Nat.le_refl _)) (Nat.ne_of_lt (Nat.lt_succ_self _))
  have I2 := Inv.made (C := C) I
  have r2 : ZO (V.ref (s.heap.objs.size + 1) :: (vs ++ dvs)) (Value.ref (s.heap.objs.size + 1) :: (us ++ ds)) := .cons rfl (r.append hd)
  have hl : (Value.ref (s.heap.objs.size + 1) :: us ++ ds).length = ps.length := by
    have e := r2.length
    rw [F.len _ _ _ _ hq] at e
    exact e.symm
  refine wpAny_call (make_map (f := f) I.kIn M.makes M.init (beq_iff_eq.mp M.fn) (codeAny_mono (F.run _ X.stack _ _ ⟨Value.ref (s.heap.objs.size + 1) :: us, []⟩ (Value.ref (s.heap.objs.size + 1) :: (us ++ ds)) _ _ E (hr.make C us [])
    (I2.env0.make C us []) (hb _ (Value.ref (s.heap.objs.size + 1) :: us) I2.kIn hl) r2 hq) fun r s' hq' => ?_))
  cases r with
  | error e => exact hx pins σ _ _ e s' I2 hq'
  | ok fl =>
    cases fl with
    | ret u =>
      obtain ⟨v, H', I3, rv, ev, q3⟩ := I2.after hq'
      subst ev
      exact ⟨rv, ⟨V.ref (s.heap.objs.size + 1), H', I3, rfl, q3⟩⟩
    | next => exact False.elim hq'
    | brk => exact False.elim hq'
    | cont => exact False.elim hq'
theorem pe_make (M : Mk X.K C f) (F : FnOk X.prog X.w X.K X.mg X.base CX k f fd ps sp) (hr : Room (k + 1) X.A) (hg : Gl X x) (hm : X.mg x = some (.ref C)) (hb : Binds X.K fd ps ds) (hd : ZO dvs ds) (hx : Jb CX X E)
    (ha : PA X (e :: es) t) (hdb : (x == ("__debug__" : Str)) = false := by decide) (he : starEach (e :: es) X.env = (false, eval e X.env) :: starEach es X.env := by rfl) (hpl : (backTo pos (starEach es X.env)).any (·.1) = false := by rfl) :
    PE X (.Call (.Name x p) (e :: es) [] pos) (tMake C sp dvs E t) := by
  intro pins s σ H Q I h
  refine wpAny_Call_Name_kw (ld_glob I hg hm ?_ hdb)
  refine PySem.W.callWith_K (h₀ := X.base) I.ok.mod.kin M.kp (thn (ha pos pins s σ H _ I h) fun us s1 ⟨vs, H1, I1, r, q⟩ => ⟨I1.kIn, ?_⟩) he hpl
  exact run_make M F hr hb hd hx I1 r q
theorem pe_make0 (M : Mk X.K C f) (F : FnOk X.prog X.w X.K X.mg X.base CX k f fd ps sp) (hr : Room (k + 1) X.A) (hg : Gl X x) (hm : X.mg x = some (.ref C)) (hb : Binds X.K fd ps ds) (hd : ZO dvs ds) (hx : Jb CX X E)
    (hdb : (x == ("__debug__" : Str)) = false := by decide) : PE X (.Call (.Name x p) [] [] pos) (tMake C sp dvs E tNil) := by
  intro pins s σ H Q I h
  refine wpAny_Call_Name_kw (ld_glob I hg hm ?_ hdb)
  exact PySem.W.callWith_K0 I.kIn M.kp (run_make (us := []) M F hr hb hd hx I .nil h)
end

section
variable {X : Cx} {CX : CXT} {k : Nat} {f C : Addr} {fd : FuncData} {ps ks : List Str} {sp : Sp} {E : XK} {x m : Str} {p pos apos kpos : Pos} {e o : Expr} {es : List Expr} {kws : List Keyword} {te ta : TE} {t tk : TA} {nm : Option Str}
variable {g : List Value → List Value → List Value} {gV : List V → List V → List V}
end

structure FnScope (N P : List Str) (sc : Scope) : Prop where
  kind : sc.kind = .function
  co : sc.isCoroutine = false
  gen : sc.isGenerator = false
  nd : N.Nodup
  pre : N.take P.length = P
  par : ∀ x ∈ P, sc.names.lookup x = some .local ∨ sc.names.lookup x = some .cell
  nofree : ∀ y ∈ sc.names, y.2 ≠ .free
theorem bindL_out {kindOf : Str → Option NameKind} {x : Str} : ∀ {binds : List (Str × Value)} {m : Str → Option Value}, (∀ v, (x, v) ∉ binds) → bindL kindOf binds m x = m x
  | [], _, _ => rfl
  | (n, v) :: r, m, h => by
    unfold bindL
    rw [bindL_out fun w hw => h w (List.mem_cons_of_mem _ hw)]
    split
    · have : x ≠ n := by rintro rfl; exact h v List.mem_cons_self
      simp [this]
    · rfl
theorem bindC_out {kindOf : Str → Option NameKind} {x : Str} : ∀ {binds : List (Str × Value)} {m : Str → Option Value}, (∀ v, (x, v) ∉ binds) → bindC kindOf binds m x = m x
  | [], _, _ => rfl
  | (n, v) :: r, m, h => by
    unfold bindC
    rw [bindC_out fun w hw => h w (List.mem_cons_of_mem _ hw)]
    split
    · rfl
    · have : x ≠ n := by rintro rfl; exact h v List.mem_cons_self
      simp [this]
theorem bindL_get {kindOf : Str → Option NameKind} {x : Str} {v : Value} : ∀ {P : List Str} {vs : List Value} {i : Nat} {m : Str → Option Value}, P.Nodup → P[i]? = some x → vs[i]? = some v → kindOf x = some .local →
    bindL kindOf (P.zip vs) m x = some v
  | [], _, _, _, _, h, _, _ => by simp at h
  | _ :: _, [], _, _, _, _, h, _ => by simp at h
  | p :: P, w :: vs, 0, m, nd, h1, h2, hk => by
    simp at h1 h2; subst h1; subst h2
    show bindL kindOf ((p, w) :: P.zip vs) m p = _
    unfold bindL
    rw [bindL_out fun v hv => (List.nodup_cons.mp nd).1 (List.of_mem_zip hv).1, if_pos hk]
    simp
  | p :: P, w :: vs, i + 1, m, nd, h1, h2, hk => by
    show bindL kindOf ((p, w) :: P.zip vs) m x = _
    unfold bindL
    exact bindL_get (i := i) (List.nodup_cons.mp nd).2 (by simpa using h1) (by simpa using h2) hk
theorem bindC_get {kindOf : Str → Option NameKind} {x : Str} {v : Value} : ∀ {P : List Str} {vs : List Value} {i : Nat} {m : Str → Option Value}, P.Nodup → P[i]? = some x → vs[i]? = some v → kindOf x ≠ some .local →
    bindC kindOf (P.zip vs) m x = some v
  | [], _, _, _, _, h, _, _ => by simp at h
  | _ :: _, [], _, _, _, _, h, _ => by simp at h
  | p :: P, w :: vs, 0, m, nd, h1, h2, hk => by
    simp at h1 h2; subst h1; subst h2
    show bindC kindOf ((p, w) :: P.zip vs) m p = _
    unfold bindC
    rw [bindC_out fun v hv => (List.nodup_cons.mp nd).1 (List.of_mem_zip hv).1, if_neg hk]
    simp
  | p :: P, w :: vs, i + 1, m, nd, h1, h2, hk => by
    show bindC kindOf ((p, w) :: P.zip vs) m x = _
    unfold bindC
    exact bindC_get (i := i) (List.nodup_cons.mp nd).2 (by simpa using h1) (by simpa using h2) hk
noncomputable def start (N : List Str) (vs : List V) : St := vs.map some ++ List.replicate (N.length - vs.length) none
noncomputable def Xn (CX : CXT) (P : Program) (w : World) (K : PySem.W.Frag) (mg : Str → Option Value) (base : Heap) (N : List Str) (qual : Str) (scope : Scope) (f : Addr) (cd : Value) (A : Around) (outer : List Env) (s : Shared) (H : Hp) (E : XK) : Cx where
  prog := P
  w := w
  K := K
  mg := mg
  base := base
  A := A.deeper (envOfC qual scope s.heap.objs.size f cd)
  N := N
  s₀ := s
  H₀ := H
  env := envOfC qual scope s.heap.objs.size f cd
  outer := outer
  stack := envOfC qual scope s.heap.objs.size f cd :: outer
  ex := []
  calm := true
  fn := fun _ => true
  pn := []
  xe := fun e s' => wpAny (model P w) (A.deeper (envOfC qual scope s.heap.objs.size f cd)) (leaving (envOfC qual scope s.heap.objs.size f cd) e) (fun _ s'' => CX outer H s E e s'') (fun e' s'' => CX outer H s E e' s'') s'
theorem cell_has {sc : Scope} {n : Nat} {x : Str} (h : sc.names.lookup x = some .cell) : ∃ c, (cellsFrom n sc.names []).lookup x = some c := by
  have q := PySem.W.cellsFrom_some sc.names n [] (.inl h)
  exact Option.isSome_iff_exists.mp q
theorem inv_start {CX : CXT} {P : Program} {w : World} {K : PySem.W.Frag} {mg : Str → Option Value} {base : Heap} {N ps : List Str} {qual : Str} {scope : Scope} {f : Addr} {cd : Value} {A : Around} {outer : List Env} {s s1 : Shared} {H : Hp} {E : XK} {us : List Value} {vs : List V}
    (S : FnScope N ps scope) (hd : A.handled = none) (e0 : Env0 P w K mg base A outer s H) (hl : vs.length = ps.length) (r : ZO vs us)
    (x : InCallC s s.heap.objs.size (bindL (envOfC qual scope s.heap.objs.size f cd).kindOf (ps.zip us) fun _ => none) (cellsFrom (s.heap.objs.size + 1) scope.names []) (bindC (envOfC qual scope s.heap.objs.size f cd).kindOf (ps.zip us) fun _ => none) s1) :
    Inv (Xn CX P w K mg base N qual scope f cd A outer s H E) [] (start N vs) H s1 := by
  have hpl : ps.length ≤ N.length := by have := congrArg List.length S.pre; rw [List.length_take] at this; omega
  obtain ⟨h1, tk, rfl, hk⟩ := x.done
  have noA : ∀ b : Addr, b ∉ (Xn CX P w K mg base N qual scope f cd A outer s H E).ex := fun b z => absurd (show b ∈ ([] : List Addr) from z) (by simp)
  refine ⟨⟨e0.mod, S.kind, rfl, rfl, Nat.le_refl _, fun y z c h1 h2 => ?_, fun y hy => ?_, fun y c _ h => ?_, fun _ => hd, Around.frames_deeper e0.frames, .inr ⟨rfl, rfl⟩, fun b z => absurd z (noA b), e0.bs, e0.bsz, fun b _ _ => noA b, fun b z => absurd z (noA b), e0.funs, e0.frf⟩,
    rfl, e0.bare, Un.kept hk, ⟨_, x.toInCall.ns, fun i y v h1 h2 h3 => ?_⟩, fun y c h => ⟨_, x.cell y c h⟩, e0.hok.fresh (Nat.le_refl _), fun y c h => ?_, fun p hp => absurd (show p ∈ ([] : List (Addr × Obj)) from hp) (by simp), e0.hok.kept hk, ?_⟩
  · exact name_of_addr x.apart (PySem.mem_of_lookup h1) (PySem.mem_of_lookup h2)
  · have hy : scope.names.lookup y = some .cell ∨ scope.names.lookup y = some .free := hy
    rcases hy with hy | hy
    · exact cell_has hy
    · exact absurd rfl (S.nofree _ (PySem.mem_of_lookup hy))
  · exact Nat.le_of_lt (x.above y c (PySem.mem_of_lookup h))
  · have hi : i < vs.length := by
      unfold start at h2
      by_cases hi : i < vs.length
      · exact hi
      · rw [List.getElem?_append_right (by simpa using hi)] at h2
        rw [List.getElem?_replicate] at h2
        split at h2 <;> cases h2
    have ha : vs[i]? = some v := by
      unfold start at h2
      rw [List.getElem?_append_left (by simpa using hi), List.getElem?_map] at h2
      cases e : vs[i]? with
      | none => rw [e] at h2; cases h2
      | some a => rw [e] at h2; cases h2; rfl
    obtain ⟨u, hu, rv⟩ := r.get ha
    have hp : ps[i]? = some y := by
      rw [← S.pre, List.getElem?_take_of_lt (by omega)]; exact h1
    have ndP : ps.Nodup := by rw [← S.pre]; exact S.nd.sublist (List.take_sublist _ _)
    refine ⟨u, rv, ?_⟩
    rcases S.par y (List.mem_of_getElem? hp) with k | k
    · exact .inl ⟨k, bindL_get ndP hp hu k⟩
    · obtain ⟨c, e⟩ := cell_has (n := s.heap.objs.size + 1) k
      refine .inr ⟨.inl k, c, e, ?_⟩
      have q := x.cell y c e
      rw [bindC_get ndP hp hu (by show scope.names.lookup y ≠ _; rw [k]; decide)] at q
      exact q
  · exact e0.hok.fresh (Nat.le_of_lt (x.above y c (PySem.mem_of_lookup h)))
  · unfold start
    show _ = N.length
    rw [List.length_append, List.length_map, List.length_replicate]
    omega
theorem fn_of {CX : CXT} {P : Program} {w : World} {K : PySem.W.Frag} {mg : Str → Option Value} {base : Heap} {k : Nat} {f : Addr} {name qual : Str} {params : Arguments} {body : List Stmt} {scope : Scope} {dV kV doc pm cdv ct oc : Value} {an od : Option Addr}
    {osl : Array (Option Value)} {N ps : List Str} {sp : Sp} (lk : K.lookup f = some ⟨oc, od, .func (PySem.W.fnOf name qual params body scope dV kV doc pm an cdv ct), osl⟩) (hcd : PySem.W.codeIn K cdv qual = true) (S : FnScope N ps scope)
    (len : ∀ vs H Q E, sp vs H Q E → vs.length = ps.length)
    (hbody : ∀ (A : Around) (outer : List Env) (s : Shared) (H : Hp) (vs : List V) (Q : VK) (E : XK), Room k (A.deeper (envOfC qual scope s.heap.objs.size f cdv)) → sp vs H Q E →
      ∃ t, PSs (Xn CX P w K mg base N qual scope f cdv A outer s H E) body t ∧ t { nx := fun _ H' => Q .non H', rt := Q } (start N vs) H) :
    FnOk P w K mg base CX (k + 1) f (PySem.W.fnOf name qual params body scope dV kV doc pm an cdv ct) ps sp := by
  refine ⟨len, fun A outer s H args us vs Q E hr e0 hb r hsp => ?_⟩
  have hl := len _ _ _ _ hsp
  have KX : K.In s.heap := e0.mod.kin.keeps fun b o e => (e0.bs b o e).1
  have lim : s.heap.NoLimit := e0.mod.nolimit.keeps fun b o e => (e0.bs b o e).1
  have hkind : ∀ y ∈ ps.zip us, scope.names.lookup y.1 = some .local ∨ (scope.names.lookup y.1 = some .cell ∧ ((cellsFrom (s.heap.objs.size + 1) scope.names []).lookup y.1).isSome = true) := fun ⟨n, v⟩ hy => by
    rcases S.par n (List.of_mem_zip hy).1 with q | q
    · exact .inl q
    · exact .inr ⟨q, PySem.W.cellsFrom_some _ _ _ (.inl q)⟩
  refine codeAny_call_function hr.depth (KX _ _ lk) rfl S.co S.gen rfl (PySem.W.codeRec_of KX hcd) (hb _ _ _ _ ?_)
  refine wpAny_newFunctionEnv_cells S.kind hkind fun env he s1 x => ?_
  subst he
  refine ⟨lim.keeps x.toInCall.keep, codeAny_func ?_⟩
  obtain ⟨t, ht, hq⟩ := hbody A outer s H vs Q E (hr.deeper _) hsp
  have I : Inv (Xn CX P w K mg base N qual scope f cdv A outer s H E) [] (start N vs) H s1 := inv_start S hr.hd e0 hl r x
  refine wpAny_mono (ht [] s1 (start N vs) H _ I hq) (fun fl s' hs => ?_) fun e s' hs => hs
  have fin : ∀ {σ' : St} {H' : Hp} {v : V} {u : Value}, Inv (Xn CX P w K mg base N qual scope f cdv A outer s H E) [] σ' H' s' → ZE v u → Q v H' → CE outer P w H s Q u s' :=
    fun {σ' H' v u} J rv q => ⟨v, H', J.os, J.bare, J.base, J.hok, rv, q⟩
  cases fl with
  | ret u =>
    obtain ⟨v, σ', H', J, rv, q⟩ := hs
    exact fin J rv q
  | next =>
    obtain ⟨σ', H', J, q⟩ := hs
    exact fin (v := V.non) (u := Value.none) J rfl q
  | brk =>
    obtain ⟨_, _, _, q⟩ := hs
    exact False.elim q
  | cont =>
    obtain ⟨_, _, _, q⟩ := hs
    exact False.elim q
end L2

namespace L2
open PySem PySem.Spec PyProof.Rows
section
variable {X : Cx} {x : Str} {p pos : Pos} {e : Expr} {es : List Expr} {t : TA} {id T : String} {r : List V → Hp → VK → Prop}

noncomputable def tCB (r : List V → Hp → VK → Prop) (t : TA) : TE := fun σ H Q => t σ H fun vs H1 => r vs H1 Q
theorem ZC (hc : Jw X (.builtin id) r) (hg : Gl X x) (hm : X.mg x = none) (hv : bootBuiltins x = some (.builtin id)) (ha : PA X (e :: es) t) (hn : x ≠ "__name__" := by decide) (hdb : (x == ("__debug__" : Str)) = false := by decide)
    (he : starEach (e :: es) X.env = (false, eval e X.env) :: starEach es X.env := by rfl) (hpl : (backTo pos (starEach es X.env)).any (·.1) = false := by rfl) : PE X (.Call (.Name x p) (e :: es) [] pos) (tCB r t) := by
  intro pins s σ H Q I h
  refine wpAny_Call_Name_kw (ld_blt I hg hm hv ?_ hn hdb)
  exact PyProof.Rows.callWith_builtin1 (thn (ha pos pins s σ H _ I h) fun us s1 ⟨vs, H1, I1, r1, q1⟩ => hc pins s1 σ H1 vs us Q I1 r1 q1) he hpl
theorem Yx (hc : Jw X (.type T) r) (hg : Gl X x) (hm : X.mg x = none) (hv : bootBuiltins x = some (.type T)) (ha : PA X (e :: es) t) (hn : x ≠ "__name__" := by decide) (hdb : (x == ("__debug__" : Str)) = false := by decide)
    (he : starEach (e :: es) X.env = (false, eval e X.env) :: starEach es X.env := by rfl) (hpl : (backTo pos (starEach es X.env)).any (·.1) = false := by rfl) : PE X (.Call (.Name x p) (e :: es) [] pos) (tCB r t) := by
  intro pins s σ H Q I h
  refine wpAny_Call_Name_kw (ld_blt I hg hm hv ?_ hn hdb)
  exact PyProof.Rows.callWith_type1 (thn (ha pos pins s σ H _ I h) fun us s1 ⟨vs, H1, I1, r1, q1⟩ => hc pins s1 σ H1 vs us Q I1 r1 q1) he hpl
end
end L2

namespace L2
open PySem PySem.Spec PyProof.Rows

section
variable {κ : Type} [DecidableEq κ]
noncomputable def Y6 (kvs : List (κ × V)) (k : κ) : Option V := (kvs.find? fun kv => decide (kv.1 = k)).map (·.2)
noncomputable def putK (kvs : List (κ × V)) (k : κ) (v : V) : List (κ × V) :=
  if (kvs.any fun kv => decide (kv.1 = k)) = true then kvs.map (fun kv => if kv.1 = k then (kv.1, v) else kv) else kvs ++ [(k, v)]
noncomputable def dropK (kvs : List (κ × V)) (k : κ) : List (κ × V) := kvs.filter fun kv => decide (kv.1 ≠ k)
theorem valV_pos {p : κ × V} {r : List (κ × V)} {k : κ} (e : p.1 = k) : Y6 (p :: r) k = some p.2 := by simp [Y6, List.find?_cons, e]
theorem valV_neg {p : κ × V} {r : List (κ × V)} {k : κ} (e : ¬ p.1 = k) : Y6 (p :: r) k = Y6 r k := by simp [Y6, List.find?_cons, e]
theorem valV_any (k : κ) : ∀ kvs : List (κ × V), (kvs.any fun kv => decide (kv.1 = k)) = (Y6 kvs k).isSome
  | [] => rfl
  | p :: r => by
    rw [List.any_cons]
    by_cases e : p.1 = k
    · simp only [valV_pos e, decide_eq_true e, Bool.true_or, Option.isSome_some]
    · rw [valV_neg e, decide_eq_false e, Bool.false_or]; exact valV_any k r
theorem length_putK (kvs : List (κ × V)) (k : κ) (v : V) : (putK kvs k v).length ≤ kvs.length + 1 := by
  unfold putK
  split
  · rw [List.length_map]; omega
  · rw [List.length_append, List.length_cons, List.length_nil]; omega
theorem XR {kvs : List (κ × V)} {k : κ} (v : V) (h : Y6 kvs k = none) : putK kvs k v = kvs ++ [(k, v)] := by
  unfold putK
  rw [valV_any, h]
  exact if_neg (by decide)
theorem RelO.isSome_eq {o : Option V} {u : Option Value} (r : RelO o u) : o.isSome = u.isSome := by
  cases o with
  | none => cases u with
    | none => rfl
    | some _ => exact (show False from r).elim
  | some _ => cases u with
    | none => exact (show False from r).elim
    | some _ => rfl
theorem RelO.getD {o : Option V} {u : Option Value} {d : V} {d' : Value} (r : RelO o u) (rd : ZE d d') : ZE (o.getD d) (u.getD d') := by
  cases o with
  | none => cases u with
    | none => exact rd
    | some _ => exact (show False from r).elim
  | some _ => cases u with
    | none => exact (show False from r).elim
    | some _ => exact r
theorem KV.val {kvs : List (κ × V)} {vs : List (κ × Value)} (r : KV kvs vs) (k : κ) : RelO (Y6 kvs k) (valueAt vs k) := by
  unfold KV at r
  induction r with
  | nil => exact True.intro
  | @cons p q ps qs h t ih =>
    obtain ⟨h1, h2⟩ := h
    by_cases e : p.1 = k
    · have e' : q.1 = k := h1.symm.trans e
      have b : valueAt (q :: qs) k = some q.2 := by simp [valueAt, List.find?_cons, e']
      rw [valV_pos e, b]; exact h2
    · have e' : ¬ q.1 = k := fun z => e (h1.trans z)
      have b : valueAt (q :: qs) k = valueAt qs k := by simp [valueAt, List.find?_cons, e']
      rw [valV_neg e, b]; exact ih
theorem KV.any {kvs : List (κ × V)} {vs : List (κ × Value)} (r : KV kvs vs) (k : κ) : (kvs.any fun kv => decide (kv.1 = k)) = vs.any fun kv => decide (kv.1 = k) := by
  unfold KV at r
  induction r with
  | nil => rfl
  | cons h t ih => rw [List.any_cons, List.any_cons, ih, h.1]
theorem KV.repl {kvs : List (κ × V)} {vs : List (κ × Value)} (r : KV kvs vs) (k : κ) {y : V} {u : Value} (ry : ZE y u) :
    KV (kvs.map fun kv => if kv.1 = k then (kv.1, y) else kv) (vs.map fun kv => if kv.1 = k then (kv.1, u) else kv) := by
  unfold KV at r ⊢
  induction r with
  | nil => exact .nil
  | @cons p q ps qs h t ih =>
    rw [List.map_cons, List.map_cons]
    refine .cons ?_ ih
    obtain ⟨h1, h2⟩ := h
    by_cases e : p.1 = k
    · rw [if_pos e, if_pos (h1.symm.trans e)]; exact ⟨h1, ry⟩
    · rw [if_neg e, if_neg (fun z => e (h1.trans z))]; exact ⟨h1, h2⟩
theorem KV.put {kvs : List (κ × V)} {vs : List (κ × Value)} (r : KV kvs vs) (k : κ) {y : V} {u : Value} (ry : ZE y u) : KV (putK kvs k y) (stored vs k u) := by
  unfold putK stored
  rw [r.any k]
  by_cases e : (vs.any fun kv => decide (kv.1 = k)) = true
  · rw [if_pos e, if_pos e]; exact r.repl k ry
  · rw [if_neg e, if_neg e]; exact Paired.snoc r ⟨rfl, ry⟩
theorem KV.length {kvs : List (κ × V)} {vs : List (κ × Value)} (r : KV kvs vs) : kvs.length = vs.length := Paired.length r
end


theorem kV_is {P : Program} {w : World} {k : Key} {u : Value} (r : ZE (kV k) u) : (Z0 P w).is k u = true := by
  cases k with
  | inl i => obtain ⟨t, e⟩ := (show ∃ t, u = Value.int i t from r); subst e; exact mixKind_int P w i t
  | inr x => obtain ⟨t, e⟩ := (show ∃ t, u = Value.str x t from r); subst e; exact mixKind_str P w x t
theorem items_are {P : Program} {w : World} : ∀ {ks : List Key} {us : List Value}, ZO (ks.map kV) us → ItemsAre (Z0 P w) ks us
  | [], _, r => by rw [List.map_nil] at r; cases r; exact .nil
  | k :: ks, _, r => by
    rw [List.map_cons] at r
    cases r with
    | cons h t => exact .cons (kV_is h) (items_are t)
noncomputable abbrev KT (H : Hp) : List (List Key × V) → List (List Key × Addr × Value) → Prop := Paired fun p q => p.1 = q.1 ∧ H q.2.1 = some (.tup (p.1.map kV)) ∧ ZE p.2 q.2.2
theorem KT.val {H : Hp} {kvs : List (List Key × V)} {xs : List (List Key × Addr × Value)} (r : KT H kvs xs) (k : List Key) : RelO (Y6 kvs k) ((atKey xs k).map (·.2)) := by
  induction r with
  | nil => exact True.intro
  | @cons p q ps qs h t ih =>
    obtain ⟨h1, _, h2⟩ := h
    by_cases e : p.1 = k
    · have e' : q.1 = k := h1.symm.trans e
      have b : atKey (q :: qs) k = some q.2 := by simp [atKey, List.find?_cons, e']
      rw [valV_pos e, b]; exact h2
    · have e' : ¬ q.1 = k := fun z => e (h1.trans z)
      have b : atKey (q :: qs) k = atKey qs k := by simp [atKey, List.find?_cons, e']
      rw [valV_neg e, b]; exact ih
theorem KT.repl {H : Hp} {kvs : List (List Key × V)} {xs : List (List Key × Addr × Value)} (r : KT H kvs xs) (k : List Key) {y : V} {u : Value} (ry : ZE y u) :
    KT H (kvs.map fun kv => if kv.1 = k then (kv.1, y) else kv) (xs.map (putAt k u)) := by
  induction r with
  | nil => exact .nil
  | @cons p q ps qs h t ih =>
    rw [List.map_cons, List.map_cons]
    refine .cons ?_ ih
    obtain ⟨h1, h2, h3⟩ := h
    unfold putAt
    by_cases e : p.1 = k
    · rw [if_pos e, if_pos (h1.symm.trans e)]; exact ⟨h1, h2, ry⟩
    · rw [if_neg e, if_neg (fun z => e (h1.trans z))]; exact ⟨h1, h2, h3⟩
theorem KT.put {H : Hp} {kvs : List (List Key × V)} {xs : List (List Key × Addr × Value)} (r : KT H kvs xs) (k : List Key) {b : Addr} {y : V} {u : Value} (hb : H b = some (.tup (k.map kV))) (ry : ZE y u) :
    KT H (putK kvs k y) (storedH xs k b u) := by
  have e : (kvs.any fun kv => decide (kv.1 = k)) = (atKey xs k).isSome := by
    rw [valV_any, (r.val k).isSome_eq, Option.isSome_map]
  unfold putK storedH
  rw [e]
  by_cases q : (atKey xs k).isSome = true
  · rw [if_pos q, if_pos q]; exact r.repl k ry
  · rw [if_neg q, if_neg q]; exact Paired.snoc r ⟨rfl, hb, ry⟩
theorem KT.keeps {H H' : Hp} {kvs : List (List Key × V)} {xs : List (List Key × Addr × Value)} (r : KT H kvs xs) (ht : ∀ b ys, H b = some (.tup ys) → H' b = some (.tup ys)) : KT H' kvs xs :=
  Paired.mapP r fun _ _ z => ⟨z.1, ht _ _ z.2.1, z.2.2⟩
section
variable {P : Program} {w : World} {H : Hp} {h : Heap} {a : Addr}
theorem rd_of {u : HO} (ok : HOk P w H h) (e : Rd H a u) : Z4 P w H h a u := e.ok ok
theorem dk_rd {kvs : List (Key × V)} (ok : HOk P w H h) (e : Rd H a (.dK kvs)) : kvs.length ≤ sizeLine ∧ (a == sysModules) = false ∧ ∃ vs, KV kvs vs ∧ h.DictOf (Z0 P w) a vs :=
  show Z4 P w H h a (.dK kvs) from rd_of ok e
theorem dk_of {kvs : List (Key × V)} (ok : HOk P w H h) (e : H a = some (.dK kvs)) : kvs.length ≤ sizeLine ∧ (a == sysModules) = false ∧ ∃ vs, KV kvs vs ∧ h.DictOf (Z0 P w) a vs := dk_rd ok (.inl e)
theorem key_of {ks : List Key} (ok : HOk P w H h) (e : H a = some (.tup (ks.map kV))) : (tupleKind (Z0 P w)).is h ks a := by
  obtain ⟨_, its, r, o, h1, h2, n, h3⟩ := (show Z4 P w H h a (.tup (ks.map kV)) from ok a _ e)
  exact ⟨o, its.toArray, n, h1, h2, h3, by simpa using items_are r⟩
theorem dt_rd {kvs : List (List Key × V)} (ok : HOk P w H h) (e : Rd H a (.dT kvs)) : kvs.length ≤ sizeLine ∧ (a == sysModules) = false ∧
    ∃ xs, KT H kvs xs ∧ h.DictOfH (tupleKind (Z0 P w)) a xs := by
  obtain ⟨z, y, xs, r, o, es, ep, h1, h2, h3, h4, h5⟩ := (show Z4 P w H h a (.dT kvs) from rd_of ok e)
  refine ⟨z, y, xs, r, o, es, ep, h1, h2, h3, h4, fun x hx => ?_, h5⟩
  have all : ∀ {l : List (List Key × V)} {m : List (List Key × Addr × Value)}, KT H l m → ∀ x ∈ m, (tupleKind (Z0 P w)).is h x.1 x.2.1 := by
    intro l m q
    induction q with
    | nil => intro x hx; exact nomatch hx
    | @cons p q ps qs hq t ih =>
      intro x hx
      rcases List.mem_cons.mp hx with e | hx
      · subst e
        exact key_of ok (by rw [← hq.1]; exact hq.2.1)
      · exact ih x hx
  exact all r x hx
theorem dt_of {kvs : List (List Key × V)} (ok : HOk P w H h) (e : H a = some (.dT kvs)) : kvs.length ≤ sizeLine ∧ (a == sysModules) = false ∧
    ∃ xs, KT H kvs xs ∧ h.DictOfH (tupleKind (Z0 P w)) a xs := dt_rd ok (.inl e)
end

noncomputable def Yp (H : Hp) (a : Addr) (y : V) (r : Option V) : Prop :=
  (∃ kvs k, Rd H a (.dK kvs) ∧ y = kV k ∧ r = Y6 kvs k) ∨ ∃ kvs k b, Rd H a (.dT kvs) ∧ y = .ref b ∧ H b = some (.tup (k.map kV)) ∧ r = Y6 kvs k
noncomputable def DPut (H : Hp) (a : Addr) (y v : V) (H' : Hp) : Prop :=
  (∃ kvs k, H a = some (.dK kvs) ∧ y = kV k ∧ kvs.length < sizeLine ∧ H' = upd H a (.dK (putK kvs k v))) ∨
  ∃ kvs k b, H a = some (.dT kvs) ∧ y = .ref b ∧ H b = some (.tup (k.map kV)) ∧ kvs.length < sizeLine ∧ H' = upd H a (.dT (putK kvs k v))
theorem Yp.k {H : Hp} {a : Addr} {kvs : List (Key × V)} {k : Key} (e : H a = some (.dK kvs)) : Yp H a (kV k) (Y6 kvs k) := .inl ⟨kvs, k, .inl e, rfl, rfl⟩
theorem DPut.k {H : Hp} {a : Addr} {kvs : List (Key × V)} {k : Key} {v : V} (e : H a = some (.dK kvs)) (hl : kvs.length < sizeLine) : DPut H a (kV k) v (upd H a (.dK (putK kvs k v))) := .inl ⟨kvs, k, e, rfl, hl, rfl⟩
section
variable {X : Cx} {pins : List (Addr × Obj)} {σ : St} {H : Hp} {s : Shared} {a : Addr} {y v : V} {u r : Value} {o : Option V} {A : Around} {E : Value → Shared → Prop}

theorem Inv.big (I : Inv X pins σ H s) : sysModules < s.heap.objs.size := by
  have h : mainGlobals < s.heap.objs.size := (I.mod.glob.keeps I.bk).lt
  exact Nat.lt_trans (by decide) h
theorem d_getItem {Q : Value → Shared → Prop} (hu : A.units + 1 < cLine) (I : Inv X pins σ H s) (g : Yp H a y (some v)) (ry : ZE y u) (h : ∀ w' s', Inv X pins σ H s' → ZE v w' → Q w' s') :
    wpAny (model X.prog X.w) A (getItem (.ref a) u) Q E s := by
  rcases g with ⟨kvs, k, e, ey, l⟩ | ⟨kvs, k, b, e, ey, eb, l⟩
  · subst ey
    obtain ⟨z, hd, vs, rel, dd⟩ := dk_rd I.hok e
    obtain ⟨w', hw, rw'⟩ := RelO.some_of (v := v) (o := valueAt vs k) (by rw [l]; exact rel.val k)
    exact wpAny_getItem_of (kV_is ry) dd.mapOf hw (h w' _ (I.tok _) rw')
  · subst ey
    cases (show u = Value.ref b from ry)
    obtain ⟨z, hd, xs, rel, dd⟩ := dt_rd I.hok e
    obtain ⟨w', hw, rw'⟩ := RelO.some_of (v := v) (o := (atKey xs k).map (·.2)) (by rw [l]; exact rel.val k)
    obtain ⟨p, hp, hp2⟩ := Option.map_eq_some_iff.mp hw
    refine wpAny_getItem_heap (tupleKind_room_in1 hu) (key_of I.hok eb) dd hp ?_
    rw [hp2]
    exact h w' _ (I.tok _) rw'
theorem d_in {Q : Value → Shared → Prop} (hu : A.units + 1 < cLine) (I : Inv X pins σ H s) (g : Yp H a y o) (ry : ZE y u) (h : ∀ s', Inv X pins σ H s' → Q (.bool o.isSome) s') :
    wpAny (model X.prog X.w) A (compareOp .In u (.ref a)) Q E s := by
  rcases g with ⟨kvs, k, e, ey, l⟩ | ⟨kvs, k, b, e, ey, eb, l⟩
  · subst ey
    obtain ⟨z, hd, vs, rel, dd⟩ := dk_rd I.hok e
    refine wpAny_in_of (kV_is ry) hd dd.mapOf ?_
    rw [← (rel.val k).isSome_eq, ← l]
    exact h _ (I.tok _)
  · subst ey
    cases (show u = Value.ref b from ry)
    obtain ⟨z, hd, xs, rel, dd⟩ := dt_rd I.hok e
    refine wpAny_in_heap (tupleKind_room_in1 hu) (key_of I.hok eb) hd dd ?_
    have q := (rel.val k).isSome_eq
    rw [Option.isSome_map] at q
    rw [← q, ← l]
    exact h _ (I.tok _)
theorem d_notIn {Q : Value → Shared → Prop} (hu : A.units + 1 < cLine) (I : Inv X pins σ H s) (g : Yp H a y o) (ry : ZE y u) (h : ∀ s', Inv X pins σ H s' → Q (.bool (!o.isSome)) s') :
    wpAny (model X.prog X.w) A (compareOp .NotIn u (.ref a)) Q E s := by
  rcases g with ⟨kvs, k, e, ey, l⟩ | ⟨kvs, k, b, e, ey, eb, l⟩
  · subst ey
    obtain ⟨z, hd, vs, rel, dd⟩ := dk_rd I.hok e
    refine wpAny_notIn_of (kV_is ry) hd dd.mapOf ?_
    rw [← (rel.val k).isSome_eq, ← l]
    exact h _ (I.tok _)
  · subst ey
    cases (show u = Value.ref b from ry)
    obtain ⟨z, hd, xs, rel, dd⟩ := dt_rd I.hok e
    refine wpAny_notIn_heap (tupleKind_room_in1 hu) (key_of I.hok eb) hd dd ?_
    have q := (rel.val k).isSome_eq
    rw [Option.isSome_map] at q
    rw [← q, ← l]
    exact h _ (I.tok _)
theorem d_write {h' : Heap} {t' : Nat} {ob : HO} (I : Inv X pins σ H s) (mu : Mut (H a)) (hs : Heap.SameBut a s.heap h') (he : ∃ q, h'.get? a = some q) (new : Z4 X.prog X.w (upd H a ob) h' a ob) :
    Inv X pins σ (upd H a ob) { s with heap := h', toks := t' } :=
  I.write (x := a) (e := a) mu (.inl rfl) (fun b q hb z => (hs.2 b hb).trans z) he new
theorem dk_new {P : Program} {w : World} {H' : Hp} {h' : Heap} {kvs : List (Key × V)} {vs : List (Key × Value)} (z : kvs.length ≤ sizeLine) (hd : (a == sysModules) = false) (rel : KV kvs vs) (dd : h'.DictOf (Z0 P w) a vs) :
    Z4 P w H' h' a (.dK kvs) := ⟨z, hd, vs, rel, dd⟩
theorem d_setItem {H' : Hp} {Q : Unit → Shared → Prop} (hu : A.units + 1 < cLine) (I : Inv X pins σ H s) (g : DPut H a y v H') (ry : ZE y u) (rv : ZE v r) (h : ∀ s', Inv X pins σ H' s' → Q () s') :
    wpAny (model X.prog X.w) A (setItem (.ref a) u r) Q E s := by
  rcases g with ⟨kvs, k, e, ey, l, eH⟩ | ⟨kvs, k, b, e, ey, eb, l, eH⟩
  · subst ey eH
    obtain ⟨z, hd, vs, rel, dd⟩ := dk_of I.hok e
    have hz : vs.length ≤ sizeLine := by rw [← rel.length]; exact z
    have hl : (putK kvs k v).length ≤ sizeLine := by have := length_putK kvs k v; omega
    refine wpAny_setItem_pairs (hsz := hz) (kV_is ry) dd fun h' dd' hs => h _ ?_
    have he : ∃ q, h'.get? a = some q := let ⟨q, _, _, hq, _⟩ := dd'; ⟨q, hq⟩
    exact d_write I (by rw [e]; exact True.intro) hs he (dk_new hl hd (rel.put k rv) dd')
  · subst ey eH
    cases (show u = Value.ref b from ry)
    obtain ⟨z, hd, xs, rel, dd⟩ := dt_of I.hok e
    have hz : xs.length ≤ sizeLine := by rw [← Paired.length rel]; exact z
    have hl : (putK kvs k v).length ≤ sizeLine := by have := length_putK kvs k v; omega
    refine wpAny_setItem_heap (hsz := hz) (tupleKind_room_in1 hu) (key_of I.hok eb) dd fun h' dd' hs => h _ ?_
    obtain ⟨q, es, ep, hq, h2, h3, h4, _, h5⟩ := dd'
    refine d_write I (by rw [e]; exact True.intro) hs ⟨q, hq⟩ ⟨hl, hd, _, (rel.put k eb rv).keeps fun c ys ec => ?_, q, es, ep, hq, h2, h3, h4, h5⟩
    rw [Zg (ne_of ec e (fun z => nomatch z))]
    exact ec
end

section
variable {X : Cx} {pins : List (Addr × Obj)} {σ : St} {H : Hp} {s : Shared} {a : Addr} {kvs : List (Key × V)} {k : Key} {u : Value} {A : Around} {E : Value → Shared → Prop}
end


noncomputable def NoSl (i : Expr) : Prop := ∀ ov iv, subscripted i false ov iv = operate [ov, iv] (getItem ov iv)
theorem subD_of {prog : Program} {w : World} {A : Around} {E : Value → Shared → Prop} {s : Shared} {env : Env} {value slice : Expr} {pos : Pos} {T id : String} {Q : Value → Shared → Prop}
    (hl : typeLookup (.type T) "__getitem__" = pure (some (.builtin id))) (hs : NoSl slice)
    (h : wpAny (model prog w) A (eval value env) (fun o s₁ => wpAny (model prog w) A (eval slice env) (fun i s₂ => s₂.TypeIs o T ∧ wpAny (model prog w) A (getItem o i) Q E s₂) E s₁) E s) :
    wpAny (model prog w) A (eval (.Subscript value slice pos) env) Q E s := by
  refine Subscript_ (wpAny_mono h (fun o s₁ h₁ => wpAny_mono h₁ (fun i s₂ h₂ => ?_) fun _ _ x => x) fun _ _ x => x)
  obtain ⟨hT, h₂⟩ := h₂
  unfold subscriptTail
  refine wpAny_bind ?_
  rw [getitemInPython_of_ne hT.not_modules]
  refine wpAny_bind (wpAny_specialOf hT hl ?_)
  have fin : wpAny (model prog w) A (subscripted slice false o i) (fun r s₃ => wpAny (model prog w) A (letTemporaryGo value o r >>= fun _ => pure r) Q E s₃) E s₂ := by
    rw [hs o i]
    exact wpAny_operating (wpAny_mono h₂ (fun r s₃ h₃ => wpAny_bind (wpAny_letTemporaryGo (wpAny_pure h₃))) fun _ _ x => x)
  first
    | exact wpAny_pure (wpAny_bind fin)
    | exact wpAny_bind (wpAny_pure (wpAny_bind fin))
    | exact wpAny_bind fin
theorem dict_typeIs {X : Cx} {pins : List (Addr × Obj)} {σ : St} {H : Hp} {s : Shared} {a : Addr} {y : V} {o : Option V} (I : Inv X pins σ H s) (g : Yp H a y o) : s.TypeIs (.ref a) "dict" := by
  rcases g with ⟨kvs, k, e, _, _⟩ | ⟨kvs, k, b, e, _, _, _⟩
  · obtain ⟨_, _, vs, _, dd⟩ := dk_rd I.hok e
    exact dd.typeIs
  · obtain ⟨_, _, xs, _, dd⟩ := dt_rd I.hok e
    exact dd.typeIs
noncomputable def tDGet (td ty : TE) : TE := fun σ H Q => td σ H fun x H1 => ty σ H1 fun y H2 => ∃ a v, x = .ref a ∧ Yp H2 a y (some v) ∧ Q v H2
noncomputable def tDIn (ty td : TE) : TE := fun σ H Q => ty σ H fun y H1 => td σ H1 fun x H2 => ∃ a o, x = .ref a ∧ Yp H2 a y o ∧ Q (.bl o.isSome) H2
noncomputable def tDNotIn (ty td : TE) : TE := fun σ H Q => ty σ H fun y H1 => td σ H1 fun x H2 => ∃ a o, x = .ref a ∧ Yp H2 a y o ∧ Q (.bl (!o.isSome)) H2
noncomputable def sDPut (td ty tv : TE) : TS := fun D σ H => tv σ H fun v H1 => td σ H1 fun x H2 => ty σ H2 fun y H3 => ∃ a H4, x = .ref a ∧ DPut H3 a y v H4 ∧ D.nx σ H4
section
variable {X : Cx} {o i e value : Expr} {pos pos' tpos : Pos} {td ty tv : TE}
theorem pe_dget (hu : X.A.units + 1 < cLine) (ho : PE X o td) (hi : PE X i ty) (hs : NoSl i) : PE X (.Subscript o i pos) (tDGet td ty) := by
  intro pins s σ H Q I h
  refine subD_of PySem.F.slot_dict_getitem.lookup hs (thn (ho pins s σ H _ I h) fun u s1 ⟨x, H1, I1, rx, q1⟩ => thn (hi pins s1 σ H1 _ I1 q1) fun iv s2 zz9 => ?_)
  obtain ⟨y, H2, I2, ry, a, v, ex, g, q2⟩ := zz9
  subst ex
  obtain rfl : u = Value.ref a := rx
  exact ⟨dict_typeIs I2 g, d_getItem hu I2 g ry fun w' s3 I3 rw' => ⟨v, H2, I3, rw', q2⟩⟩
theorem pc_din (hu : X.A.units + 1 < cLine) (hi : PE X i ty) (ho : PE X o td) : PC X .In i o (tDIn ty td) := by
  intro pins s σ H Q I h
  refine thn (hi pins s σ H _ I h) fun iv s1 ⟨y, H1, I1, ry, q1⟩ => thn (ho pins s1 σ H1 _ I1 q1) fun u s2 zz9 => ?_
  obtain ⟨x, H2, I2, rx, a, ov, ex, g, q2⟩ := zz9
  subst ex
  obtain rfl : u = Value.ref a := rx
  exact d_in hu I2 g ry fun s3 I3 => ⟨.bl ov.isSome, H2, I3, rfl, q2⟩
theorem Yy (hu : X.A.units + 1 < cLine) (hi : PE X i ty) (ho : PE X o td) : PC X .NotIn i o (tDNotIn ty td) := by
  intro pins s σ H Q I h
  refine thn (hi pins s σ H _ I h) fun iv s1 ⟨y, H1, I1, ry, q1⟩ => thn (ho pins s1 σ H1 _ I1 q1) fun u s2 zz9 => ?_
  obtain ⟨x, H2, I2, rx, a, ov, ex, g, q2⟩ := zz9
  subst ex
  obtain rfl : u = Value.ref a := rx
  exact d_notIn hu I2 g ry fun s3 I3 => ⟨.bl (!ov.isSome), H2, I3, rfl, q2⟩
theorem JC (hu : X.A.units + 1 < cLine) (ho : PE X o td) (hi : PE X i ty) (hv : PE X value tv) (hs : swapsWith value (some (.Subscript o i pos')) pos.line X.env = pure false) :
    PS X (.Assign [.Subscript o i pos'] value pos) (sDPut td ty tv) := by
  intro pins s σ H D I h
  refine wpAny_Assign_Subscript (thn (hv pins s σ H _ I h) fun r s1 ⟨v, H1, I1, rv, q1⟩ => thn (ho pins s1 σ H1 _ I1 q1) fun u s2 ⟨x, H2, I2, rx, q2⟩ => thn (hi pins s2 σ H2 _ I2 q2) fun iv s3 zz9 => ?_) hs
  obtain ⟨y, H3, I3, ry, a, H4, ex, g, q3⟩ := zz9
  subst ex
  obtain rfl : u = Value.ref a := rx
  exact d_setItem hu I3 g ry rv fun s4 I4 => ⟨σ, H4, I4, q3⟩
end


theorem dk_empty {P : Program} {w : World} {H : Hp} (h : Heap) (hb : sysModules < h.objs.size) : Z4 P w H (h.push { cls := .type "dict", data := .dict #[] }) h.objs.size (.dK []) :=
  ⟨Nat.zero_le _, beq_eq_false_iff_ne.mpr (Ne.symm (Nat.ne_of_lt hb)), [], .nil, Heap.DictOf.new h⟩
noncomputable def tDNewK : TE := fun _ H Q => ∀ p, H p = none → Q (.ref p) (upd H p (.dK []))
section
variable {X : Cx} {pos : Pos}
theorem Jm : PE X (.Dict [] [] pos) tDNewK := fun pins s σ H Q I h =>
  wpAny_Dict_empty ⟨.ref s.heap.objs.size, _, I.laid (a := s.heap.objs.size) (o := .dK []) (t' := s.toks) (fun _ _ q => Heap.get?_push_of_some _ q) (Nat.le_refl _) (dk_empty s.heap I.big), rfl, h _ (I.hok.fresh (Nat.le_refl _))⟩
end

structure M1 (X : Cx) (o : Expr) (m : Str) (apos : Pos) (e : Expr) (cpos : Pos) : Prop where
  base : attributeBase o m X.env (eval o X.env) = eval o X.env
  few : ((backTo cpos (starEach [e] X.env)).all (fun x => !x.1) && (backToKw cpos (keywordEach [] X.env)).all (fun x => x.1.isSome)
    && decide (([e] : List Expr).length + ([] : List Keyword).length + (if ([] : List Keyword).isEmpty then 0 else 1) < 30)) = true
  line : (apos.endLine == cpos.line) = true
  trees : backTo cpos (starEach [e] X.env) = [(false, eval e X.env)]
structure M2 (X : Cx) (o : Expr) (m : Str) (apos : Pos) (e f : Expr) (cpos : Pos) : Prop where
  base : attributeBase o m X.env (eval o X.env) = eval o X.env
  few : ((backTo cpos (starEach [e, f] X.env)).all (fun x => !x.1) && (backToKw cpos (keywordEach [] X.env)).all (fun x => x.1.isSome)
    && decide (([e, f] : List Expr).length + ([] : List Keyword).length + (if ([] : List Keyword).isEmpty then 0 else 1) < 30)) = true
  line : (apos.endLine == cpos.line) = true
  trees : backTo cpos (starEach [e, f] X.env) = [(false, eval e X.env), (false, eval f X.env)]
noncomputable def IsD (H : Hp) (a : Addr) : Prop := (∃ kvs, Rd H a (.dK kvs)) ∨ ∃ kvs, Rd H a (.dT kvs)
theorem isD_at {X : Cx} {pins : List (Addr × Obj)} {σ : St} {H : Hp} {s : Shared} {a : Addr} (I : Inv X pins σ H s) (d : IsD H a) :
    s.TypeIs (.ref a) "dict" ∧ (∀ b, Value.ref a = .ref b → ∃ ob, s.heap.get? b = some ob ∧ ob.dict = none) ∧ (a == sysModules) = false := by
  rcases d with ⟨kvs, e⟩ | ⟨kvs, e⟩
  · obtain ⟨_, hd, vs, _, dd⟩ := dk_rd I.hok e
    refine ⟨dd.typeIs, fun b q => ?_, hd⟩
    cases q
    obtain ⟨ob, _, _, h1, h2, _⟩ := dd
    exact ⟨ob, h1, h2.2.1⟩
  · obtain ⟨_, hd, xs, _, dd⟩ := dt_rd I.hok e
    refine ⟨dd.typeIs, fun b q => ?_, hd⟩
    cases q
    obtain ⟨ob, _, _, h1, h2, _⟩ := dd
    exact ⟨ob, h1, h2.2.1⟩
section
variable {X : Cx} {pins : List (Addr × Obj)} {σ : St} {H : Hp} {s : Shared} {a : Addr} {y d : V} {u r : Value} {o : Option V} {A : Around} {E : Value → Shared → Prop}
theorem d_get1 {Q : Value → Shared → Prop} (hu : A.units + 1 < cLine) (I : Inv X pins σ H s) (g : Yp H a y o) (ry : ZE y u) (h : ∀ w' s', Inv X pins σ H s' → ZE (o.getD .non) w' → Q w' s') :
    wpAny (model X.prog X.w) A (call (.builtin "dict.get") [.ref a, u]) Q E s := by
  rcases g with ⟨kvs, k, e, ey, l⟩ | ⟨kvs, k, b, e, ey, eb, l⟩
  · subst ey
    obtain ⟨z, hd, vs, rel, dd⟩ := dk_rd I.hok e
    refine call_meetsIn PySem.F.slot_dict_get dd.typeIs PySem.F.entry_dict_get (PySem.F.args_dict_get_2 _ _) (meets_dict_get (Z0 X.prog X.w) a (kV_is ry) hd) ⟨_, dd.mapOf, h _ _ (I.tok _) ?_⟩
    rw [l]
    exact (rel.val k).getD rfl
  · subst ey
    cases (show u = Value.ref b from ry)
    obtain ⟨z, hd, xs, rel, dd⟩ := dt_rd I.hok e
    refine call_meetsIn PySem.F.slot_dict_get dd.typeIs PySem.F.entry_dict_get (PySem.F.args_dict_get_2 _ _) (meetsH_dict_get (tupleKind (Z0 X.prog X.w)) a b hd) ⟨tupleKind_room_in1 hu, k, xs, key_of I.hok eb, dd, h _ _ (I.tok _) ?_⟩
    rw [l]
    exact (rel.val k).getD rfl
theorem d_get2 {Q : Value → Shared → Prop} (hu : A.units + 1 < cLine) (I : Inv X pins σ H s) (g : Yp H a y o) (ry : ZE y u) (rd : ZE d r) (h : ∀ w' s', Inv X pins σ H s' → ZE (o.getD d) w' → Q w' s') :
    wpAny (model X.prog X.w) A (call (.builtin "dict.get") [.ref a, u, r]) Q E s := by
  rcases g with ⟨kvs, k, e, ey, l⟩ | ⟨kvs, k, b, e, ey, eb, l⟩
  · subst ey
    obtain ⟨z, hd, vs, rel, dd⟩ := dk_rd I.hok e
    refine call_meetsIn PySem.F.slot_dict_get dd.typeIs PySem.F.entry_dict_get (PySem.F.args_dict_get_3 _ _ _) (meets_dict_get_default (Z0 X.prog X.w) a (kV_is ry) hd r) ⟨_, dd.mapOf, h _ _ (I.tok _) ?_⟩
    rw [l]
    exact (rel.val k).getD rd
  · subst ey
    cases (show u = Value.ref b from ry)
    obtain ⟨z, hd, xs, rel, dd⟩ := dt_rd I.hok e
    refine call_meetsIn PySem.F.slot_dict_get dd.typeIs PySem.F.entry_dict_get (PySem.F.args_dict_get_3 _ _ _) (meetsH_dict_get_default (tupleKind (Z0 X.prog X.w)) a b hd r) ⟨tupleKind_room_in1 hu, k, xs, key_of I.hok eb, dd, h _ _ (I.tok _) ?_⟩
    rw [l]
    exact (rel.val k).getD rd
end

noncomputable def tDGet1 (td ty : TE) : TE := fun σ H Q => td σ H fun x H1 => ∃ a, x = .ref a ∧ IsD H1 a ∧ ty σ H1 fun y H2 => ∃ o, Yp H2 a y o ∧ Q (o.getD .non) H2
noncomputable def tDGet2 (td ty tx : TE) : TE := fun σ H Q => td σ H fun x H1 => ∃ a, x = .ref a ∧ IsD H1 a ∧ ty σ H1 fun y H2 => tx σ H2 fun z H3 => ∃ o, Yp H3 a y o ∧ Q (o.getD z) H3
section
variable {X : Cx} {o e f : Expr} {apos cpos : Pos} {td ty tx : TE}
theorem pe_dget1 (hu : X.A.units + 1 < cLine) (ho : PE X o td) (he : PE X e ty) (m : M1 X o "get" apos e cpos) : PE X (.Call (.Attribute o "get" apos) [e] [] cpos) (tDGet1 td ty) := by
  intro pins s σ H Q I h
  refine wpAny_Call_method m.base m.few m.line PySem.F.plainAttrs_dict PySem.F.slot_dict_get PySem.F.type_dict_get (thn (ho pins s σ H _ I h) fun u s1 zz9 => ?_)
  obtain ⟨x, H1, I1, rx, a, ex, d, q1⟩ := zz9
  subst ex
  obtain rfl : u = Value.ref a := rx
  obtain ⟨t1, t2, _⟩ := isD_at I1 d
  refine ⟨t1, t2, ?_⟩
  rw [m.trees]
  refine Calls.callWith_builtin rfl (Calls.evalArgs_plain (Calls.spliced_cons (thn (he pins s1 σ H1 _ I1 q1) fun iv s2 ⟨y, H2, I2, ry, ov, g, q2⟩ => Calls.spliced_nil ?_)))
  exact d_get1 hu I2 g ry fun w' s3 I3 rw' => ⟨_, H2, I3, rw', q2⟩
theorem pe_dget2 (hu : X.A.units + 1 < cLine) (ho : PE X o td) (he : PE X e ty) (hf : PE X f tx) (m : M2 X o "get" apos e f cpos) : PE X (.Call (.Attribute o "get" apos) [e, f] [] cpos) (tDGet2 td ty tx) := by
  intro pins s σ H Q I h
  refine wpAny_Call_method m.base m.few m.line PySem.F.plainAttrs_dict PySem.F.slot_dict_get PySem.F.type_dict_get (thn (ho pins s σ H _ I h) fun u s1 zz9 => ?_)
  obtain ⟨x, H1, I1, rx, a, ex, d, q1⟩ := zz9
  subst ex
  obtain rfl : u = Value.ref a := rx
  obtain ⟨t1, t2, _⟩ := isD_at I1 d
  refine ⟨t1, t2, ?_⟩
  rw [m.trees]
  refine Calls.callWith_builtin rfl (Calls.evalArgs_plain (Calls.spliced_cons (thn (he pins s1 σ H1 _ I1 q1) fun iv s2 ⟨y, H2, I2, ry, q2⟩ =>
    Calls.spliced_cons (thn (hf pins s2 σ H2 _ I2 q2) fun fv s3 ⟨z, H3, I3, rz, ov, g, q3⟩ => Calls.spliced_nil ?_))))
  exact d_get2 hu I3 g ry rz fun w' s4 I4 rw' => ⟨_, H3, I4, rw', q3⟩
end

section
variable {X : Cx} {pins : List (Addr × Obj)} {σ : St} {H : Hp} {s : Shared} {a : Addr} {kvs : List (Key × V)} {A : Around} {E : Value → Shared → Prop}
end


section
variable {X : Cx} {pins : List (Addr × Obj)} {σ : St} {H : Hp} {s : Shared} {a : Addr} {y : V} {u : Value} {A : Around} {E : Value → Shared → Prop}
end
end L2

namespace HT
open PySem PyProof.Rows

section
open PySem.SeqAt
open PySem.AutoSeq1 (wpAny_loadPart')
open PySem.MeetsSeq PySem.MeetsSeq2 PySem.MeetsSeq3

end

section
variable {prog : Program} {w : World} {A : Around} {E : Value → Shared → Prop} {s : Shared}

end
end HT

namespace L2
open PySem PySem.Spec PyProof.Rows

noncomputable abbrev TO := St → Hp → (Option Int → Hp → Prop) → Prop
noncomputable def PO (X : Cx) (e : Option Expr) (t : TO) : Prop :=
  ∀ (pins : List (Addr × Obj)) (s : Shared) (σ : St) (H : Hp) (Q : Option Int → Hp → Prop), Inv X pins σ H s → t σ H Q →
    wpAny (model X.prog X.w) X.A (evalPart e X.env) (fun u s' => ∃ o H', Inv X pins σ H' s' ∧ IsPart u o ∧ Q o H') X.xe s
noncomputable def tNoPart : TO := fun _ H Q => Q none H
noncomputable def tPart (t : TE) : TO := fun σ H Q => t σ H fun x H1 => ∃ i, x = .int i ∧ Q (some i) H1
theorem intsAre_of {ns : List Int} : ∀ {us : List Value}, ZO (ns.map V.int) us → IntsAre us ns := by
  induction ns with
  | nil => intro us r; rw [List.map_nil] at r; cases r; exact .nil
  | cons n ns ih =>
    intro us r
    rw [List.map_cons] at r
    cases r with
    | cons r1 r2 =>
      obtain ⟨t, e⟩ := r1
      subst e
      exact .cons n t (ih r2)
section
variable {X : Cx} {e : Expr} {te : TE} {lo hi : Option Expr} {tl th : TO} {pos p2 : Pos}

theorem po_none : PO X none tNoPart := by
  intro pins s σ H Q I h
  rw [evalPart_none]
  exact wpAny_pure ⟨none, H, I, .none, h⟩
theorem po_some (h : PE X e te) : PO X (some e) (tPart te) := by
  intro pins s σ H Q I hw
  rw [evalPart_some]
  refine thn (h pins s σ H _ I hw) fun u s1 zz9 => ?_
  obtain ⟨x, H1, I1, r1, q1⟩ := zz9
  obtain ⟨i, rfl, q⟩ := q1
  obtain ⟨t, rfl⟩ := r1
  exact ⟨some i, H1, I1, .int i t, q⟩
noncomputable def SlR (X : Cx) (r : V → Option Int → Option Int → Hp → VK → Prop) : Prop :=
  ∀ (pins : List (Addr × Obj)) (s : Shared) (σ : St) (H : Hp) (x : V) (v vl vu : Value) (lo hi : Option Int) (sl : Addr) (Q : VK), Inv X pins σ H s → ZE x v → s.heap.IsSliceOf sl vl vu .none → IsPart vl lo → IsPart vu hi → r x lo hi H Q →
    ∃ T id, typeLookup (.type T) "__getitem__" = pure (some (.builtin id)) ∧ s.TypeIs v T ∧ wpAny (model X.prog X.w) X.A (getItem v (.ref sl)) (EP X pins σ Q) X.xe s
noncomputable def tSl (r : V → Option Int → Option Int → Hp → VK → Prop) (te : TE) (tl th : TO) : TE := fun σ H Q => te σ H fun x H1 => tl σ H1 fun l H2 => th σ H2 fun u H3 => r x l u H3 Q
theorem pe_slice {r : V → Option Int → Option Int → Hp → VK → Prop} (hr : SlR X r) (he : PE X e te) (hl : PO X lo tl) (hu : PO X hi th) : PE X (.Subscript e (.Slice lo hi none p2) pos) (tSl r te tl th) := by
  intro pins s σ H Q I h
  refine Subscript_ (thn (he pins s σ H _ I h) fun v s1 zz9 => ?_)
  obtain ⟨x, H1, I1, r1, q1⟩ := zz9
  refine wpAny_Slice (thn (hl pins s1 σ H1 _ I1 q1) fun vl s2 ⟨l, H2, I2, pl, q2⟩ => thn (hu pins s2 σ H2 _ I2 q2) fun vu s3 zz9 => ?_)
  obtain ⟨u, H3, I3, pu, q3⟩ := zz9
  rw [evalPart_none]
  refine wpAny_pure ?_
  have I4 : Inv X pins σ H3 { s3 with heap := s3.heap.push { cls := .type "slice", data := .fields #[vl, vu, .none] } } := I3.kept (t' := s3.toks) fun b ob q => Heap.get?_push_of_some _ q
  obtain ⟨T, id, hT, ht, hg⟩ := hr pins { s3 with heap := s3.heap.push { cls := .type "slice", data := .fields #[vl, vu, .none] } } σ H3 x v vl vu l u s3.heap.objs.size Q I4 r1 (Heap.IsSliceOf.new ..) pl pu q3
  show wpAny (model X.prog X.w) X.A (subscriptTail e (.Slice lo hi none p2) v (.ref s3.heap.objs.size)) (EP X pins σ Q) X.xe { s3 with heap := s3.heap.push { cls := .type "slice", data := .fields #[vl, vu, .none] } }
  exact tail_any (ops := [.ref s3.heap.objs.size, v]) ht hT hg (by with_unfolding_all rfl)
end
end L2

namespace L2
open PySem PySem.Spec PyProof.Rows

noncomputable def ixN (n : Nat) (i : Int) : Option Nat := if 0 ≤ i then (if i < n then some i.toNat else none) else if -(n : Int) ≤ i then some (i + n).toNat else none
noncomputable def atI {α : Type} (xs : List α) (i : Int) : Option α := (ixN xs.length i).bind fun j => xs[j]?
theorem ixN_seq {n : Nat} {i : Int} {j : Nat} (h : ixN n i = some j) : seqIndex? i n = some j ∧ j < n ∧ -(n : Int) ≤ i ∧ i < n := by
  unfold ixN at h
  by_cases h0 : 0 ≤ i
  · rw [if_pos h0] at h
    by_cases h1 : i < n
    · rw [if_pos h1] at h
      have e : i.toNat = j := Option.some.inj h
      exact ⟨by rw [seqIndex_of h0 h1, e], by omega, by omega, h1⟩
    · rw [if_neg h1] at h; cases h
  · rw [if_neg h0] at h
    by_cases h1 : -(n : Int) ≤ i
    · rw [if_pos h1] at h
      have e : (i + n).toNat = j := Option.some.inj h
      exact ⟨by rw [seqIndex_neg (by omega) h1, e], by omega, h1, by omega⟩
    · rw [if_neg h1] at h; cases h
theorem atI_get {α : Type} {xs : List α} {i : Int} {v : α} (h : atI xs i = some v) : ∃ j, seqIndex? i xs.length = some j ∧ xs[j]? = some v ∧ j < xs.length ∧ -(xs.length : Int) ≤ i ∧ i < xs.length := by
  unfold atI at h
  cases e : ixN xs.length i with
  | none => rw [e] at h; cases h
  | some j =>
    rw [e] at h
    obtain ⟨h1, h2, h3, h4⟩ := ixN_seq e
    exact ⟨j, h1, h, h2, h3, h4⟩
theorem atI_nat {α : Type} {xs : List α} {j : Nat} {v : α} (h : xs[j]? = some v) : atI xs (j : Int) = some v := by
  have hj : j < xs.length := (List.getElem?_eq_some_iff.mp h).1
  have e : ixN xs.length (j : Int) = some j := by
    unfold ixN
    rw [if_pos (by omega), if_pos (by omega)]; simp
  unfold atI; rw [e]; exact h
noncomputable def PlainIx (b : Expr) : Prop := ∀ o i, subscripted b false o i = operate [o, i] (getItem o i)
noncomputable def IxR (X : Cx) (r : R2) : Prop :=
  ∀ (value slice : Expr) (pins : List (Addr × Obj)) (s : Shared) (σ : St) (H : Hp) (x y : V) (v u : Value) (Q : VK), Inv X pins σ H s → ZE x v → ZE y u → r x y H Q →
    subscripted slice false v u = operate [v, u] (getItem v u) → wpAny (model X.prog X.w) X.A (subscriptTail value slice v u) (EP X pins σ Q) X.xe s
noncomputable def MtR (X : Cx) (id : String) (r : V → List V → Hp → VK → Prop) : Prop :=
  ∀ (pins : List (Addr × Obj)) (s : Shared) (σ : St) (H : Hp) (x : V) (xs : List V) (v : Value) (us : List Value) (Q : VK), Inv X pins σ H s → ZE x v → ZO xs us → r x xs H Q →
    wpAny (model X.prog X.w) X.A (call (.builtin id) (v :: us)) (EP X pins σ Q) X.xe s
section
variable {X : Cx} {a b : Expr} {ta tb : TE} {pos : Pos}
theorem Zt {r : R2} (hr : IxR X r) (ha : PE X a ta) (hb : PE X b tb) (hs : PlainIx b) : PE X (.Subscript a b pos) (tOp r ta tb) := by
  intro pins s σ H Q I h
  exact Subscript_ (binT ha hb I h fun v u s2 x y H2 I2 rx ry q => hr a b pins s2 σ H2 x y v u Q I2 rx ry q (hs _ _))
noncomputable def rIxL (K : PySem.W.Frag) : R2 := fun x y H Q => ∃ p xs i v, x = .ref p ∧ y = .int i ∧ SqL K H p xs ∧ atI xs i = some v ∧ Q v H
noncomputable def rIxT (K : PySem.W.Frag) : R2 := fun x y H Q => ∃ p xs i v, x = .ref p ∧ y = .int i ∧ SqT K H p xs ∧ atI xs i = some v ∧ Q v H
noncomputable def rIxS : R2 := fun x y H Q => ∃ z i c, x = .str z ∧ y = .int i ∧ z.length ≤ sizeLine ∧ atI z.cps.toList i = some c ∧ Q (.str ⟨#[c]⟩) H
theorem Ym : IxR X (rIxL X.K) := by
  intro value slice pins s σ H x y v u Q I rx ry h hs
  obtain ⟨p, xs, i, z, rfl, rfl, hq, he, q⟩ := h
  cases rx
  obtain ⟨t, rfl⟩ := ry
  obtain ⟨its, r, pl, hz⟩ := I.list hq
  obtain ⟨j, h1, h2, h3, h4, h5⟩ := atI_get he
  obtain ⟨w, ew, rw'⟩ := r.get h2
  have hl := r.length
  have hn := line63
  have fin : EP X pins σ Q w s := ⟨z, H, I, rw', q⟩
  by_cases h0 : 0 ≤ i
  · have hj : i.toNat = j := by
      rw [seqIndex_of h0 h5] at h1
      exact Option.some.inj h1
    exact item_listR pl.isList h0 (by omega) (by rw [hj]; simpa using ew) fin hs
  · have hj : (i + (its.toArray.size : Int)).toNat = j := by
      rw [seqIndex_neg (by omega) h4] at h1
      rw [List.size_toArray, ← hl]
      exact Option.some.inj h1
    exact subscriptTail_builtinR (x := w) pl.isList.typeIs slot_list_getitem.lookup
      (wpAny_getItem_list_neg (Q := fun r s' => r = w ∧ EP X pins σ Q r s') pl.isList (by omega) (by rw [List.size_toArray] <;> omega) (by omega) (by rw [hj]; simpa using ew) ⟨rfl, fin⟩) hs
theorem Zv : IxR X (rIxT X.K) := by
  intro value slice pins s σ H x y v u Q I rx ry h hs
  obtain ⟨p, xs, i, z, rfl, rfl, hq, he, q⟩ := h
  cases rx
  obtain ⟨t, rfl⟩ := ry
  obtain ⟨its, r, pl, hz⟩ := I.tuple hq
  obtain ⟨j, h1, h2, h3, h4, h5⟩ := atI_get he
  obtain ⟨w, ew, rw'⟩ := r.get h2
  have hl := r.length
  have hn := line63
  have fin : EP X pins σ Q w s := ⟨z, H, I, rw', q⟩
  exact subscriptTail_builtinR (x := w) pl.typeIs slot_tuple_getitem.lookup
    (getItem_tuple (j := j) (Q := fun r s' => r = w ∧ EP X pins σ Q r s') pl (by omega) (by omega) (by rw [List.size_toArray, ← hl]; exact h1) (by simpa using ew) ⟨rfl, fin⟩) hs
theorem ix_str : IxR X rIxS := by
  intro value slice pins s σ H x y v u Q I rx ry h hs
  obtain ⟨z, i, c, rfl, rfl, hz, he, q⟩ := h
  obtain ⟨t, rfl⟩ := rx
  obtain ⟨t', rfl⟩ := ry
  obtain ⟨j, h1, h2, h3, h4, h5⟩ := atI_get he
  have hl : z.cps.toList.length = z.length := by simp [Str.length]
  rw [hl] at h1 h4 h5
  have hn := line63
  exact tail_any (typeIs_str s z t) slot_str_getitem.lookup (getItem_str (c := c) (by
    have e1 : decide (i < -(2 ^ 63 : Int)) = false := decide_eq_false (by omega)
    have e2 : decide (i ≥ 2 ^ 63) = false := decide_eq_false (by omega)
    rw [e1, e2, Bool.or_false]) (by rw [h1]; simpa using h2) ⟨.str ⟨#[c]⟩, H, I.tok _, ⟨_, rfl⟩, q⟩) hs
theorem mapSeq_set (its : List Value) (n j : Nat) (u : Value) : Obj.mapSeq (·.setIfInBounds j u) { cls := .type "list", data := .seq its.toArray n } = { cls := .type "list", data := .seq (its.set j u).toArray n } := by
  simp [Obj.mapSeq]
theorem Inv.lst {pins : List (Addr × Obj)} {σ : St} {H : Hp} {s : Shared} {p : Addr} {xs : List V} (I : Inv X pins σ H s) (h : H p = some (.lst xs)) :
    ∃ (its : List Value) (n : Nat), ZO xs its ∧ s.heap.get? p = some { cls := .type "list", data := .seq its.toArray n } ∧ xs.length ≤ sizeLine := by
  obtain ⟨z, its, n, r, e⟩ := I.hok p _ h
  exact ⟨its, n, r, e, z⟩
theorem Inv.lstUpd {pins : List (Addr × Obj)} {σ : St} {H : Hp} {s : Shared} {p : Addr} {xs ys : List V} {its its' : List Value} {n n' : Nat} {f : Obj → Obj} (I : Inv X pins σ H s) (h : H p = some (.lst xs))
    (ho : s.heap.get? p = some { cls := .type "list", data := .seq its.toArray n }) (hf : f { cls := .type "list", data := .seq its.toArray n } = { cls := .type "list", data := .seq its'.toArray n' }) (r : ZO ys its') (hz : ys.length ≤ sizeLine) (t : Nat) :
    Inv X pins σ (upd H p (.lst ys)) { s with heap := s.heap.update p f, toks := t } := by
  have e : (s.heap.update p f).get? p = some { cls := .type "list", data := .seq its'.toArray n' } := by
    rw [Heap.get?_update_self f ho (by rw [hf] <;> rfl), hf]
  refine I.write (x := p) (e := p) (by rw [h]; trivial) (.inl rfl) (fun b u hb q => (Heap.get?_update_other _ _ (Ne.symm hb)).trans q) ⟨_, e⟩ ?_
  exact ⟨hz, its', n', r, e⟩
noncomputable def rSetL : V → V → V → Hp → (Hp → Prop) → Prop := fun o i v H Q => ∃ p xs k j, o = .ref p ∧ i = .int k ∧ H p = some (.lst xs) ∧ ixN xs.length k = some j ∧ Q (upd H p (.lst (xs.set j v)))
theorem set_list : PSet X rSetL := by
  intro pins s σ H o i v ov iv u Q I ro ri rv h
  obtain ⟨p, xs, k, j, rfl, rfl, hp, hj, q⟩ := h
  cases ro
  obtain ⟨t, rfl⟩ := ri
  obtain ⟨its, n, r, ho, hz⟩ := I.lst hp
  obtain ⟨h1, h2, h3, h4⟩ := ixN_seq hj
  have hl := r.length
  have hn := line63
  have I' : Inv X pins σ (upd H p (.lst (xs.set j v))) { s with heap := s.heap.update p (Obj.mapSeq (·.setIfInBounds j u)) } :=
    I.lstUpd hp ho (mapSeq_set its n j u) (r.set rv j) (by rw [List.length_set]; exact hz) s.toks
  by_cases h0 : 0 ≤ k
  · have hk : k.toNat = j := by
      rw [seqIndex_of h0 h4] at h1
      exact Option.some.inj h1
    exact PySem.W.ki_setAt ho h0 (by omega) (by rw [List.size_toArray, ← hl]; exact h4) (by rw [hk]; exact ⟨_, I', q⟩)
  · have hk : (k + (its.toArray.size : Int)).toNat = j := by
      rw [seqIndex_neg (by omega) h3] at h1
      rw [List.size_toArray, ← hl]
      exact Option.some.inj h1
    exact PySem.W.ki_setBack ho (by omega) (by rw [List.size_toArray, ← hl]; exact h3) (by omega) (by rw [hk]; exact ⟨_, I', q⟩)
noncomputable def flatV : V → Bool
  | .non => true
  | .bl _ => true
  | .int _ => true
  | .str _ => true
  | _ => false
noncomputable def eqV : V → V → Bool
  | .non, .non => true
  | .bl a, .bl b => a == b
  | .bl a, .int b => (if a then 1 else 0) == b
  | .int a, .bl b => a == (if b then 1 else 0)
  | .int a, .int b => a == b
  | .str a, .str b => a == b
  | _, _ => false
theorem eqAt_V {A : Around} {s : Shared} {y x : V} {u v : Value} (ry : ZE y u) (rx : ZE x v) (fy : flatV y = true) (fx : flatV x = true) : SeqAt.EqAt A s u v (eqV y x) := by
  cases y with
  | non =>
    cases ry
    cases x with
    | non => cases rx; exact SeqAt.EqAt.same _
    | bl b => cases rx; exact SeqAt.EqAt.none_bool b
    | int b => obtain ⟨t, rfl⟩ := rx; exact SeqAt.EqAt.none_int b t
    | str b => obtain ⟨t, rfl⟩ := rx; exact SeqAt.EqAt.none_str b t
    | _ => exact absurd (show false = true from fx) Bool.false_ne_true
  | bl a =>
    cases ry
    cases x with
    | non => cases rx; exact SeqAt.EqAt.bool_none a
    | bl b => cases rx; exact SeqAt.EqAt.bool_bool a b
    | int b => obtain ⟨t, rfl⟩ := rx; exact SeqAt.EqAt.bool_int a b t
    | str b => obtain ⟨t, rfl⟩ := rx; exact SeqAt.EqAt.bool_str a b t
    | _ => exact absurd (show false = true from fx) Bool.false_ne_true
  | int a =>
    obtain ⟨t', rfl⟩ := ry
    cases x with
    | non => cases rx; exact SeqAt.EqAt.int_none a t'
    | bl b => cases rx; exact SeqAt.EqAt.int_bool a t' b
    | int b => obtain ⟨t, rfl⟩ := rx; exact SeqAt.EqAt.int_int a t' b t
    | str b => obtain ⟨t, rfl⟩ := rx; exact SeqAt.EqAt.int_str a t' b t
    | _ => exact absurd (show false = true from fx) Bool.false_ne_true
  | str a =>
    obtain ⟨t', rfl⟩ := ry
    cases x with
    | non => cases rx; exact SeqAt.EqAt.str_none a t'
    | bl b => cases rx; exact SeqAt.EqAt.str_bool a t' b
    | int b => obtain ⟨t, rfl⟩ := rx; exact SeqAt.EqAt.str_int a t' b t
    | str b => obtain ⟨t, rfl⟩ := rx; exact SeqAt.EqAt.str_str a t' b t
    | _ => exact absurd (show false = true from fx) Bool.false_ne_true
  | _ => exact absurd (show false = true from fy) Bool.false_ne_true
noncomputable def eqU (x : V) (u : Value) : Bool := match u with
  | .none => eqV .non x
  | .bool b => eqV (.bl b) x
  | .int i _ => eqV (.int i) x
  | .str z _ => eqV (.str z) x
  | _ => false
theorem eqU_of {x y : V} {u : Value} (r : ZE y u) (f : flatV y = true) : eqU x u = eqV y x := by
  cases y with
  | non => cases r; rfl
  | bl b => cases r; rfl
  | int i => obtain ⟨t, rfl⟩ := r; rfl
  | str z => obtain ⟨t, rfl⟩ := r; rfl
  | _ => exact absurd (show false = true from f) Bool.false_ne_true
theorem any_eqU {x : V} : ∀ {xs : List V} {us : List Value}, ZO xs us → xs.all flatV = true → us.any (eqU x) = xs.any fun y => eqV y x
  | _, _, .nil, _ => rfl
  | y :: xs, u :: us, .cons r t, f => by
    rw [List.all_cons, Bool.and_eq_true] at f
    rw [List.any_cons, List.any_cons, eqU_of r f.1, any_eqU t f.2]
theorem mem_eqAt {A : Around} {s : Shared} {x : V} {v : Value} (rx : ZE x v) (fx : flatV x = true) : ∀ {xs : List V} {us : List Value}, ZO xs us → xs.all flatV = true → ∀ u ∈ us, SeqAt.EqAt A s u v (eqU x u)
  | _, _, .nil, _ => fun u hu => by cases hu
  | y :: xs, u :: us, .cons r t, f => fun u' hu => by
    rw [List.all_cons, Bool.and_eq_true] at f
    rcases List.mem_cons.mp hu with rfl | hu
    · rw [eqU_of r f.1]; exact eqAt_V r rx f.1 fx
    · exact mem_eqAt rx fx t f.2 u' hu
noncomputable def inV (x : V) (xs : List V) : Bool := xs.any fun y => eqV y x
noncomputable def rIn (K : PySem.W.Frag) (neg : Bool) : R2 := fun x y H Q => ∃ p xs, y = .ref p ∧ (SqL K H p xs ∨ SqT K H p xs) ∧ flatV x = true ∧ xs.all flatV = true ∧ Q (.bl (if neg then !inV x xs else inV x xs)) H
theorem op_notIn_seq : OpR X (compareOp .NotIn) (rIn X.K true) := by
  intro pins s σ H x y v u Q I rx ry h
  obtain ⟨p, xs, rfl, hq, fx, fs, q⟩ := h
  cases ry
  rcases hq with hq | hq
  · obtain ⟨its, r, pl, hz⟩ := I.list hq
    refine SeqAt.notIn_listAt (eqU x) pl.isList (fun w hw => mem_eqAt rx fx r fs w (by simpa using hw)) ⟨.bl _, H, I, rfl, ?_⟩
    rw [show its.toArray.any (eqU x) = its.any (eqU x) by simp, any_eqU r fs]
    exact q
  · obtain ⟨its, r, pl, hz⟩ := I.tuple hq
    refine SeqAt.notIn_tupleAt (eqU x) pl (fun w hw => mem_eqAt rx fx r fs w (by simpa using hw)) ⟨.bl _, H, I, rfl, ?_⟩
    rw [show its.toArray.any (eqU x) = its.any (eqU x) by simp, any_eqU r fs]
    exact q
theorem call_list_of : Jw X (.type "list") (fun xs H Q => ∃ p ys, xs = [.ref p] ∧ (SqL X.K H p ys ∨ SqT X.K H p ys) ∧ ∀ l, H l = none → Q (.ref l) (upd H l (.lst ys))) := by
  intro pins s σ H xs us Q I r h
  obtain ⟨p, ys, rfl, hq, q⟩ := h
  obtain ⟨u, rfl, rx⟩ := vals1 r
  cases rx
  have fin : ∀ (its : List Value), ZO ys its → ys.length ≤ sizeLine → ∀ (h' : Heap) (c' : Nat), (∀ b o', s.heap.get? b = some o' → h'.get? b = some o') →
      h'.get? s.heap.objs.size = some { cls := .type "list", dict := none, data := .seq its.toArray c', slots := #[] } → EP X pins σ Q (.ref s.heap.objs.size) { s with heap := h' } := fun its r' hz h' c' kp e =>
    ⟨.ref s.heap.objs.size, _, I.laid (t' := s.toks) kp (Nat.le_refl _) (show Z4 X.prog X.w _ h' _ (.lst ys) from ⟨hz, its, c', r', e⟩), rfl, q _ (I.hok.fresh (Nat.le_refl _))⟩
  rcases hq with hq | hq
  · obtain ⟨its, r', pl, hz⟩ := I.list hq
    have hlen := r'.length
    obtain ⟨o, ho, hc, n, hd⟩ := pl.isList
    exact call_list_seq p (.inl rfl) ho hc hd (fun h' c' kp e => fin its r' hz h' c' kp e) (by simp only [List.size_toArray] <;> omega)
  · obtain ⟨its, r', pl, hz⟩ := I.tuple hq
    have hlen := r'.length
    obtain ⟨o, ho, hc, n, hd⟩ := pl
    exact call_list_seq p (.inr rfl) ho hc hd (fun h' c' kp e => fin its r' hz h' c' kp e) (by simp only [List.size_toArray] <;> omega)
noncomputable def tyV (K : PySem.W.Frag) (T : String) (x : V) (H : Hp) : Prop := match x with
  | .str _ => T = "str"
  | .int _ => T = "int"
  | .ref p => (T = "list" ∧ ∃ xs, SqL K H p xs) ∨ (T = "tuple" ∧ ∃ o, K.lookup p = some o ∧ o.cls = .type "tuple" ∧ o.dict = none) ∨
      (T = "dict" ∧ ((∃ kvs, H p = some (.dK kvs)) ∨ ∃ kvs, H p = some (.dT kvs))) ∨ (T = "set" ∧ ∃ S n, H p = some (.set S n))
  | _ => False
theorem tyV_is {pins : List (Addr × Obj)} {σ : St} {H : Hp} {s : Shared} {T : String} {x : V} {v : Value} (I : Inv X pins σ H s) (r : ZE x v) (ty : tyV X.K T x H) :
    s.TypeIs v T ∧ ∀ a, v = .ref a → ∃ ob, s.heap.get? a = some ob ∧ ob.dict = none := by
  cases x with
  | str z =>
    obtain ⟨t, rfl⟩ := r
    cases (show T = "str" from ty)
    exact ⟨typeIs_str s z t, fun _ e => nomatch e⟩
  | int i =>
    obtain ⟨t, rfl⟩ := r
    cases (show T = "int" from ty)
    exact ⟨typeIs_int s i t, fun _ e => nomatch e⟩
  | ref p =>
    cases r
    rcases ty with ⟨rfl, xs, hq⟩ | ⟨rfl, o, hk, hc, hd⟩ | ⟨rfl, hk⟩ | ⟨rfl, S, n, hk⟩
    · obtain ⟨its, _, pl, _⟩ := I.list hq
      refine ⟨pl.isList.typeIs, fun a e => ?_⟩
      cases e
      obtain ⟨o, n, e, c, hd, _⟩ := pl
      exact ⟨o, e, hd⟩
    · refine ⟨⟨o, I.kIn p o hk, hc⟩, fun a e => ?_⟩
      cases e
      exact ⟨o, I.kIn _ o hk, hd⟩
    · have z : ∃ o, s.heap.get? p = some o ∧ o.ExactDict := by
        rcases hk with ⟨kvs, hk⟩ | ⟨kvs, hk⟩
        · obtain ⟨_, _, _, _, o, _, _, e, ex, _⟩ := I.hok p _ hk
          exact ⟨o, e, ex⟩
        · obtain ⟨_, _, _, _, o, _, _, e, ex, _⟩ := I.hok p _ hk
          exact ⟨o, e, ex⟩
      obtain ⟨o, e, ex⟩ := z
      refine ⟨⟨o, e, ex.1⟩, fun a e2 => ?_⟩
      cases e2
      exact ⟨o, e, ex.2.1⟩
    · obtain ⟨o, _, _, _, e, ex, _⟩ := I.hok p _ hk
      refine ⟨⟨o, e, ex.1⟩, fun a e2 => ?_⟩
      cases e2
      exact ⟨o, e, ex.2.1⟩
  | _ => exact False.elim ty
noncomputable def tBM (K : PySem.W.Frag) (T : String) (r : V → List V → Hp → VK → Prop) (to : TE) (t : TA) : TE := fun σ H Q => to σ H fun x H1 => tyV K T x H1 ∧ t σ H1 fun xs H2 => r x xs H2 Q
variable {o e : Expr} {es : List Expr} {to : TE} {t : TA} {name : Str} {apos cpos : Pos} {T id : String} {r : V → List V → Hp → VK → Prop}
theorem JX (pa : PlainAttrs T) (slot : Slot T name id) (hty : typeOf (.builtin id) = pure (.type "method_descriptor")) (hm : MtR X id r) (ho : PE X o to) (ha : PA X (e :: es) t)
    (hbase : attributeBase o name X.env (eval o X.env) = eval o X.env := by rfl)
    (hfew : ((backTo cpos (starEach (e :: es) X.env)).all (fun x => !x.1) && (backToKw cpos (keywordEach [] X.env)).all (fun x => x.1.isSome)
      && decide ((e :: es).length + ([] : List Keyword).length + (if ([] : List Keyword).isEmpty then 0 else 1) < 30)) = true := by rfl)
    (hline : (apos.endLine == cpos.line) = true := by rfl) (hs : starEach (e :: es) X.env = (false, eval e X.env) :: starEach es X.env := by rfl) (hplain : (backTo cpos (starEach es X.env)).any (·.1) = false := by rfl) :
    PE X (.Call (.Attribute o name apos) (e :: es) [] cpos) (tBM X.K T r to t) := by
  intro pins s σ H Q I h
  refine wpAny_Call_method_late hbase hfew hline rfl (thn (ho pins s σ H _ I h) fun v s1 zz9 => ?_)
  obtain ⟨x, H1, I1, r1, ty, q1⟩ := zz9
  obtain ⟨h1, h2⟩ := tyV_is I1 r1 ty
  refine ⟨T, id, pa, slot, hty, h1, h2, ?_⟩
  have hA := ha cpos pins s1 σ H1 _ I1 q1
  rw [hs] at hA ⊢
  refine Calls.callWith_builtin (by show (false || (backTo cpos (starEach es X.env)).any (·.1)) = false; rw [hplain] <;> rfl) (Calls.evalArgs_plain ?_)
  exact thn hA fun us s2 ⟨vs, H2, I2, r2, q2⟩ => hm pins s2 σ H2 x vs v us Q I2 r1 r2 q2
/- xs.append(e), list.index on a module's tuple .. are MtR facts of 06m -/
end
end L2

namespace L2
open PySem PySem.Spec PyProof.Rows

noncomputable def MtM (X : Cx) (id : String) (r : V → List V → Hp → VK → Prop) : Prop :=
  ∀ (pins : List (Addr × Obj)) (s : Shared) (σ : St) (H : Hp) (x : V) (xs : List V) (v : Value) (us : List Value) (Q : VK), Inv X pins σ H s → ZE x v → ZO xs us → r x xs H Q →
    wpAny (model X.prog X.w) X.A (call (.builtin id) (v :: us)) (EP X pins σ Q) X.xe s
theorem ZO.one : ∀ {x : V} {us : List Value}, ZO [x] us → ∃ u, us = [u] ∧ ZE x u
  | _, _, .cons r .nil => ⟨_, rfl, r⟩
section
variable {X : Cx} {pins : List (Addr × Obj)} {σ : St} {H : Hp} {s : Shared} {l b : Addr} {xs ys zs : List V}

theorem Inv.lset {its its' : List Value} {n : Nat} {f : Array Value → Array Value} {t' : Nat} (I : Inv X pins σ H s) (hH : H l = some (.lst xs))
    (e : s.heap.get? l = some { cls := .type "list", data := .seq its.toArray n }) (hf : f its.toArray = its'.toArray) (hv : ZO ys its') (hz : ys.length ≤ sizeLine) :
    Inv X pins σ (upd H l (.lst ys)) { s with heap := s.heap.update l (Obj.mapSeq f), toks := t' } := by
  have q := PySem.IsL.update e f
  rw [hf] at q
  refine I.write (x := l) (e := l) (by rw [hH]; exact trivial) (.inl rfl) (fun b' u hb hu => (Heap.get?_update_other s.heap (Obj.mapSeq f) (Ne.symm hb)).trans hu) ⟨_, q⟩ ?_
  exact ⟨hz, its', _, hv, q⟩
theorem Inv.lnew {its : List Value} {t' : Nat} (I : Inv X pins σ H s) (hv : ZO ys its) (hz : ys.length ≤ sizeLine) :
    Inv X pins σ (upd H s.heap.objs.size (.lst ys)) { s with heap := s.heap.push { cls := .type "list", data := .seq its.toArray }, toks := t' } :=
  I.laid (fun _ _ q => Heap.get?_push_of_some _ q) (Nat.le_refl _) ⟨hz, its, 0, hv, Heap.get?_push_size _ rfl⟩
theorem Inv.fresh (I : Inv X pins σ H s) : H s.heap.objs.size = none := I.hok.fresh (Nat.le_refl _)
theorem Inv.lstM (I : Inv X pins σ H s) (hH : H l = some (.lst xs)) : xs.length ≤ sizeLine ∧ ∃ (its : List Value) (n : Nat), ZO xs its ∧ xs.length = its.length ∧ s.heap.get? l = some { cls := .type "list", data := .seq its.toArray n } := by
  obtain ⟨z, its, n, r, e⟩ := I.hok l _ hH
  exact ⟨z, its, n, r, r.length, e⟩
end

section
variable {X : Cx}

noncomputable def rAppend : V → List V → Hp → VK → Prop := fun x vs H Q => ∃ l xs y, x = .ref l ∧ vs = [y] ∧ H l = some (.lst xs) ∧ xs.length < sizeLine ∧ Q .non (upd H l (.lst (xs ++ [y])))
theorem XF : MtM X "list.append" rAppend := by
  intro pins s σ H x vs v us Q I rx rv h
  obtain ⟨l, xs, y, rfl, rfl, hH, hz, q⟩ := h
  cases rx
  obtain ⟨u, rfl, ru⟩ := rv.one
  obtain ⟨z, its, n, r, hl, e⟩ := I.lstM hH
  refine call_meets F.slot_list_append ⟨_, e, rfl⟩ F.entry_list_append (F.args_list_append_2 _ _) (PySem.list_append l its.toArray n u (by rw [List.size_toArray]; omega)) ⟨e, ?_⟩
  refine ⟨.non, _, I.lset (its' := its ++ [u]) hH e (by simp) (r.append (.cons ru .nil)) ?_, rfl, q⟩
  rw [List.length_append, List.length_singleton]
  omega
noncomputable def rCat : R2 := fun x y H Q => ∃ l b xs zs, x = .ref l ∧ y = .ref b ∧ H l = some (.lst xs) ∧ H b = some (.lst zs) ∧ xs.length + zs.length ≤ sizeLine ∧ ∀ p, H p = none → Q (.ref p) (upd H p (.lst (xs ++ zs)))
theorem op_cat : OpR X (binaryOp .Add) rCat := by
  intro pins s σ H x y v u Q I rx ry h
  obtain ⟨l, b, xs, zs, rfl, rfl, hH, hB, hz, q⟩ := h
  cases rx
  cases ry
  obtain ⟨z, its, n, r, hl, e⟩ := I.lstM hH
  obtain ⟨z2, its2, n2, r2, hl2, e2⟩ := I.lstM hB
  refine PySem.P.add_list e e2 ?_ (by rw [List.size_toArray, List.size_toArray]; omega)
  have ea : its.toArray ++ its2.toArray = (its ++ its2).toArray := by simp
  rw [ea]
  exact ⟨.ref _, _, I.lnew (t' := s.toks) (r.append r2) (by rw [List.length_append]; omega), rfl, q _ I.fresh⟩
end

section
variable {prog : Program} {w : World} {A : Around} {E : Value → Shared → Prop} {s : Shared}
end

section
variable {X : Cx}
end
end L2

namespace Att
open PySem PySem.W PySem.Calls PyProof.Rows

theorem ints_of_wellAll {P : Params} {h : Heap} : ∀ (ns : List Int) (vs : List Value), WellAll P h vs (ns.map WData.int) → IntsAre vs ns := by
  intro ns
  induction ns with
  | nil =>
    intro vs w
    rw [List.map_nil] at w
    cases w
    exact .nil
  | cons n ns ih =>
    intro vs w
    rw [List.map_cons] at w
    cases w with
    | cons a b =>
      cases a
      exact .cons _ _ (ih _ b)
theorem script_of {l : OpenLaw} {n : Nat} (hn : l.most = some n) {P : Params} {h : Heap} {args : List WData} {vals : List Value}
    (hpre : l.row.toRowW.claim.pre args = true) (hwl : WellAll P h vals args) :
    ∃ a vs ns, vals = [Value.ref a] ∧ args = [WData.list (ns.map WData.int)] ∧ h.get? a = some { cls := .type "list", data := .seq vs.toArray } ∧ IntsAre vs ns ∧ ns.length ≤ n := by
  have hsh : WShape.hasAll [] args [.list .int] = true := (pre_splitW hpre).1
  have hc : l.pre.holds [] { args := args } = true := (pre_splitW hpre).2
  obtain ⟨d, r, rfl, h1, h2⟩ := hasAllW_cons hsh
  obtain rfl := hasAllW_nil h2
  obtain ⟨xs, rfl, h3⟩ := hasW_list h1
  obtain ⟨ns, rfl⟩ := items_int h3
  have hlen : ns.length ≤ n := by
    unfold OpenLaw.pre at hc
    have h4 : (WTm.not (.lt (.lit (.int (n : Int))) (.len (.arg 0)))).holds [] { args := [.list (ns.map .int)] } = true := by
      have h4 := (holds_andW hc).1
      rw [hn] at h4
      exact h4
    have h5 := condW_of h4 (w_not (w_lt w_lit (w_len_list (w_arg rfl))))
    rw [List.length_map] at h5
    refine Nat.le_of_not_lt fun q => ?_
    have q' : (n : Int) < ((ns.length : Nat) : Int) := by omega
    first
      | (rw [decide_eq_true q'] at h5; exact absurd h5 (by decide))
      | (simp at h5; omega)
  cases hwl with
  | cons w1 w2 =>
    cases w2
    cases w1 with
    | list ho hall => exact ⟨_, _, ns, rfl, rfl, ho, ints_of_wellAll ns _ hall, hlen⟩
theorem post_true (l : OpenLaw) (args : List WData) : l.row.toRowW.claim.post args (.bool true) args = true :=
  postW_of (r := l.row.toRowW) (X := (true == true))
    (show WShape.has [] (.bool true) .bool = true by first | rfl | decide | simp [WShape.has, WShape.arms, WShape.armsAll])
    (show (WTm.eq .res (.lit (.bool true))).value [] { args := args, res := some (.bool true), after := args } = some (.bool (true == true)) from w_eq_bool (w_res rfl) w_lit) rfl
theorem attach_call {l : OpenLaw} {n : Nat} {q : Program} {loose : List Str} {XP : (Str → Option Value) → Heap → Prop} {YP : World → Heap → Prop} {d : DefRec}
    (hn : l.most = some n) (hdf : d.params.defaults = [])
    (call : ∀ (w : World) (s₀ s₁ : Shared) (mg mb : Str → Option Value) (fa : Addr) (o : Obj) (pm cd doc : Value) (a : Addr) (vs : List Value) (ns : List Int),
      Ground q loose [] XP w s₀ mg mb s₁.heap → YP w s₁.heap →
      s₁.heap.get? fa = some o → o.data = .func (docDef d.name d.params d.body d.scope pm cd doc) → s₁.heap.CodeRec cd d.name → mg d.name = some (.ref fa) →
      s₁.heap.get? a = some { cls := .type "list", data := .seq vs.toArray } → IntsAre vs ns → ns.length ≤ n → s₁.gens = #[] →
      codeAny (model l.prog w) callerA (.call (.ref fa) ⟨[.ref a], []⟩) (fun r s' => r = .ok (.ret (.bool true)) ∧ OldK s₁.heap s'.heap ∧ s'.os = s₁.os ∧ AllBare s'.gens) s₁) :
    WalkO q loose XP YP l.row.toRowW d [] (fun f vs => PySem.call f vs) := by
  intro w s₀ s₁ mg mb G Y fa o pm cd doc dV kV ho hd hcd hD hmg hg args vals as hpre hlay hrd hwl hlo
  obtain rfl : dV = .none := Dflts.none hD hdf
  obtain rfl : kV = .none := Dflts.noKw hD
  obtain ⟨a, vs, ns, rfl, rfl, hobj, hints, hlen⟩ := script_of hn hpre hwl
  refine enter_call (codeAny_mono (call w s₀ s₁ mg mb fa o pm cd doc a vs ns G Y ho (fd_plain hd) hcd hmg hobj hints hlen hg) fun r s' hq => ?_)
  obtain ⟨rfl, h2, h3, h4⟩ := hq
  exact ⟨.inl ⟨.bool true, .bool true, [], rfl, fun _ => rfl, .bool true, post_true l _, fun _ => ⟨List.Pairwise.nil, fun _ hm => (nomatch hm)⟩⟩, h2, h3, h4⟩
section
variable {prog : Program} {w : World} {A : Around} {E : Value → Shared → Prop} {s : Shared} {K : Frag}

end
end Att

namespace L2
open PySem PySem.Spec PyProof.Rows

theorem vals_ints : ∀ {vs : List Value} {ns : List Int}, IntsAre vs ns → ZO (ns.map V.int) vs
  | _, _, .nil => .nil
  | _, _, .cons n t h => .cons ⟨t, rfl⟩ (vals_ints h)
noncomputable def Only (H : Hp) : Prop := ∀ b, H b = none ∨ ∃ o xs, H b = some (.frz o (.lst xs))
theorem law_call {P : Program} {w : World} {K : PySem.W.Frag} {mg mb : Str → Option Value} {CX : CXT} {k : Nat} {fa a : Addr} {fd : FuncData} {x : Str} {sp : Sp} {s₁ : Shared} {vs : List Value} {ns : List Int}
    (KX : K.In s₁.heap) (hns : s₁.heap.Ns mainGlobals mg) (hb : s₁.heap.Ns builtinsNs mb) (hbb : ∀ x : Str, x ≠ "__name__" → mb x = bootBuiltins x) (hlim : s₁.heap.NoLimit) (hg : s₁.gens = #[])
    (ha : s₁.heap.get? a = some { cls := .type "list", data := .seq vs.toArray }) (hi : IntsAre vs ns) (hl : ns.length ≤ sizeLine) (hr : Room k callerA)
    (F : ∀ base : Heap, K.In base → base.Ns mainGlobals mg → FnOk P w K mg base CX k fa fd [x] sp) (hbind : ∀ (s : Shared) (u : Value), BindsTo s fd ⟨[u], []⟩ [(x, u)])
    (hsp : ∀ H : Hp, Only H → SqL K H a (ns.map V.int) → sp [.ref a] H (fun v _ => v = .bl true) fun _ _ _ => False)
    (hCX : ∀ H e s', CX [] H s₁ (fun _ _ _ => False) e s' → False) :
    codeAny (model P w) callerA (.call (.ref fa) ⟨[.ref a], []⟩) (fun r s' => r = .ok (.ret (.bool true)) ∧ OldK s₁.heap s'.heap ∧ s'.os = s₁.os ∧ AllBare s'.gens) s₁ := by
  have rv := vals_ints hi
  have lenV := hi.length
  -- from an abstract heap in which nothing but the script may be tracked
  have core : ∀ H : Hp, Only H → SqL K H a (ns.map V.int) → HOk P w H s₁.heap → (∀ b, H b ≠ none → b = a) → (H a ≠ none → K.lookup a = none) →
      codeAny (model P w) callerA (.call (.ref fa) ⟨[.ref a], []⟩) (fun r s' => r = .ok (.ret (.bool true)) ∧ OldK s₁.heap s'.heap ∧ s'.os = s₁.os ∧ AllBare s'.gens) s₁ := by
    intro H hO hS hok hA hK
    have base_of : ∀ {b : Addr} {o : Obj}, s₁.heap.get? b = some o → H b = none → (hidT s₁.heap H).get? b = some o := fun e n => hidT_get e n
    have noA : ∀ {b : Addr} {o : Obj} {es : Array DictEntry} {ep : Nat}, s₁.heap.get? b = some o → o.data = .dict es ep → H b = none := fun {b o es ep} e d => by
      cases q : H b with
      | none => rfl
      | some u =>
        have e' : b = a := hA b (by rw [q]; simp)
        subst e'
        rw [ha] at e; cases e
        have d' : Data.seq vs.toArray _ = Data.dict es ep := d
        cases d'
    have nsK : ∀ {b : Addr} {m : Str → Option Value}, s₁.heap.Ns b m → (hidT s₁.heap H).Ns b m := fun {b m} ⟨o, es, ep, e, d, r⟩ => ⟨o, es, ep, base_of e (noA e d), d, r⟩
    have hKb : K.In (hidT s₁.heap H) := fun b o e => base_of (KX b o e) (by
      cases q : H b with
      | none => rfl
      | some u =>
        have e' : b = a := hA b (by rw [q]; simp)
        subst e'
        rw [hK (by rw [q]; simp)] at e; cases e)
    have hM : Mod K mg (hidT s₁.heap H) := ⟨hKb, nsK hns, ⟨mb, nsK hb, hbb⟩, let ⟨mc, h1, h2⟩ := hlim; ⟨mc, nsK h1, h2⟩⟩
    have e0 : Env0 P w K mg (hidT s₁.heap H) callerA [] s₁ H := ⟨rfl, hM, fun b o e => of_hidT e, Nat.le_of_eq (hidT_size _ _), trivial, fun b hb => absurd (show b ∈ ([] : List Addr) from hb) (by simp), hok, .of_eq hg⟩
    refine codeAny_mono ((F _ hKb (nsK hns)).run callerA [] s₁ H ⟨[.ref a], []⟩ [.ref a] [.ref a] _ _ hr e0 (hbind s₁ (.ref a)) (.cons rfl .nil) (hsp H hO hS)) fun r s' h => ?_
    cases r with
    | error e => exact (hCX H e s' h).elim
    | ok fl =>
      cases fl with
      | next => exact False.elim h
      | brk => exact False.elim h
      | cont => exact False.elim h
      | ret u =>
        obtain ⟨v, H', os, bare, un, hok', r', q⟩ := h
        have q' : v = .bl true := q
        subst q'
        obtain rfl : u = Value.bool true := r'
        refine ⟨rfl, OldK.of_keep fun b o e => ?_, os, bare⟩
        cases q : H b with
        | none => exact un.keep b o e q (by intro z; exact absurd (show b ∈ ([] : List Addr) from z) (by simp)) (by simp)
        | some u =>
          rcases hO b with z | ⟨ob, xs, z⟩
          · rw [q] at z; cases z
          · have z2 := un.frzs b ob _ z
            obtain ⟨e1, _⟩ := hok b _ z
            obtain ⟨e2, _⟩ := hok' b _ z2
            rw [e] at e1; cases e1
            exact e2
  cases hk : K.lookup a with
  | some o =>
    -- the script is one of the module's own objects
    have e := KX a o hk
    rw [ha] at e
    cases e
    refine core (fun _ => none) (fun _ => .inl rfl) (.inr ⟨_, vs.toArray, _, hk, rfl, rfl, rfl, by rw [List.size_toArray, lenV]; exact hl, by simpa using rv⟩) (fun b u z => by have z' : (none : Option HO) = some u := z; cases z') (fun b z => absurd rfl z) fun z => absurd rfl z
  | none =>
    refine core (fun b => if b = a then some (.frz { cls := .type "list", data := .seq vs.toArray } (.lst (ns.map V.int))) else none) (fun b => ?_) (.inl (.inr ⟨{ cls := .type "list", data := .seq vs.toArray }, if_pos rfl⟩)) (fun b u z => ?_) (fun b z => ?_) fun _ => hk
    · by_cases hb : b = a
      · exact .inr ⟨_, _, if_pos hb⟩
      · exact .inl (if_neg hb)
    · by_cases hb : b = a
      · have z' := (if_pos hb).symm.trans z
        cases z'
        subst hb
        exact ⟨ha, by rw [List.length_map]; exact hl, vs, _, rv, ha⟩
      · have z' := (if_neg hb).symm.trans z
        cases z'
    · by_cases hb : b = a
      · exact hb
      · exact absurd (if_neg hb) z
end L2

namespace L2
open PySem PySem.Spec PyProof.Rows

theorem walk_of {l : PySem.W.OpenLaw} {n k : Nat} {q : Program} {loose : List Str} {XP : (Str → Option Value) → Heap → Prop} {YP : World → Heap → Prop} {d : DefRec} {K : Params → PySem.W.Frag} {CX : World → CXT} {sp : World → Sp} {x : Str}
    (hn : l.most = some n) (hn2 : n ≤ sizeLine) (hdf : d.params.defaults = []) (hr : Room k callerA)
    (hY : ∀ (w : World) (h : Heap), YP w h → (K w.params).In h)
    (F : ∀ (w : World) (mg : Str → Option Value) (fa : Addr) (h : Heap), (K w.params).In h → h.Ns mainGlobals mg → mg d.name = some (.ref fa) →
      ∃ fd : FuncData, (∀ (s : Shared) (u : Value), BindsTo s fd ⟨[u], []⟩ [(x, u)]) ∧
        ∀ base : Heap, (K w.params).In base → base.Ns mainGlobals mg → FnOk l.prog w (K w.params) mg base (CX w) k fa fd [x] (sp w))
    (hsp : ∀ (w : World) (H : Hp) (a : Addr) (ns : List Int), ns.length ≤ n → Only H → SqL (K w.params) H a (ns.map V.int) → sp w [.ref a] H (fun v _ => v = .bl true) fun _ _ _ => False)
    (hCX : ∀ (w : World) (H : Hp) (s : Shared) (e : Value) (s' : Shared), CX w [] H s (fun _ _ _ => False) e s' → False) :
    PySem.W.WalkO q loose XP YP l.row.toRowW d [] (fun f vs => PySem.call f vs) := by
  refine Att.attach_call hn hdf fun w s₀ s₁ mg mb fa o pm cd doc a vs ns G Y ho hd hcd hmg hobj hints hlen hg => ?_
  have KX := hY w _ Y
  obtain ⟨fd, hb, hF⟩ := F w mg fa _ KX G.T.g hmg
  exact law_call KX G.T.g G.T.b G.T.builtins G.T.nolimit hg hobj hints (Nat.le_trans hlen hn2) hr hF hb (fun H hO hS => hsp w H a ns hlen hO hS) fun H e s' => hCX w H s₁ e s'
end L2

namespace L2
open PySem PySem.Spec PyProof.Rows

noncomputable def Zj (s : Stmt) : Arguments := match s with
  | .FunctionDef _ a _ _ _ _ _ _ _ _ => a
  | _ => { posonlyargs := [], args := [], vararg := none, kwonlyargs := [], kw_defaults := [], kwarg := none, defaults := [] }
noncomputable def Zi (s : Stmt) : List Stmt := match s with
  | .FunctionDef _ _ b _ _ _ _ _ _ _ => b
  | _ => []
noncomputable def Zb (s : Stmt) : Scope := match s with
  | .FunctionDef _ _ _ _ _ _ sc _ _ _ => sc
  | _ => { kind := .function, names := [], isGenerator := false, isCoroutine := false }
noncomputable abbrev CX0 : CXT := fun _ _ _ _ _ _ => False
noncomputable abbrev E0 : XK := fun _ _ _ => False
theorem Jn {X : Cx} : Jb CX0 X E0 := fun _ _ _ _ _ _ _ h => h.elim
structure Fun (K : PySem.W.Frag) (x qual : Str) (st : Stmt) (f : Addr) (fd : FuncData) : Prop where
  ex : ∃ (oc : Value) (od : Option Addr) (kV doc pm : Value) (an : Option Addr) (cdv ct : Value) (osl : Array (Option Value)),
    fd = PySem.W.fnOf x qual (Zj st) (Zi st) (Zb st) .none kV doc pm an cdv ct ∧ K.lookup f = some ⟨oc, od, .func fd, osl⟩ ∧ PySem.W.codeIn K cdv qual = true
  kp : PySem.W.keepIn K (.ref f) = true
section
variable {P : Program} {w : World} {K : PySem.W.Frag} {mg : Str → Option Value} {base : Heap}
theorem Fun.ok {x qual : Str} {st : Stmt} {f : Addr} {fd : FuncData} {N ps : List Str} {k : Nat} {sp : Sp} (F : Fun K x qual st f fd) (S : FnScope N ps (Zb st)) (len : ∀ vs H Q E, sp vs H Q E → vs.length = ps.length)
    (hbody : ∀ (cdv : Value) (A : Around) (outer : List Env) (s : Shared) (H : Hp) (vs : List V) (Q : VK) (E : XK), Room k (A.deeper (envOfC qual (Zb st) s.heap.objs.size f cdv)) → sp vs H Q E →
      ∃ t, PSs (Xn CX0 P w K mg base N qual (Zb st) f cdv A outer s H E).nox (Zi st) t ∧ t { nx := fun _ H' => Q .non H', rt := Q } (start N vs) H) : FnOk P w K mg base CX0 (k + 1) f fd ps sp := by
  obtain ⟨oc, od, kV, doc, pm, an, cdv, ct, osl, rfl, lk, hcd⟩ := F.ex
  refine fn_of lk hcd S len fun A outer s H vs Q E hr hsp => ?_
  obtain ⟨t, h, q⟩ := hbody cdv A outer s H vs Q E hr hsp
  exact ⟨t, h.nox, q⟩
theorem Fun.binds {x qual : Str} {st : Stmt} {f : Addr} {fd : FuncData} {ps : List Str} (F : Fun K x qual st f fd)
    (h : ∀ (kV doc pm : Value) (an : Option Addr) (cdv ct : Value) (us : List Value), us.length = ps.length → bindArgs (PySem.W.fnOf x qual (Zj st) (Zi st) (Zb st) .none kV doc pm an cdv ct) ⟨us, []⟩ = pure (ps.zip us)) : Binds K fd ps [] := by
  obtain ⟨oc, od, kV, doc, pm, an, cdv, ct, osl, rfl, lk, hcd⟩ := F.ex
  exact .all (h kV doc pm an cdv ct)
theorem Zq {x qual : Str} {st : Stmt} {f : Addr} {oc : Value} {od an : Option Addr} {osl : Array (Option Value)} {kV doc pm cdv ct : Value} (l : K.lookup f = some ⟨oc, od, .func (PySem.W.fnOf x qual (Zj st) (Zi st) (Zb st) .none kV doc pm an cdv ct), osl⟩)
    (c : PySem.W.codeIn K cdv qual = true) (k : PySem.W.keepIn K (.ref f) = true) : Fun K x qual st f (PySem.W.fnOf x qual (Zj st) (Zi st) (Zb st) .none kV doc pm an cdv ct) := ⟨⟨oc, od, kV, doc, pm, an, cdv, ct, osl, rfl, l, c⟩, k⟩
end
theorem ZW {A : Around} {k : Nat} (hr : Room k A) : A.units + 1 < cLine := Nat.lt_of_le_of_lt (Nat.add_le_add_left (by decide : 1 ≤ 64) _) hr.units
theorem ZB {n : Nat} (h : n ≤ 1000) : n < sizeLine := Nat.lt_of_le_of_lt h (by decide)
section
variable {X : Cx}
theorem pv (i : Nat) {x : Str} {pos : Pos} (hN : X.N[i]? = some x := by rfl) (hv : Vis X.env.scope x := by first | exact Or.inl rfl | exact Or.inr (Or.inl rfl) | exact Or.inr (Or.inr rfl)) (hd : (x == ("__debug__" : Str)) = false := by decide)
    (hcd : (x == ("__classdict__" : Str)) = false := by decide) : PE X (.Name x pos) (tVar i) := pe_var hN hv hd hcd
end
section
variable {X : Cx}
end
theorem Yf {A B : Prop} (h : B) : if false = true then A else B := by
  rw [if_neg Bool.false_ne_true]
  exact h
theorem YY {A B : Prop} (h : A) : if true = true then A else B := by
  rw [if_pos rfl]
  exact h
theorem YA {c A B : Prop} [Decidable c] (h1 : c → A) (h2 : ¬ c → B) : if c then A else B := by
  by_cases h : c
  · rw [if_pos h]
    exact h1 h
  · rw [if_neg h]
    exact h2 h
noncomputable def Zo (H H' : Hp) : Prop := ∀ b o, H b = some o → H' b = some o
theorem Zo.refl (H : Hp) : Zo H H := fun _ _ h => h
theorem Zo.trans {H H1 H2 : Hp} (a : Zo H H1) (b : Zo H1 H2) : Zo H H2 := fun c o h => b c o (a c o h)
theorem Zo.free {H H' : Hp} (e : Zo H H') {l : Addr} (h : H' l = Option.none) : H l = Option.none := by
  cases q : H l with
  | none => rfl
  | some o =>
    rw [e l o q] at h
    cases h
theorem Zo.seq {K : PySem.W.Frag} {H H' : Hp} {a : Addr} {xs : List V} (e : Zo H H') (h : SqL K H a xs) : SqL K H' a xs := by
  rcases h with (h | ⟨o, h⟩) | h
  · exact .inl (.inl (e _ _ h))
  · exact .inl (.inr ⟨o, e _ _ h⟩)
  · exact .inr h
section
variable {κ : Type} [DecidableEq κ]
end
end L2

set_option Elab.async false
set_option linter.all false
set_option maxRecDepth 100000
namespace L2
open PySem PySem.Spec PyProof.Rows
structure Dn (P : Program) (w : World) (K : PySem.W.Frag) (mg : Str → Option Value) (base : Heap) (k : Nat) (x : Str) (ps : List Str) (sp : Sp) : Prop where
  ex : ∃ f fd, FnOk P w K mg base CX0 k f fd ps sp ∧ mg x = some (.ref f) ∧ PySem.W.keepIn K (.ref f) = true ∧ Binds K fd ps []
noncomputable def tFn (sp : Sp) (t : TA) : TE := fun σ H Q => t σ H fun vs H1 => sp vs H1 Q E0
section
variable {X : Cx} {k : Nat} {ps : List Str} {sp : Sp} {x : Str} {p pos : Pos} {e : Expr} {es : List Expr} {t : TA}
theorem Zy (D : Dn X.prog X.w X.K X.mg X.base k x ps sp) (hr : Room k X.A) (ha : PA X (e :: es) t) (hg : Gl X x := by rfl) (hdb : (x == ("__debug__" : Str)) = false := by decide)
    (he : starEach (e :: es) X.env = (false, eval e X.env) :: starEach es X.env := by rfl) (hpl : (backTo pos (starEach es X.env)).any (·.1) = false := by rfl) :
    PE X (.Call (.Name x p) (e :: es) [] pos) (tFn sp t) := by
  obtain ⟨f, fd, F, hm, hk, hb⟩ := D.ex
  have q := pe_call (p := p) (pos := pos) F hr hg hm hk hb .nil Jn ha hdb he hpl
  have e : tCall sp [] E0 t = tFn sp t := by
    funext σ H Q
    show t σ H (fun vs H1 => sp (vs ++ []) H1 Q E0) = t σ H fun vs H1 => sp vs H1 Q E0
    simp only [List.append_nil]
  rw [← e]
  exact q
theorem call_isi : Jw X (.builtin "isinstance") (fun xs H Q => ∃ x n t b, xs = [x, V.ty n] ∧ TyOf X.K H x t ∧ PySem.W.kitOne X.K t (.type n) = some b ∧ Q (.bl b) H) := by
  intro pins s σ H xs us Q I r h
  obtain ⟨x, n, t, b, rfl, ty, e, q⟩ := h
  cases r with
  | cons r1 r2 =>
    cases r2 with
    | cons r3 r4 =>
      cases r4
      cases (show _ = Value.type n from r3)
      exact isinst_ok I r1 ty e fun tk => ⟨.bl b, H, I.tok _, rfl, q⟩
end
theorem kit_ii {K : PySem.W.Frag} : PySem.W.kitOne K (.type "int") (.type "int") = some true := by rfl
theorem kit_ib {K : PySem.W.Frag} : PySem.W.kitOne K (.type "int") (.type "bool") = some false := by rfl
theorem Zm {H : Hp} {p : Addr} (h : H p = none) (o : HO) : Zo H (upd H p o) := fun b u q => by rw [Zg (Zx q h)]; exact q
end L2

set_option Elab.async false
set_option linter.all false
set_option maxRecDepth 100000
namespace L2
open PySem PySem.Spec PyProof.Rows
noncomputable abbrev Cx.comp (X : Cx) (scope : Scope) (cl : List (Str × Addr)) (C : Addr) (N' : List Str) (s₀ : Shared) (H₀ : Hp) (fp : List Addr) (pins : List (Addr × Obj)) : Cx :=
  { X with N := N', s₀ := s₀, H₀ := H₀, env := compEnvC scope cl C X.env, outer := X.stack, stack := X.stack, ex := fp, fn := fun _ => false, pn := X.pn ++ pins, xe := fun _ _ => False }
noncomputable def PIfs (X : Cx) (ifs : List Expr) (t : TT) : Prop :=
  ∀ (pins : List (Addr × Obj)) (s : Shared) (σ : St) (H : Hp) (Q : Bool → Hp → Prop), Inv X pins σ H s → t σ H Q →
    wpAny (model X.prog X.w) X.A (forIn ifs true fun c r => if r = true then do let ok ← isTrue c X.env (eval c X.env); pure (ForInStep.yield ok) else pure (ForInStep.yield r)) (TP X pins σ Q) X.xe s
noncomputable def tAll : TT := fun _ H Q => Q true H
theorem pifs_nil {X : Cx} : PIfs X [] tAll := fun _ _ _ H _ I h => wpAny_tests_nil ⟨H, I, h⟩
theorem Xl {X : Cx} {c : Expr} {t : TT} (h : PT X c t) : PIfs X [c] t := fun pins s σ H Q I q => wpAny_tests_one (h pins s σ H Q I q)
noncomputable def Jp (caps : List (Str × Nat)) (σ : St) : St := caps.map fun p => (σ[p.2]?).join
noncomputable def tLC (caps : List (Str × Nat)) (wi : TI) (tt : TT) (te : TE) : TE := fun σ H Q => wi σ H fun J H1 => ∀ D, H1 D = none →
  ∃ W : Nat → Nat → Hp → Prop, (∃ m, W 0 m (upd H1 D (.lst []))) ∧ ∀ i m H2, W i m H2 →
    (J.stop i H2 ∧ Q (.ref D) H2) ∨ (J.go i H2 ∧ ∀ x H', J.yld i H2 x H' → tt (some x :: Jp caps σ) H' fun b H3 =>
      if b = true then te (some x :: Jp caps σ) H3 fun v H4 => ∃ ys m', H4 D = some (.lst ys) ∧ ys.length < sizeLine ∧ m' < m ∧ W (i + 1) m' (upd H4 D (.lst (ys ++ [v])))
      else ∃ m', m' < m ∧ W (i + 1) m' H3)
section
variable {X : Cx}
theorem comp_ok {scope : Scope} {cl : List (Str × Addr)} {N' : List Str} {fp : List Addr} {pins : List (Addr × Obj)} {σ : St} {H : Hp} {s : Shared} (I : Inv X pins σ H s) (hf : ∀ b ∈ fp, FpOk X pins H b) (hin : ∀ b ∈ fp, b < s.heap.objs.size)
    (hkind : scope.kind = .function) (hcl : ∀ x c, cl.lookup x = some c → X.env.cells.lookup x = some c)
    (hhas : ∀ x, ((relabel scope X.env).names.lookup x = some .cell ∨ (relabel scope X.env).names.lookup x = some .free) → ∃ c, cl.lookup x = some c) :
    (X.comp scope cl s.heap.objs.size N' s H fp pins).Ok where
  mod := I.ok.mod
  kind := by show (relabel scope X.env).kind = _; exact hkind
  glob := I.ok.glob
  blt := I.ok.blt
  above := Nat.le_refl _
  inj := fun x y c h1 h2 => I.ok.inj x y c (hcl x c h1) (hcl y c h2)
  has := hhas
  cab := fun x c h _ => by cases h
  hd := I.ok.hd
  frames := I.ok.frames
  stk := .inl rfl
  exf := fun b hb => ⟨Nat.ne_of_lt (hin b hb), fun x c e => (hf b hb).2.2.2.2.1 x c (hcl x c e)⟩
  bs := I.bs
  bsz := Nat.le_trans I.ok.bsz I.sz
  noex := fun b o e hb => by
    rcases (hf b hb).2.2.2.1 with z | z
    · exact I.ok.noex b o e z
    · exact absurd (Nat.lt_of_lt_of_le (Heap.lt_size (I.ok.bs b o e).1) z) (Nat.lt_irrefl _)
  exfs := fun b hb z => by
    rcases List.mem_cons.mp (I.stkSub b z) with e | e
    · exact (hf b hb).2.1 e
    · exact (hf b hb).2.2.1 e
  funs := I.stack
  frf := I.stkFree
theorem comp_inv {scope : Scope} {cl : List (Str × Addr)} {x : Str} {caps : List (Str × Nat)} {fp : List Addr} {pins : List (Addr × Obj)} {σ : St} {H : Hp} {s : Shared} {h1 : Heap} {t' : Nat} {m : Str → Option Value} (I : Inv X pins σ H s) (hf : ∀ b ∈ fp, FpOk X pins H b) (hin : ∀ b ∈ fp, b < s.heap.objs.size)
    (hkind : scope.kind = .function) (hcl : ∀ x c, cl.lookup x = some c → X.env.cells.lookup x = some c)
    (hhas : ∀ x, ((relabel scope X.env).names.lookup x = some .cell ∨ (relabel scope X.env).names.lookup x = some .free) → ∃ c, cl.lookup x = some c)
    (hcap : ∀ p ∈ caps, X.N[p.2]? = some p.1 ∧ X.env.scope.names.lookup p.1 = some .cell ∧ ((relabel scope X.env).names.lookup p.1 = some .cell ∨ (relabel scope X.env).names.lookup p.1 = some .free))
    (hn : h1.Ns s.heap.objs.size m) (hk : ∀ b o, s.heap.get? b = some o → h1.get? b = some o) :
    Inv (X.comp scope cl s.heap.objs.size (x :: caps.map (·.1)) s H fp pins) [] (none :: Jp caps σ) H { s with heap := h1, toks := t' } := by
  refine ⟨comp_ok I hf hin hkind hcl hhas, rfl, I.bare, Un.kept hk, ⟨m, hn, fun i y v e1 e2 e3 => ?_⟩, fun y c e => ?_, I.hok.fresh (Nat.le_refl _), fun y c e => I.freeC y c (hcl y c e), fun p hp => ?_, I.hok.kept hk, ?_⟩
  · cases i with
    | zero => cases e2
    | succ i =>
      have e1' : (caps.map (·.1))[i]? = some y := e1
      have e2' : (caps.map fun p => (σ[p.2]?).join)[i]? = some (some v) := e2
      rw [List.getElem?_map] at e1' e2'
      cases q : caps[i]? with
      | none => rw [q] at e1'; cases e1'
      | some p =>
        rw [q] at e1' e2'
        have hy : p.1 = y := Option.some.inj e1'
        have hv : (σ[p.2]?).join = some v := Option.some.inj e2'
        obtain ⟨c1, c2, c3⟩ := hcap p (List.mem_of_getElem? q)
        have hv' : σ[p.2]? = some (some v) := by
          cases z : σ[p.2]? with
          | none => rw [z] at hv; cases hv
          | some w => rw [z] at hv; rw [← hv]; rfl
        obtain ⟨m0, _, hl0⟩ := I.loc
        obtain ⟨u, ru, lk⟩ := hl0 p.2 p.1 v c1 hv' (.inr (.inl c2))
        subst hy
        refine ⟨u, ru, .inr ⟨c3, ?_⟩⟩
        obtain ⟨c, hc⟩ := hhas p.1 c3
        rcases lk with ⟨k, _⟩ | ⟨_, c', hc', z⟩
        · have k' : X.env.scope.names.lookup p.1 = some .local := k
          rw [c2] at k'; cases k'
        · have : c = c' := Option.some.inj ((hcl p.1 c hc).symm.trans hc')
          subst this
          obtain ⟨o, ho, hd⟩ := z
          exact ⟨c, hc, o, hk _ _ ho, hd⟩
  · obtain ⟨v, o, ho, hd⟩ := I.cell y c (hcl y c e)
    exact ⟨v, o, hk _ _ ho, hd⟩
  · have hp' : p ∈ X.pn ++ pins := by simpa using hp
    obtain ⟨a1, a2, a3, a4, a5⟩ := I.pin p hp'
    refine ⟨hk _ _ a1, a2, Nat.ne_of_lt (Heap.lt_size a1), fun z => ?_, a5⟩
    rcases List.mem_cons.mp (I.stkSub p.1 z) with e | e
    · exact a3 e
    · exact a4 e
  · show (none :: Jp caps σ).length = (x :: caps.map (·.1)).length
    simp [Jp]
theorem lc_core {elt iter : Expr} {x : Str} {px : Pos} {ifs : List Expr} {scope : Scope} {cl : List (Str × Addr)} {pos : Pos} {caps : List (Str × Nat)} {wi : TI} {tt : TT} {te : TE} (hc : X.calm = true)
    (hi : PI X (.Name x px) iter wi)
    (ht : ∀ C s₀ H₀ fp pins, PIfs (X.comp scope cl C (x :: caps.map (·.1)) s₀ H₀ fp pins) ifs tt) (he : ∀ C s₀ H₀ fp pins, PE (X.comp scope cl C (x :: caps.map (·.1)) s₀ H₀ fp pins) elt te)
    (hclos : closureFor scope X.env = pure cl) (hcell : ∀ y ∈ scope.names, y.2 ≠ .cell) (hkind : scope.kind = .function) (hnames : ∀ y ∈ scope.names, y.2 = .local → scope.names.lookup y.1 = some .local) (hx : scope.names.lookup x = some .local)
    (hcl : ∀ x c, cl.lookup x = some c → X.env.cells.lookup x = some c)
    (hhas : ∀ x, ((relabel scope X.env).names.lookup x = some .cell ∨ (relabel scope X.env).names.lookup x = some .free) → ∃ c, cl.lookup x = some c)
    (hcap : ∀ p ∈ caps, X.N[p.2]? = some p.1 ∧ X.env.scope.names.lookup p.1 = some .cell ∧ ((relabel scope X.env).names.lookup p.1 = some .cell ∨ (relabel scope X.env).names.lookup p.1 = some .free))
    (hnd : (x :: caps.map (·.1)).Nodup)
    (hs : ∀ x, foldedSetIterable iter X.env x = pure x) {pins : List (Addr × Obj)} {s : Shared} {σ : St} {H : Hp} {Q : VK} {use : Option (Value → Sem Unit)} {QQ : Value → Shared → Prop} {pos2 : Pos} (I : Inv X pins σ H s) (h : tLC caps wi tt te σ H Q)
    (fin : ∀ D C H5 s6 r, FpOk X pins H5 C → (∃ m, s6.heap.Ns C m) → Inv X pins σ H5 s6 → Q (.ref D) H5 → compPost (model X.prog X.w) X.A X.xe use QQ (.ref D) C (.ok r) s6) :
    wpAny (model X.prog X.w) X.A (comprehension (.ListComp elt [⟨.Name x px, iter, ifs, 0⟩] scope pos) scope X.env pos2 (newList []) false (eval iter X.env) use) QQ X.xe s := by
  refine wpAny_comprehension_free (use := use) rfl hs hclos hkind hnames (thn (hi pins s σ H _ I h) fun v s1 h1 => thn h1 fun itv s2 h2 => ?_)
  obtain ⟨it, fp, tn, J, H2, e, I2, T, st2, f2, q2⟩ := h2
  subst e
  -- the new list
  refine wpAny_newObj_type ?_ (by show 0 ≤ sizeLine; exact Nat.zero_le _)
  have fD : H2 s2.heap.objs.size = none := I2.fresh
  obtain ⟨W, ⟨m0, w0⟩, turn⟩ := q2 s2.heap.objs.size fD
  have I3 := I2.lnew (its := []) (ys := []) (t' := s2.toks) .nil (Nat.zero_le _)
  have lt2 : ∀ b ∈ fp, b < s2.heap.objs.size := fun b hb => by
    obtain ⟨o, ho, _⟩ := T.obj 0 _ st2 b hb
    exact Heap.lt_size ho
  have neD : ∀ b ∈ fp, b ≠ s2.heap.objs.size := fun b hb => Nat.ne_of_lt (lt2 b hb)
  have st3 : tn 0 (s2.heap.push { cls := .type "list", data := .seq ([] : List Value).toArray }) := T.keep 0 _ _ st2 fun b _ o e => Heap.get?_push_of_some _ e
  have f3 : ∀ b ∈ fp, FpOk X pins (upd H2 s2.heap.objs.size (.lst [])) b := fun b hb => ⟨by rw [Zg (neD b hb)]; exact (f2 b hb).1, (f2 b hb).2⟩
  generalize hs3 : ({ s2 with heap := s2.heap.push { cls := .type "list", data := .seq ([] : List Value).toArray }, toks := s2.toks } : Shared) = s3 at I3
  generalize hD : s2.heap.objs.size = D at *
  have hs3h : s3.heap = s2.heap.push { cls := .type "list", data := .seq ([] : List Value).toArray } := by rw [← hs3]
  have goal3 : wpAny (model X.prog X.w) X.A (newFunctionEnv scope X.env.globals cl [] X.env.qual none .none (some X.env)) (fun cenv s₄ =>
      codeAny (model X.prog X.w) X.A (.compStart (.ListComp elt [⟨.Name x px, iter, ifs, 0⟩] scope pos) 0 (.ref it) (.ref D) { cenv with scope := relabel scope X.env })
        (compPost (model X.prog X.w) X.A X.xe use QQ (.ref D) cenv.locals) s₄) X.xe s3 := by
    have lt3 : ∀ b ∈ fp, b < s3.heap.objs.size := fun b hb => by
      rw [hs3h, Heap.size_push, hD]
      exact Nat.lt_succ_of_lt (lt2 b hb)
    refine wpAny_newFunctionEnv hcell (by intro y hy; simp at hy) (fun h₁ hns₁ hsb₁ => ?_) hkind
    have old : ∀ b o, s3.heap.get? b = some o → h₁.get? b = some o := fun b o e => hsb₁.extBut b o (Nat.ne_of_lt (Heap.lt_size e)) (Heap.get?_push_of_some _ e)
    have I4 : Inv (X.comp scope cl s3.heap.objs.size (x :: caps.map (·.1)) s3 (upd H2 D (.lst [])) fp pins) [] (none :: Jp caps σ) (upd H2 D (.lst [])) { s3 with heap := h₁, toks := s3.toks + 0 } :=
      comp_inv I3 f3 lt3 hkind hcl hhas hcap hns₁ old
    have st4 : tn 0 h₁ := T.keep 0 _ _ (by rw [← hs3h] at st3; exact st3) fun b hb o e => old b o e
    -- what stays true of the iterator's objects
    have stat : ∀ {H' : Hp}, (∀ b ∈ fp, H' b = none) → ∀ b ∈ fp, FpOk (X.comp scope cl s3.heap.objs.size (x :: caps.map (·.1)) s3 (upd H2 D (.lst [])) fp pins) [] H' b := fun hn b hb =>
      ⟨hn b hb, Nat.ne_of_lt (lt3 b hb), I4.ok.exfs b hb, .inl hb, fun y c e => (f3 b hb).2.2.2.2.1 y c (hcl y c e), fun p hp => (f3 b hb).2.2.2.2.2 p (by simpa using hp)⟩
    have loop : codeAny (model X.prog X.w) X.A (.compLoop (.ListComp elt [⟨.Name x px, iter, ifs, 0⟩] scope pos) 0 (.ref it) (.ref D) (compEnvC scope cl s3.heap.objs.size X.env))
        (compPost (model X.prog X.w) X.A X.xe use QQ (.ref D) s3.heap.objs.size) { s3 with heap := h₁, toks := s3.toks + 0 } := by
      refine codeAny_compLoop_tests (fun n s' => ∃ i v H', Inv (X.comp scope cl s3.heap.objs.size (x :: caps.map (·.1)) s3 (upd H2 D (.lst [])) fp pins) [] (v :: Jp caps σ) H' s' ∧ tn i s'.heap ∧ (∀ b ∈ fp, H' b = none) ∧ W i n H') ?_ m0 ⟨0, none, _, I4, st4, fun b hb => (f3 b hb).1, w0⟩
      rintro n s5 ⟨i, v5, H5, I5, st5, fr5, w5⟩
      rcases turn i n H5 w5 with ⟨stop, qn⟩ | ⟨go, step⟩
      · refine wpAny_noRaise (thn (T.done (X.comp scope cl s3.heap.objs.size (x :: caps.map (·.1)) s3 (upd H2 D (.lst [])) fp pins) rfl rfl rfl hc i [] s5 _ H5 (fun _ _ => False) I5 (stat fr5) st5 stop) fun r s6 zz9 => ?_)
        obtain ⟨hr, I6⟩ := zz9
        subst hr
        obtain ⟨m6, hn6, _⟩ := I6.loc
        have fC : H5 s3.heap.objs.size = none := I6.free
        have u6 : Un (frs X.stack) fp (upd H2 D (.lst [])) H5 s3.heap s6.heap := I6.base
        exact fin _ _ _ _ _ (I3.fpOk (Nat.le_refl _) fC) ⟨m6, hn6⟩ (I3.call' (ch := fp) I6.os u6 I6.hok I6.bare fun b hb => ⟨(f3 b hb).2.2.2.1, (f3 b hb).2.1, (f3 b hb).2.2.2.2.1, (f3 b hb).2.2.2.2.2⟩) qn
      · refine wpAny_noRaise (thn (T.item (X.comp scope cl s3.heap.objs.size (x :: caps.map (·.1)) s3 (upd H2 D (.lst [])) fp pins) rfl rfl rfl hc i [] s5 _ H5 (fun _ _ => False) I5 (stat fr5) st5 go) fun r s6 zz9 => ?_)
        obtain ⟨u, hr, h6⟩ := zz9
        subst hr
        -- a plain name: the step ahead of the store is nothing
        show wpAny _ _ (letOwnedTupleGo (.Name x px) (.ref it) u >>= fun _ => assign (.Name x px) (compEnvC scope cl s3.heap.objs.size X.env) u) _ _ _
        refine wpAny_bind (wpAny_noRaise (thn h6 fun _ s6 zz9 => ?_))
        obtain ⟨y, H6, I6, r6, y6, st6, fr6⟩ := zz9
        have I6' := I6.pinned (stat fr6) (T.obj _ _ st6)
        refine wpAny_assign_Name (wpAny_noRaise (store_ok (i := 0) I6' hnd rfl (.inl (lookup_relabel_local hx)) r6 (fun s7 I7 => ?_) (.inr (lookup_relabel_local hx))))
        have again : ∀ {v8 : Option V} {H8 : Hp} {s8 : Shared} {m' : Nat}, Inv (X.comp scope cl s3.heap.objs.size (x :: caps.map (·.1)) s3 (upd H2 D (.lst [])) fp pins) ([] ++ pinsAt fp s6.heap) (v8 :: Jp caps σ) H8 s8 → W (i + 1) m' H8 →
            ∃ i v H', Inv (X.comp scope cl s3.heap.objs.size (x :: caps.map (·.1)) s3 (upd H2 D (.lst [])) fp pins) [] (v :: Jp caps σ) H' s8 ∧ tn i s8.heap ∧ (∀ b ∈ fp, H' b = none) ∧ W i m' H' := fun {v8 H8 s8 m'} I8 w8 => by
          refine ⟨i + 1, v8, H8, I8.unpinned, T.keep _ _ _ st6 fun b hb o e => (I8.pin (b, o) (List.mem_append_right _ (List.mem_append_right _ (mem_pinsAt hb e)))).1, fun b hb => ?_, w8⟩
          obtain ⟨o, e, d⟩ := T.obj _ _ st6 b hb
          exact (I8.pin (b, o) (List.mem_append_right _ (List.mem_append_right _ (mem_pinsAt hb e)))).2.1
        refine wpAny_noRaise (thn (ht _ _ _ _ _ _ s7 _ H6 _ I7 (step y H6 y6)) fun ok s8 zz9 => ?_)
        obtain ⟨H8, I8, q8⟩ := zz9
        cases ok with
        | false =>
          rw [if_neg Bool.false_ne_true] at q8 ⊢
          obtain ⟨m', hm', w8⟩ := q8
          exact ⟨m', hm', again I8 w8⟩
        | true =>
          rw [if_pos rfl] at q8 ⊢
          refine wpAny_noRaise (thn (he _ _ _ _ _ _ s8 _ H8 _ I8 q8) fun z s9 zz9 => ?_)
          obtain ⟨v9, H9, I9, r9, ys, m', hD9, hz9, hm9, w9⟩ := zz9
          refine wpAny_noRaise (thn (XF _ s9 _ H9 (.ref D) [v9] (.ref D) [z] (fun v H' => v = .non ∧ H' = upd H9 D (.lst (ys ++ [v9]))) I9 rfl (.cons r9 .nil) ⟨D, ys, v9, rfl, rfl, hD9, hz9, rfl, rfl⟩) fun _ s10 zz9 => ?_)
          obtain ⟨v10, H10, I10, _, _, eH⟩ := zz9
          subst eH
          exact ⟨m', hm9, again I10 w9⟩
    exact codeAny_compStart_list loop (T.self _ 0 _ _ _ st4 loop)
  subst hs3
  subst hD
  exact goal3
theorem pe_lc {elt iter : Expr} {x : Str} {px : Pos} {ifs : List Expr} {scope : Scope} {cl : List (Str × Addr)} {pos : Pos} {caps : List (Str × Nat)} {wi : TI} {tt : TT} {te : TE} (hc : X.calm = true)
    (hi : PI X (.Name x px) iter wi)
    (ht : ∀ C s₀ H₀ fp pins, PIfs (X.comp scope cl C (x :: caps.map (·.1)) s₀ H₀ fp pins) ifs tt) (he : ∀ C s₀ H₀ fp pins, PE (X.comp scope cl C (x :: caps.map (·.1)) s₀ H₀ fp pins) elt te)
    (hclos : closureFor scope X.env = pure cl) (hcell : ∀ y ∈ scope.names, y.2 ≠ .cell) (hkind : scope.kind = .function) (hnames : ∀ y ∈ scope.names, y.2 = .local → scope.names.lookup y.1 = some .local) (hx : scope.names.lookup x = some .local)
    (hcl : ∀ x c, cl.lookup x = some c → X.env.cells.lookup x = some c)
    (hhas : ∀ x, ((relabel scope X.env).names.lookup x = some .cell ∨ (relabel scope X.env).names.lookup x = some .free) → ∃ c, cl.lookup x = some c)
    (hcap : ∀ p ∈ caps, X.N[p.2]? = some p.1 ∧ X.env.scope.names.lookup p.1 = some .cell ∧ ((relabel scope X.env).names.lookup p.1 = some .cell ∨ (relabel scope X.env).names.lookup p.1 = some .free))
    (hnd : (x :: caps.map (·.1)).Nodup)
    (hs : ∀ x, foldedSetIterable iter X.env x = pure x := by intro _; rfl) :
    PE X (.ListComp elt [⟨.Name x px, iter, ifs, 0⟩] scope pos) (tLC caps wi tt te) := by
  intro pins s σ H Q I h
  rw [eval_ListComp]
  refine lc_core hc hi ht he hclos hcell hkind hnames hx hcl hhas hcap hnd hs I h ?_
  intro D C H5 s6 r fC ⟨m6, hn6⟩ I6 q
  exact ⟨m6, hn6, fun h' hs' => ⟨.ref D, H5, I6.turned (fun b o n e => (hs'.2 b n).trans e) fC.1 fC.2.1 fC.2.2.2.1 fC.2.2.2.2.1 fC.2.2.2.2.2, rfl, q⟩⟩
theorem ps_setLC {i : Nat} {y : Str} {py spos : Pos} {elt iter : Expr} {x : Str} {px : Pos} {ifs : List Expr} {scope : Scope} {cl : List (Str × Addr)} {pos : Pos} {caps : List (Str × Nat)} {wi : TI} {tt : TT} {te : TE} (hN : X.N.Nodup) (hi' : X.N[i]? = some y) (hy : Loc X.env.scope y) (hc : X.calm = true)
    (hi : PI X (.Name x px) iter wi)
    (ht : ∀ C s₀ H₀ fp pins, PIfs (X.comp scope cl C (x :: caps.map (·.1)) s₀ H₀ fp pins) ifs tt) (he : ∀ C s₀ H₀ fp pins, PE (X.comp scope cl C (x :: caps.map (·.1)) s₀ H₀ fp pins) elt te)
    (hclos : closureFor scope X.env = pure cl) (hcell : ∀ y ∈ scope.names, y.2 ≠ .cell) (hkind : scope.kind = .function) (hnames : ∀ y ∈ scope.names, y.2 = .local → scope.names.lookup y.1 = some .local) (hx : scope.names.lookup x = some .local)
    (hcl : ∀ x c, cl.lookup x = some c → X.env.cells.lookup x = some c)
    (hhas : ∀ x, ((relabel scope X.env).names.lookup x = some .cell ∨ (relabel scope X.env).names.lookup x = some .free) → ∃ c, cl.lookup x = some c)
    (hcap : ∀ p ∈ caps, X.N[p.2]? = some p.1 ∧ X.env.scope.names.lookup p.1 = some .cell ∧ ((relabel scope X.env).names.lookup p.1 = some .cell ∨ (relabel scope X.env).names.lookup p.1 = some .free))
    (hnd : (x :: caps.map (·.1)).Nodup)
    (hs : ∀ x, foldedSetIterable iter X.env x = pure x := by intro _; rfl)
    (hsw : swapsWith (.ListComp elt [⟨.Name x px, iter, ifs, 0⟩] scope pos) (some (.Name y py)) spos.line X.env = pure true := by rfl)
    (hf : X.fn y = true ∨ X.env.scope.names.lookup y = some .local := by first | exact .inl rfl | exact .inr rfl | assumption) :
    PS X (.Assign [.Name y py] (.ListComp elt [⟨.Name x px, iter, ifs, 0⟩] scope pos) spos) (tAsg (tLC caps wi tt te) (gName i)) := by
  intro pins s σ H D I h
  rw [exec_Assign_Name_used _ _ _ _ hsw]
  refine wpAny_bind (wpAny_standAt (wpAny_bind ?_))
  refine wpAny_bind (thn (lc_core (use := some (assign (.Name y py) X.env)) (QQ := fun _ s' => SP X pins D .next s') hc hi ht he hclos hcell hkind hnames hx hcl hhas hcap hnd hs I h ?_) fun _ s' hq => wpAny_pure (wpAny_pure hq))
  intro D' C H5 s6 r fC ⟨m6, hn6⟩ I6 q
  show wpAny _ X.A (assign (.Name y py) X.env (.ref D')) _ _ _
  refine wpAny_assign_Name (store_ok2 I6 hN hi' hy (v := .ref D') rfl (fun s7 I7 zz9 => ?_) hf)
  obtain ⟨a, sb, ha⟩ := zz9
  have hne : C ≠ a := by
    rcases ha with rfl | ha
    · exact fC.2.1
    · exact fun z => fC.2.2.2.2.1 _ _ ha z.symm
  refine ⟨m6, hn6.sameBut sb hne, fun h' hs' => ?_⟩
  exact ⟨_, H5, I7.turned (fun b o n e => (hs'.2 b n).trans e) fC.1 fC.2.1 fC.2.2.2.1 fC.2.2.2.2.1 fC.2.2.2.2.2, q⟩
end
end L2

set_option Elab.async false
set_option linter.all false
set_option maxRecDepth 100000
namespace L2
open PySem PySem.Spec PyProof.Rows
noncomputable def Fly (base : Heap) (l : List Env) (a T : Addr) (C : Value) (h : Heap) : Prop :=
  base.StaysIn h ∧ base.get? a = none ∧ h.FunFrames base l ∧ ∃ a0 oe vs oT ts, h.get? a = some oe ∧ (oe.cls = C ∧ vs[0]? = some a0) ∧ oe.data = .fields vs ∧ vs[1]? = some (.ref T) ∧ base.get? T = none ∧ T ≠ a ∧ h.get? T = some oT ∧ oT.data = .fields ts ∧ ts[3]? = some .none
noncomputable def CXR (P : Program) (w : World) (base : Heap) : CXT := fun outer H s E e s' => ∃ (a T : Addr) (C : Value) (H' : Hp), e = .ref a ∧ s'.os = s.os ∧ AllBare s'.gens ∧ Un (frs outer) [] H H' s.heap s'.heap ∧ HOk P w H' s'.heap ∧
  Fly base outer a T C s'.heap ∧ H' a = none ∧ H' T = none ∧ s.heap.get? a = none ∧ s.heap.get? T = none ∧ E C none H'
theorem Z4.got {P : Program} {w : World} {H : Hp} {h : Heap} {a : Addr} {o : HO} (x : Z4 P w H h a o) : ∃ ob, h.get? a = some ob := by
  cases o with
  | lst xs => obtain ⟨_, _, _, _, e⟩ := x; exact ⟨_, e⟩
  | tup xs => obtain ⟨_, _, _, o, e, _⟩ := x; exact ⟨_, e⟩
  | dK kvs => obtain ⟨_, _, _, _, o, _, _, e, _⟩ := x; exact ⟨_, e⟩
  | dT kvs => obtain ⟨_, _, _, _, o, _, _, e, _⟩ := x; exact ⟨_, e⟩
  | set S n => obtain ⟨o, _, _, _, e, _⟩ := x; exact ⟨_, e⟩
  | ins C dx fs => obtain ⟨_, _, _, e, _⟩ := x; exact ⟨_, e⟩
  | own y => obtain ⟨_, e⟩ := x; exact ⟨_, e⟩
  | xd fs => obtain ⟨_, ⟨_, _, _, e, _⟩, _⟩ := x; exact ⟨_, e⟩
  | rng lo hi => obtain ⟨_, _, _, e⟩ := x; exact ⟨_, e⟩
  | frz ob u => obtain ⟨e, _⟩ := x; exact ⟨_, e⟩
  | tbl ps => exact ⟨_, (show h.get? a = some _ from x)⟩
  | met f y => exact ⟨_, (show h.get? a = some _ from x)⟩
  | ext φ => obtain ⟨_, ⟨_, e⟩, _⟩ := x; exact ⟨_, e⟩
section
variable {X : Cx} {pins : List (Addr × Obj)} {σ : St} {H : Hp} {s : Shared}
theorem Inv.untr (I : Inv X pins σ H s) {b : Addr} (e : s.heap.get? b = none) : H b = none := by
  cases q : H b with
  | none => rfl
  | some o =>
    obtain ⟨ob, z⟩ := (I.hok b o q).got
    rw [e] at z; cases z
theorem Inv.stkNo (I : Inv X pins σ H s) {b : Addr} (h1 : b ≠ X.env.locals) (h2 : b ∉ X.fs) : b ∉ frs X.stack := fun z => (List.mem_cons.mp (I.stkSub b z)).elim h1 h2
end
abbrev bmV : List Value := [.type "ValueError", .type "Exception", .type "BaseException", .type "object"]
noncomputable def XCls (K : PySem.W.Frag) (C : Addr) : Prop := PySem.W.excIn K C bmV "ValueError.__new__" = true
theorem xcls_obj {K : PySem.W.Frag} {h : Heap} {C : Addr} (X : K.In h) (q : XCls K C) : ∃ bm N nm q bs hdct sn sub ab col dd k0 k1 k2 k3 k5 mN, h.get? C = some (excClassObj nm q C N bs bm hdct sn sub ab col dd k0 k1 k2 k3 k5 "ValueError.__new__") ∧ h.Ns N mN ∧ mN "__init__" = none ∧ OwnTail h bmV bm := by
  unfold XCls PySem.W.excIn at q
  split at q
  · rename_i dd cd sl ho
    split at q
    · rename_i C' bm k0 k1 k2 k3 n k5 hm hs
      simp only [Bool.and_eq_true, beq_iff_eq, Bool.not_eq_true'] at q
      obtain ⟨⟨⟨⟨⟨rfl, rfl⟩, hdel⟩, ht⟩, hok⟩, hni⟩ := q
      obtain ⟨nm, bs, mro, ns, qn, hd, sn, sub, ab, col, del⟩ := cd
      dsimp only at hm hdel hok hni
      subst hm hdel
      have hsl : sl = #[k0, k1, k2, k3, some (.builtin "ValueError.__new__"), k5] := by
        obtain ⟨l⟩ := sl
        simp only at hs
        rw [hs]
      subst hsl
      exact ⟨bm, ns, nm, qn, bs, hd, sn, sub, ab, col, dd, k0, k1, k2, k3, k5, _, X _ _ ho, .of_isNs (PySem.W.isNs_of_in X hok), PySem.W.nsMap_none_of_in X hok hni, PySem.W.tail_of_in X ht⟩
    · cases q
  · cases q
section
variable {P : Program} {w : World} {K : PySem.W.Frag} {mg : Str → Option Value} {base : Heap} {N : List Str} {qual : Str} {scope : Scope} {f : Addr} {cd : Value} {A : Around} {outer : List Env} {s0 : Shared} {H0 : Hp} {E : XK}
theorem Xk {x : Str} {C : Addr} {e : Expr} {te : TE} {np cpos pos : Pos} (hE : XCls K C) (hm : mg x = some (.ref C)) (he : PE (Xn (CXR P w base) P w K mg base N qual scope f cd A outer s0 H0 E) e te)
    (hg : Gl (Xn (CXR P w base) P w K mg base N qual scope f cd A outer s0 H0 E) x := by rfl)
    (hst : starEach [e] (Xn (CXR P w base) P w K mg base N qual scope f cd A outer s0 H0 E).env = [(false, eval e (Xn (CXR P w base) P w K mg base N qual scope f cd A outer s0 H0 E).env)] := by rfl)
    (hd : (x == ("__debug__" : Str)) = false := by decide) :
    PS (Xn (CXR P w base) P w K mg base N qual scope f cd A outer s0 H0 E) (.Raise (some (.Call (.Name x np) [e] [] cpos)) none pos) (fun _ σ H => te σ H fun v H1 => ([v] : List V).length = 1 ∧ E (.ref C) none H1) := by
  intro pins s σ H D I h
  obtain ⟨bm, Na, nm, q, bs, hdct, sn, sub, ab, col, dd, k0, k1, k2, k3, k5, mN, hC, hN, hni, T⟩ := xcls_obj I.ok.mod.kin hE
  refine wpAny_Raise_call_subU (C := C) (nm := nm) (q := q) (N := Na) (bs := bs) (bm := bm) (hdct := hdct) (sn := sn) (sub := sub) (ab := ab) (col := col) (dd := dd) (k0 := k0) (k1 := k1) (k2 := k2) (k3 := k3) (k5 := k5)
    PySem.F.excBase_ValueError rfl PySem.F.excBase_ValueError (mN := mN) (T.hasType rfl) (I.ok.hd rfl) (by rw [hst]; rfl) hni (ld_glob I hg hm ⟨rfl, ?_⟩ hd)
  have ha := Za (X := Xn (CXR P w base) P w K mg base N qual scope f cd A outer s0 H0 E) he Zd hst cpos pins s σ H (fun vs H1 => vs.length = 1 ∧ E (.ref C) none H1) I h
  rw [hst] at ha ⊢
  refine Calls.evalArgs_plain (wpAny_mono ha (fun us s2 ⟨vs, H2, I2, r2, hl2, q2⟩ => ?_) fun _ _ z => z)
  have hlu : us.length ≤ sizeLine := by
    rw [← r2.length, hl2]
    decide
  refine ⟨rfl, hlu, I2.bk _ _ hC, hN.keeps I2.bk, T.keeps I2.bk, fun h' ex hx => ?_⟩
  -- all but the frames
  have hin : ∀ env ∈ (envOfC qual scope s0.heap.objs.size f cd :: outer), ∀ b, env.frame = some b → b ∈ (envOfC qual scope s0.heap.objs.size f cd :: outer).filterMap (·.frame) := fun env he b hb => List.mem_filterMap.mpr ⟨env, he, hb⟩
  have stk : s2.heap.FunFrames base (envOfC qual scope s0.heap.objs.size f cd :: outer) := I2.stack
  have notL : ∀ b o, s0.heap.get? b = some o → b ≠ s0.heap.objs.size := fun b o e => Nat.ne_of_lt (Heap.lt_size e)
  have inB : ∀ b o, s2.heap.get? b = some o → b ∉ frs (envOfC qual scope s0.heap.objs.size f cd :: outer) → (PySem.W.hideAll s2.heap (frs (envOfC qual scope s0.heap.objs.size f cd :: outer))).get? b = some o := fun b o e n => PySem.W.hideAll_get _ e n
  show wpAny (model P w) (A.deeper (envOfC qual scope s0.heap.objs.size f cd)) (leaving (envOfC qual scope s0.heap.objs.size f cd) (.ref ex)) (fun _ s'' => CXR P w base outer H0 s0 E (.ref ex) s'') (fun e' s'' => CXR P w base outer H0 s0 E e' s'') { s2 with heap := h' }
  refine wpAny_leaves_madeW (base := PySem.W.hideAll s2.heap (frs (envOfC qual scope s0.heap.objs.size f cd :: outer))) (h := s2.heap) (L := s0.heap.objs.size) I2.ok.frames rfl (fun b o z => PySem.W.of_hideAll _ z) (PySem.W.funFrames_hide stk hin) hx fun h'' t fl tup ht U => ?_
  obtain ⟨f1, f2, f3, oe, vs, Tr, oT, ts, g1, g2, g3, g4, g5, g6, g7, g8, g9⟩ := fl
  have baseB : base.StaysIn (PySem.W.hideAll s2.heap (frs (envOfC qual scope s0.heap.objs.size f cd :: outer))) := fun b o z => inB b o (I2.bk b o z) fun hb => by rw [(stk.mem hb).1] at z; cases z
  have U2 : ∀ b o, s2.heap.get? b = some o → (∀ vs, o.data ≠ .fields vs) → ∃ sl, h''.get? b = some { o with slots := sl } := fun b o z n => U b o (hx.keeps b o z) n
  have noT : s2.heap.get? Tr = none := by
    cases z : s2.heap.get? Tr with
    | none => rfl
    | some o =>
      by_cases hb : Tr ∈ frs (envOfC qual scope s0.heap.objs.size f cd :: outer)
      · obtain ⟨_, o', ho', d'⟩ := stk.mem hb
        obtain ⟨sl, z2⟩ := U2 Tr o' ho' d'
        rw [g7] at z2
        have z3 := congrArg (fun q : Option Obj => q.map (·.data)) z2
        simp only [Option.map_some, g8] at z3
        exact absurd (Option.some.inj z3).symm (d' ts)
      · rw [inB Tr o z hb] at g5
        cases g5
  have up : ∀ b o, s0.heap.get? b = some o → s2.heap.get? b ≠ none := fun b o z n => by
    obtain ⟨o', z'⟩ := I2.base.there b o z (fun q => absurd (show b ∈ ([] : List Addr) from q) (by simp))
    rw [n] at z'; cases z'
  have no0 : ∀ b, s2.heap.get? b = none → s0.heap.get? b = none := fun b n => by
    cases z : s0.heap.get? b with
    | none => rfl
    | some o => exact absurd n (up b o z)
  have nex : ∀ b, b ∉ (Xn (CXR P w base) P w K mg base N qual scope f cd A outer s0 H0 E).ex := fun b q => absurd (show b ∈ ([] : List Addr) from q) (by simp)
  have notIn : ∀ b o, s0.heap.get? b = some o → b ∉ frs outer → b ∉ frs (envOfC qual scope s0.heap.objs.size f cd :: outer) := fun b o z n => I2.stkNo (notL b o z) n
  refine ⟨ex, Tr, .ref C, H2, rfl, I2.os, I2.bare, ⟨fun b o z n hb _ => ?_, fun b o z n hb _ => ?_, fun b o z n _ => I2.base.free b o z n (nex b), fun b o z _ => ?_, I2.base.tups, I2.base.frzs, I2.base.tbls⟩, fun b u z => ?_, ⟨fun b o z => f1 b o (baseB b o z), ?_, PySem.W.funFrames_base baseB f3, .ref t, oe, vs, oT, ts, g1, g2, g3, g4, ?_, g6, g7, g8, g9⟩, I2.untr hx.new, I2.untr noT, no0 _ hx.new, no0 _ noT, q2⟩
  · exact f1 b o (inB b o (I2.base.keep b o z n hb (nex b)) (notIn b o z hb))
  · obtain ⟨sl, z1⟩ := I2.base.slot b o z n hb (nex b)
    obtain ⟨_, o', ho', d'⟩ := I2.ok.funs.mem hb
    have : o' = o := by rw [show (Xn (CXR P w base) P w K mg base N qual scope f cd A outer s0 H0 E).s₀.heap.get? b = some o from z] at ho'; exact (Option.some.inj ho').symm
    subst this
    obtain ⟨sl', z2⟩ := U2 b _ z1 (fun vs => d' vs)
    exact ⟨sl', z2⟩
  · by_cases hb : b ∈ frs (envOfC qual scope s0.heap.objs.size f cd :: outer)
    · obtain ⟨_, o', ho', d'⟩ := stk.mem hb
      obtain ⟨sl, z2⟩ := U2 b o' ho' d'
      exact ⟨_, z2⟩
    · obtain ⟨o', z'⟩ := I2.base.there b o z (nex b)
      exact ⟨o', f1 b o' (inB b o' z' hb)⟩
  · refine (I2.hok b u z).stay (fun c v hc q => ?_) (fun _ q => q) fun _ _ q => q
    have tr : ∀ c v, H2 c = some v → c ∉ frs (envOfC qual scope s0.heap.objs.size f cd :: outer) := fun c v q n => by rw [I2.stkFree c n] at q; cases q
    rcases hc with hc | hc
    · rw [hc] at q ⊢
      exact f1 b v (inB b v q (tr b u z))
    · exact f1 c v (inB c v q (tr c _ hc))
  · cases z : base.get? ex with
    | none => rfl
    | some o =>
      have := I2.bk ex o z
      rw [hx.new] at this; cases this
  · cases z : base.get? Tr with
    | none => rfl
    | some o =>
      have := I2.bk Tr o z
      rw [noT] at this; cases this
end
end L2

set_option Elab.async false
set_option linter.all false
set_option maxRecDepth 100000
namespace L2
open PySem PySem.Spec PyProof.Rows
noncomputable def XP (X : Cx) (pins : List (Addr × Obj)) (σ : St) (R : Value → Hp → Prop) (e : Value) (s' : Shared) : Prop := ∃ (a T : Addr) (C : Value) (H' : Hp), e = .ref a ∧ Inv X pins σ H' s' ∧ Fly X.base X.stack a T C s'.heap ∧ H' a = none ∧ H' T = none ∧
  X.s₀.heap.get? a = none ∧ X.s₀.heap.get? T = none ∧ (∀ p ∈ X.pn ++ pins, p.1 ≠ a ∧ p.1 ≠ T) ∧ a ≠ X.env.locals ∧ R C H'
structure Dx (P : Program) (w : World) (K : PySem.W.Frag) (mg : Str → Option Value) (base : Heap) (k : Nat) (x : Str) (ps : List Str) (sp : Sp) : Prop where
  ex : ∃ f fd, FnOk P w K mg base (CXR P w base) k f fd ps sp ∧ mg x = some (.ref f) ∧ PySem.W.keepIn K (.ref f) = true ∧ Binds K fd ps []
section
variable {X : Cx} {k : Nat} {ps : List Str} {sp : Sp} {x : Str} {p pos : Pos} {e : Expr} {es : List Expr} {t : TA}
end
section
variable {X : Cx} {pins : List (Addr × Obj)} {σ : St} {H : Hp} {s : Shared}
end
end L2

set_option Elab.async false
set_option linter.all false
set_option maxRecDepth 100000
namespace L2
open PySem PySem.Spec PyProof.Rows PySem.W
structure XAt (K : PySem.W.Frag) (C : Addr) : Prop where
  x : XCls K C
  ga : findIn K (.ref C) "__getattribute__" = some (some (.builtin "BaseException.__getattribute__"))
  hk : findIn K (.ref C) "__getattr__" = some none
  ca : findIn K (.ref C) "__class__" = some (some (.builtin "object.__class__"))
  mo : subIn K (.ref C) (.type "object") = some true
  sb : subIn K (.ref C) (.type "BaseException") = some true
section
variable {prog : Program} {w : World} {A : Around} {E : Value → Shared → Prop} {h : Heap} {g : Array GenState} {d : Drawn} {t : Nat} {os : OsState} {a C : Addr} {oe : Obj} {K : PySem.W.Frag} {vs : Array Value}
end
end L2

set_option Elab.async false
set_option linter.all false
set_option maxRecDepth 100000
namespace L2
open PySem PySem.Spec PyProof.Rows PySem.W
section
variable {X : Cx} {pins : List (Addr × Obj)} {σ : St} {H : Hp} {s : Shared}
end
theorem Fun.okX {P : Program} {w : World} {K : PySem.W.Frag} {mg : Str → Option Value} {base : Heap} {x qual : Str} {st : Stmt} {f : Addr} {fd : FuncData} {N ps : List Str} {k : Nat} {sp : Sp} (F : Fun K x qual st f fd) (S : FnScope N ps (Zb st)) (len : ∀ vs H Q E, sp vs H Q E → vs.length = ps.length)
    (hbody : ∀ (cdv : Value) (A : Around) (outer : List Env) (s : Shared) (H : Hp) (vs : List V) (Q : VK) (E : XK), Room k (A.deeper (envOfC qual (Zb st) s.heap.objs.size f cdv)) → sp vs H Q E →
      ∃ t, PSs (Xn (CXR P w base) P w K mg base N qual (Zb st) f cdv A outer s H E) (Zi st) t ∧ t { nx := fun _ H' => Q .non H', rt := Q } (start N vs) H) : FnOk P w K mg base (CXR P w base) (k + 1) f fd ps sp := by
  obtain ⟨oc, od, kV, doc, pm, an, cdv, ct, osl, rfl, lk, hcd⟩ := F.ex
  exact fn_of lk hcd S len fun A outer s H vs Q E hr hsp => hbody cdv A outer s H vs Q E hr hsp
end L2

set_option Elab.async false
set_option linter.all false
set_option maxRecDepth 100000
namespace L2
open PySem PySem.Spec PyProof.Rows
mutual
/-- the value reads as that data -/
inductive Rds (K : PySem.W.Frag) (H : Hp) : V → PyData → Prop
  | non : Rds K H .non .none
  | bl (b : Bool) : Rds K H (.bl b) (.bool b)
  | int (i : Int) : Rds K H (.int i) (.int i)
  | str (x : Str) : Rds K H (.str x) (.str x)
  | list {a : Addr} {xs : List V} {ds : List PyData} : SqL K H a xs → RdsAll K H xs ds → Rds K H (.ref a) (.list ds)
  | tuple {a : Addr} {xs : List V} {ds : List PyData} : SqT K H a xs → RdsAll K H xs ds → Rds K H (.ref a) (.tuple ds)
inductive RdsAll (K : PySem.W.Frag) (H : Hp) : List V → List PyData → Prop
  | nil : RdsAll K H [] []
  | cons {x : V} {xs : List V} {d : PyData} {ds : List PyData} : Rds K H x d → RdsAll K H xs ds → RdsAll K H (x :: xs) (d :: ds)
end
section
variable {X : Cx} {pins : List (Addr × Obj)} {σ : St} {H : Hp} {s : Shared}
mutual
theorem Rds.reads (I : Inv X pins σ H s) : ∀ {x : V} {d : PyData} {u : Value}, Rds X.K H x d → ZE x u → ∃ as, Reads s.heap u d as
  | _, _, _, .non, r => by
    cases r
    exact ⟨[], .none⟩
  | _, _, _, .bl b, r => by
    cases r
    exact ⟨[], .bool b⟩
  | _, _, _, .int i, r => by
    obtain ⟨t, rfl⟩ := r
    exact ⟨[], .int i t⟩
  | _, _, _, .str i, r => by
    obtain ⟨t, rfl⟩ := r
    exact ⟨[], .str i t⟩
  | _, _, _, .list (a := a) h q, r => by
    cases r
    obtain ⟨its, r', pl, _⟩ := I.list h
    obtain ⟨o, ho, hc, n, hd⟩ := pl.isList
    obtain ⟨as, z⟩ := RdsAll.reads I q r'
    exact ⟨a :: as, .list ho hc hd z⟩
  | _, _, _, .tuple (a := a) h q, r => by
    cases r
    obtain ⟨its, r', pl, _⟩ := I.tuple h
    obtain ⟨o, ho, hc, n, hd⟩ := pl
    obtain ⟨as, z⟩ := RdsAll.reads I q r'
    exact ⟨as, .tuple ho hc hd z⟩
theorem RdsAll.reads (I : Inv X pins σ H s) : ∀ {xs : List V} {ds : List PyData} {us : List Value}, RdsAll X.K H xs ds → ZO xs us → ∃ as, ReadsAll s.heap us ds as
  | _, _, _, .nil, .nil => ⟨[], .nil⟩
  | _, _, _, .cons h t, .cons r rs => by
    obtain ⟨as, z⟩ := Rds.reads I h r
    obtain ⟨bs, y⟩ := RdsAll.reads I t rs
    exact ⟨as ++ bs, .cons z y⟩
end
noncomputable def rEqD (K : PySem.W.Frag) (ng : Bool) : R2 := fun x y H Q => ∃ da db, Rds K H x da ∧ Rds K H y db ∧ SeqAt.shaped da = true ∧ SeqAt.shaped db = true ∧ Q (.bl (if ng then !PyData.eqv da db else PyData.eqv da db)) H
theorem op_neD {X : Cx} (hu : X.A.units + 64 < cLine) : OpR X (compareOp .NotEq) (rEqD X.K true) := by
  intro pins s σ H x y v u Q I rx ry h
  obtain ⟨da, db, ha, hb, sa, sb, q⟩ := h
  obtain ⟨as, z⟩ := ha.reads I rx
  obtain ⟨bs, z'⟩ := hb.reads I ry
  exact SeqAt.compareNe_shaped z z' sa sb hu ⟨.bl _, H, I, rfl, q⟩
theorem kv_at : ∀ {kvs : List (Key × V)} {vs : List (Key × Value)} {i : Nat} {k : Key} {x : Value}, KV kvs vs → vs[i]? = some (k, x) → ∃ y, kvs[i]? = some (k, y)
  | _, _, _, _, _, .nil, e => by simp at e
  | _, _, 0, _, _, .cons (a := p) r _, e => by
    obtain ⟨e1, _⟩ := r
    simp only [List.getElem?_cons_zero, Option.some.injEq] at e ⊢
    subst e
    exact ⟨p.2, Prod.ext e1 rfl⟩
  | _, _, i + 1, _, _, .cons _ t, e => by
    simp only [List.getElem?_cons_succ] at e ⊢
    exact kv_at t e
end
end L2

set_option Elab.async false
set_option linter.all false
set_option maxRecDepth 100000
namespace L2
open PySem PySem.Spec PyProof.Rows
section
variable {X : Cx} {pins : List (Addr × Obj)} {σ : List (Option V)} {H H' : Hp} {s : Shared} {h' : Heap}
theorem Inv.turnedL {t' : Nat} {ch : List Addr} (I : Inv X pins σ H s) (k : ∀ b o, b ∉ ch → s.heap.get? b = some o → h'.get? b = some o) (f : ∀ b ∈ ch, FpOk X pins H b) : Inv X pins σ H { s with heap := h', toks := t' } := by
  have nit : ∀ b u, H b = some u → b ∉ ch := fun b u e z => by rw [(f b z).1] at e; cases e
  refine I.step (g' := s.gens) (d' := s.drawn) (ch := ch) (fun b hb => ⟨(f b hb).2.2.2.1, (f b hb).2.1, (f b hb).2.2.2.2.1, (f b hb).2.2.2.2.2⟩) (fun b o _ _ hc e _ => k b o hc e) (fun b o _ _ hc e _ => ⟨o.slots, k b o hc e⟩) (fun _ _ _ _ n => n)
    (fun b o hc e => ⟨o, k b o hc e⟩) (fun _ _ e => e) (fun _ _ _ e => e) (fun b ps e => ⟨#[], by rw [e]; simp⟩) (fun m hm => ?_) (fun b u e => ?_) I.bare
  · obtain ⟨o, es, ep, ho, r⟩ := hm
    exact ⟨o, es, ep, k _ o (fun z => (f _ z).2.1 rfl) ho, r⟩
  · refine (I.hok b u e).stay (fun c v hc q => k c v ?_ q) (fun _ q => q) fun _ _ q => q
    rcases hc with z | z
    · rw [z]; exact nit b u e
    · exact nit c _ z
end
noncomputable def Ite (K : PySem.W.Frag) (a : Addr) : It :=
  ⟨fun i H => ∃ xs x, SqL K H a xs ∧ xs[i]? = some x, fun i H v H' => ∃ T x, H T = none ∧ v = .ref T ∧ (∀ xs, SqL K H a xs → xs[i]? = some x) ∧ H' = upd H T (.tup [.int i, x]), fun i H => ∃ xs, SqL K H a xs ∧ xs.length ≤ i⟩
theorem turn_enum {P : Program} {w : World} {K : PySem.W.Frag} {elts : List Expr} {k : Nat} {pos : Pos} (a e it : Addr) (hne : e ≠ it) : Turn P w K (.Tuple elts k pos) (Ite K a) [e, it] e (fun i h => (∃ old, IsEnum h e it i old) ∧ h.IsListIter it a i) where
  mem := by simp
  obj := fun i h st b hb => by
    obtain ⟨⟨old, s1⟩, o, e2, c, d⟩ := st
    rcases List.mem_cons.mp hb with rfl | hb
    · exact ⟨_, s1, fun v z => by
        have z' : Data.fields _ = Data.cell v := z
        cases z'⟩
    · have q : b = it := by simpa using hb
      subst q
      exact ⟨o, e2, fun v z => by rw [d] at z; cases z⟩
  keep := fun i h h' st k => by
    obtain ⟨⟨old, s1⟩, s2⟩ := st
    exact ⟨⟨old, k e (by simp) _ s1⟩, s2.at fun o q => k it (by simp) o q⟩
  item := by
    intro X hP hw hK hc i pins s σ H E I hf st hg
    subst hP hw hK
    obtain ⟨xs, x, hq, hx⟩ := hg
    obtain ⟨its, rv, p, hz⟩ := I.list hq
    obtain ⟨u, hu, ru⟩ := rv.get hx
    obtain ⟨⟨old, s1⟩, s2⟩ := st
    have e1 : e < s.heap.objs.size := Heap.lt_size s1
    have e2 : it < s.heap.objs.size := by obtain ⟨_, y, _⟩ := s2; exact Heap.lt_size y
    refine wpAny_pyNext_enum_item s1 s2 p.isList (x := u) (by simpa using hu) hne fun h' ho hit hT hsz kk => ⟨_, rfl, ?_⟩
    refine wpAny_letOwnedTupleGo_enum ho fun h2 he hs => ?_
    have fr : H s.heap.objs.size = none := I.fresh
    have I1 : Inv X pins σ (upd H s.heap.objs.size (.tup [.int i, x])) { s with heap := s.heap.push { cls := .type "tuple", data := .seq #[.int i s.toks, u] } } :=
      I.laid (t' := s.toks) (fun b o q => Heap.get?_push_of_some _ q) (Nat.le_refl _) (show Z4 X.prog X.w _ _ _ (.tup [.int i, x]) from ⟨by show 2 ≤ sizeLine; decide, [.int i s.toks, u], .cons ⟨_, rfl⟩ (.cons ru .nil), IsTup.new _ _⟩)
    have ff : ∀ b ∈ [e, it], FpOk X pins (upd H s.heap.objs.size (.tup [.int i, x])) b := fun b hb => by
      refine ⟨?_, (hf b hb).2⟩
      rw [Zg]
      · exact (hf b hb).1
      · rcases List.mem_cons.mp hb with rfl | hb
        · exact Nat.ne_of_lt e1
        · rw [List.mem_singleton.mp hb]; exact Nat.ne_of_lt e2
    have I2 : Inv X pins σ (upd H s.heap.objs.size (.tup [.int i, x])) { s with heap := h2, toks := s.toks + 1 } := by
      have z := Inv.turnedL (s := { s with heap := s.heap.push { cls := .type "tuple", data := .seq #[.int i s.toks, u] } }) (h' := h2) (t' := s.toks + 1) (ch := [e, it]) I1 (fun b o hb q => ?_) ff
      exact z
      have n1 : b ≠ e := fun z => hb (by simp [z])
      have n2 : b ≠ it := fun z => hb (by simp [z])
      refine (hs.2 b n1).trans ?_
      by_cases z : b = s.heap.objs.size
      · subst z
        have q' : (s.heap.push { cls := .type "tuple", data := .seq #[.int i s.toks, u] }).get? s.heap.objs.size = some o := q
        rw [Heap.get?_push_size _ rfl] at q'
        cases q'
        exact hT
      · have q' : (s.heap.push { cls := .type "tuple", data := .seq #[.int i s.toks, u] }).get? b = some o := q
        rw [Heap.get?_push_ne _ _ _ z] at q'
        exact kk b o n1 n2 q'
    refine ⟨.ref s.heap.objs.size, _, I2, rfl, ⟨s.heap.objs.size, x, fr, rfl, fun ys hy => by rw [I.list_inj hy hq]; exact hx, rfl⟩, ⟨⟨u, ?_⟩, hit.at fun o q => (hs.2 it (Ne.symm hne)).trans q⟩, fun b hb => (ff b hb).1⟩
    exact he
  done := by
    intro X hP hw hK hc i pins s σ H E I hf st hg
    subst hP hw hK
    obtain ⟨xs, hq, hx⟩ := hg
    obtain ⟨its, rv, p, hz⟩ := I.list hq
    obtain ⟨⟨old, s1⟩, s2⟩ := st
    have hl := rv.length
    obtain ⟨f0, f1, f2, f3, f4, f5⟩ := hf it (by simp)
    exact wpAny_pyNext_enum_end (I.ok.hd hc) s1 s2 p.isList (by simp; omega) fun h' eb => ⟨rfl, I.turned (t' := s.toks) (fun b o hb e => eb b o hb e) f0 f1 f3 f4 f5⟩
  self := fun _ _ _ _ _ st h => by
    obtain ⟨⟨old, s1⟩, _⟩ := st
    exact wpAny_pyIter_enum s1 h
section
variable {X : Cx}
noncomputable def iEnum (K : PySem.W.Frag) (ta : TA) : TI := fun σ H R => ta σ H fun vs H1 => ∃ a, vs = [.ref a] ∧ (∃ xs, SqL K H1 a xs) ∧ R (Ite K a) H1
theorem pi_enum {a : Expr} {ta : TA} {p pos : Pos} {elts : List Expr} {k : Nat} {tp : Pos} (hg : Gl X "enumerate") (hm : X.mg "enumerate" = none) (ha : PA X [a] ta) (hs : starEach [a] X.env = [(false, eval a X.env)] := by rfl) :
    PI X (.Tuple elts k tp) (.Call (.Name "enumerate" p) [a] [] pos) (iEnum X.K ta) := by
  intro pins s σ H R I h
  refine Call_ (ld_blt I hg hm boot_enumerate (PyProof.Rows.callWith_type1 (thn (ha pos pins s σ H _ I h) fun us s1 zz9 => ?_) hs rfl))
  obtain ⟨vs, H1, I1, r1, q1⟩ := zz9
  obtain ⟨b, e, ⟨xs, hq⟩, q⟩ := q1
  subst e
  obtain ⟨u, rfl, rx⟩ := vals1 r1
  cases rx
  obtain ⟨its, rv, pl, hz⟩ := I1.list hq
  refine call_enumerate_list pl.isList fun h' he hit hsz kk => ?_
  refine wpAny_pyIter_enum he ?_
  refine ⟨s1.heap.objs.size + 1, [s1.heap.objs.size + 1, s1.heap.objs.size], _, _, H1, rfl, I1.kept (t' := s1.toks) kk, turn_enum b _ _ (Nat.succ_ne_self _), ⟨⟨_, he⟩, hit⟩, fun c hc => ?_, q⟩
  rcases List.mem_cons.mp hc with rfl | hc
  · exact I1.fpOk (Nat.le_succ _) (I1.hok.fresh (Nat.le_succ _))
  · rw [List.mem_singleton.mp hc]
    exact I1.fpOk (Nat.le_refl _) (I1.hok.fresh (Nat.le_refl _))
end
end L2

set_option Elab.async false
set_option linter.all false
set_option maxRecDepth 100000
namespace L2
open PySem PySem.Spec PyProof.Rows
section
variable {X : Cx}
end
end L2

set_option Elab.async false
set_option linter.all false
set_option maxRecDepth 100000
namespace L2
open PySem PySem.Spec PyProof.Rows
section
variable {X : Cx}
theorem sl_str : SlR X (fun x lo hi H Q => ∃ z, x = .str z ∧ z.length ≤ sizeLine ∧ Q (.str (Txt.slice z lo hi)) H) := by
  intro pins s σ H x v vl vu lo hi sl Q I rx hs pl pu h
  obtain ⟨z, rfl, hz, q⟩ := h
  obtain ⟨t, rfl⟩ := rx
  refine ⟨"str", _, F.slot_str_getitem.lookup, typeIs_str _ _ _, ?_⟩
  cases pl with
  | none =>
    cases pu with
    | none => exact wpAny_getItem_str_slice (l := none) (u := none) (st := none) hs rfl (post_val_or_str ⟨Nat.le_trans (Txt.slice_le z _ _) hz, fun t' k => ⟨.str _, H, I.tok _, ⟨t', rfl⟩, q⟩⟩)
    | int j uj => exact wpAny_getItem_str_slice (l := none) (u := some (j, uj)) (st := none) hs rfl (post_val_or_str ⟨Nat.le_trans (Txt.slice_le z _ _) hz, fun t' k => ⟨.str _, H, I.tok _, ⟨t', rfl⟩, q⟩⟩)
  | int i ui =>
    cases pu with
    | none => exact wpAny_getItem_str_slice (l := some (i, ui)) (u := none) (st := none) hs rfl (post_val_or_str ⟨Nat.le_trans (Txt.slice_le z _ _) hz, fun t' k => ⟨.str _, H, I.tok _, ⟨t', rfl⟩, q⟩⟩)
    | int j uj => exact wpAny_getItem_str_slice (l := some (i, ui)) (u := some (j, uj)) (st := none) hs rfl (post_val_or_str ⟨Nat.le_trans (Txt.slice_le z _ _) hz, fun t' k => ⟨.str _, H, I.tok _, ⟨t', rfl⟩, q⟩⟩)
end
end L2

set_option Elab.async false
set_option linter.all false
-- mathematics of k01, plain Lean
namespace Sh
noncomputable def G (a b : Int) : Int := (Nat.gcd a.toNat b.toNat : Int)
structure Low (n d q r : Int) : Prop where
  q0 : 0 ≤ q
  r0 : 0 < r
  g : G q r = 1
  eq : q * d = n * r
theorem G_pos {a b : Int} (hb : 0 < b) : 0 < G a b := by
  unfold G
  have := Nat.gcd_pos_of_pos_right a.toNat (show 0 < b.toNat by omega)
  omega
theorem low {n d : Int} (hn : 0 ≤ n) (hd : 0 < d) : Low n d (n / G n d) (d / G n d) := by
  have g0 := G_pos (a := n) hd
  have e1 : n / G n d = ((n.toNat / Nat.gcd n.toNat d.toNat : Nat) : Int) := by
    conv => lhs; rw [show n = (n.toNat : Int) by omega]
    unfold G
    rw [Int.toNat_natCast]
    rfl
  have e2 : d / G n d = ((d.toNat / Nat.gcd n.toNat d.toNat : Nat) : Int) := by
    conv => lhs; lhs; rw [show d = (d.toNat : Int) by omega]
    unfold G
    rfl
  have p : 0 < Nat.gcd n.toNat d.toNat := Nat.gcd_pos_of_pos_right n.toNat (show 0 < d.toNat by omega)
  have dv1 := Nat.gcd_dvd_left n.toNat d.toNat
  have dv2 := Nat.gcd_dvd_right n.toNat d.toNat
  rw [e1, e2]
  refine ⟨Int.natCast_nonneg _, ?_, ?_, ?_⟩
  · have := Nat.div_pos (Nat.le_of_dvd (show 0 < d.toNat by omega) dv2) p
    omega
  · unfold G
    rw [Int.toNat_natCast, Int.toNat_natCast, Nat.gcd_div dv1 dv2, Nat.div_self p]
    rfl
  · have : n.toNat / Nat.gcd n.toNat d.toNat * d.toNat = n.toNat * (d.toNat / Nat.gcd n.toNat d.toNat) := by
      obtain ⟨x, hx⟩ := dv1
      obtain ⟨y, hy⟩ := dv2
      have x1 : n.toNat / Nat.gcd n.toNat d.toNat = x := by
        conv => lhs; lhs; rw [hx]
        exact Nat.mul_div_cancel_left x p
      have y1 : d.toNat / Nat.gcd n.toNat d.toNat = y := by
        conv => lhs; lhs; rw [hy]
        exact Nat.mul_div_cancel_left y p
      rw [x1, y1]
      conv => lhs; rw [hy]
      conv => rhs; rw [hx]
      rw [Nat.mul_left_comm, Nat.mul_assoc]
    have h := congrArg (fun z : Nat => (z : Int)) this
    have h1 : (n.toNat : Int) = n := by omega
    have h2 : (d.toNat : Int) = d := by omega
    simp only [Int.natCast_mul, h1, h2] at h
    exact h
end Sh
namespace Sh
end Sh
namespace L2
open PySem PySem.Spec PyProof.Rows
noncomputable def ltS (a b : Str) : Prop := a.cps.toList < b.cps.toList
instance (a b : Str) : Decidable (ltS a b) := inferInstanceAs (Decidable (a.cps.toList < b.cps.toList))
theorem J2 {a b : Str} (h : a.cps.toList = b.cps.toList) : a = b := by
  cases a; cases b
  simp at h
  rw [h]
noncomputable abbrev En := Str × Int × Int
noncomputable abbrev Ws := List (En × Addr)
noncomputable def keys (es : List En) : List Str := es.map (·.1)
noncomputable def LedW (H : Hp) (l : Addr) (ws : Ws) : Prop := H l = some (.lst (ws.map fun w => V.ref w.2)) ∧ ∀ w ∈ ws, H w.2 = some (.tup [.str w.1.1, .int w.1.2.1, .int w.1.2.2])
noncomputable def Led (H : Hp) (l : Addr) (es : List En) : Prop := ∃ ws : Ws, ws.map (·.1) = es ∧ LedW H l ws
noncomputable def DicW (K : PySem.W.Frag) (H : Hp) (d : Addr) (ws : Ws) : Prop := H d = some (.dK (ws.map fun w => ((Sum.inr w.1.1 : Key), V.ref w.2))) ∧ ∀ w ∈ ws, SqT K H w.2 [.int w.1.2.1, .int w.1.2.2]
noncomputable def Dic (K : PySem.W.Frag) (H : Hp) (d : Addr) (es : List En) : Prop := ∃ ws : Ws, ws.map (·.1) = es ∧ DicW K H d ws
noncomputable def fnd (es : List En) (k : Str) : Option En := es.find? fun e => decide (e.1 = k)
noncomputable def look (es : List En) (k : Str) : Int × Int := match fnd es k with | some e => e.2 | none => (0, 1)
noncomputable def putE (es : List En) (k : Str) (n d : Int) : List En := if (es.any fun e => decide (e.1 = k)) = true then es.map (fun e => if e.1 = k then (k, n, d) else e) else es ++ [(k, n, d)]
noncomputable def putW (ws : Ws) (k : Str) (w' : En × Addr) : Ws := if (ws.any fun w => decide (w.1.1 = k)) = true then ws.map (fun w => if w.1.1 = k then w' else w) else ws ++ [w']
noncomputable def Can (es es' : List En) : Prop := es'.Pairwise (fun a b => ltS a.1 b.1) ∧ (∀ e, e ∈ es' ↔ e ∈ es ∧ e.2.1 ≠ 0) ∧ es'.length ≤ es.length
end L2

set_option Elab.async false
set_option linter.all false
set_option maxRecDepth 100000
namespace L2
open PySem PySem.Spec PyProof.Rows
theorem for_enum {K : PySem.W.Frag} {a : Addr} {xs : List V} {g : TG} {tb : TS} {D : Ends} {σ : St} {H : Hp} (Pv : Nat → St → Hp → Prop) (h0 : Pv 0 σ H) (hl : ∀ i σ H, i ≤ xs.length → Pv i σ H → SqL K H a xs)
    (hs : ∀ i x σ H T, xs[i]? = some x → Pv i σ H → H T = none → g (.ref T) σ (upd H T (.tup [.int i, x])) fun σ2 H2 => tb { D with nx := Pv (i + 1), ct := Pv (i + 1), bk := D.nx } σ2 H2) (hd : ∀ σ H, Pv xs.length σ H → D.nx σ H) :
    ∃ W : Nat → Nat → St → Hp → Prop, (∃ m, W 0 m σ H) ∧ ∀ i m σ H, W i m σ H →
      ((Ite K a).stop i H ∧ D.nx σ H) ∨ ((Ite K a).go i H ∧ ∃ N : St → Hp → Prop, (∀ σ' H', N σ' H' → ∃ m', m' < m ∧ W (i + 1) m' σ' H') ∧ ∀ x H', (Ite K a).yld i H x H' → g x σ H' fun σ2 H2 => tb { D with nx := N, ct := N, bk := D.nx } σ2 H2) := by
  refine ⟨fun i m σ H => m = xs.length - i ∧ i ≤ xs.length ∧ Pv i σ H, ⟨xs.length, by simp, Nat.zero_le _, h0⟩, ?_⟩
  rintro i m σ H ⟨rfl, hi, p⟩
  have q := hl i σ H hi p
  by_cases hlt : i < xs.length
  · refine .inr ⟨⟨xs, xs[i], q, by simp [hlt]⟩, Pv (i + 1), fun σ' H' p' => ⟨xs.length - (i + 1), by omega, rfl, hlt, p'⟩, fun x H' y => ?_⟩
    obtain ⟨T, z, hT, rfl, hz, rfl⟩ := y
    exact hs i z σ H T (hz xs q) p hT
  · have e : i = xs.length := by omega
    subst e
    exact .inl ⟨⟨xs, q, Nat.le_refl _⟩, hd σ H p⟩
theorem take_next {α : Type} {l : List α} {i : Nat} (hi : i < l.length) : l.take i ++ [l[i]] = l.take (i + 1) := by
  rw [List.take_succ, List.getElem?_eq_getElem hi]
  rfl
theorem same_put1 {G H : Hp} {D : Addr} {u : HO} (sm : Zo G H) (hD : G D = none) : Zo G (upd H D u) := fun b x e => by
  rw [Zg (Zx e hD)]
  exact sm b x e
end L2

set_option Elab.async false
set_option linter.all false
set_option maxRecDepth 100000
namespace L2
open PySem PySem.Spec PyProof.Rows
section
variable {P : Program} {w : World} {K : PySem.W.Frag} {mg : Str → Option Value} {base : Heap} {N : List Str} {qual : Str} {scope : Scope} {f : Addr} {cd : Value} {A : Around} {outer : List Env} {s0 : Shared} {H0 : Hp} {E : XK}
theorem Xh : Jb (CXR P w base) (Xn (CXR P w base) P w K mg base N qual scope f cd A outer s0 H0 E) E := by
  intro pins σ H s e s2 I h
  obtain ⟨ex, T0, C, H2, rfl, os, bare, un, hok, fly, Ha, HT, ha, hT, q2⟩ := h
  have I2 : Inv (Xn (CXR P w base) P w K mg base N qual scope f cd A outer s0 H0 E) pins σ H2 s2 := I.call' (ch := []) os un hok bare fun b z => absurd z (by simp)
  obtain ⟨y1, y2, y3, a0, oe0, vs0, oT0, ts0, z1, z2, z3, z4, z5, z6, z7, z8, z9⟩ := fly
  let fr := frs (envOfC qual scope s0.heap.objs.size f cd :: outer)
  let B := PySem.W.hideAll s2.heap (ex :: T0 :: fr)
  have hin : ∀ env ∈ (envOfC qual scope s0.heap.objs.size f cd :: outer), ∀ b, env.frame = some b → b ∈ ex :: T0 :: fr := fun env he b hb => List.mem_cons_of_mem _ (List.mem_cons_of_mem _ (List.mem_filterMap.mpr ⟨env, he, hb⟩))
  have stk : s2.heap.FunFrames base (envOfC qual scope s0.heap.objs.size f cd :: outer) := I2.stack
  have notL : ∀ b o, s0.heap.get? b = some o → b ≠ s0.heap.objs.size := fun b o e => Nat.ne_of_lt (Heap.lt_size e)
  have inB : ∀ b o, s2.heap.get? b = some o → b ∉ ex :: T0 :: fr → B.get? b = some o := fun b o e n => PySem.W.hideAll_get _ e n
  have hid : ∀ b, b ∈ ex :: T0 :: fr → B.get? b = none := fun b hb => PySem.W.hideAll_none _ hb
  have up : ∀ b o, s0.heap.get? b = some o → ∃ o', s.heap.get? b = some o' := fun b o z => I.base.there b o z (fun q => absurd (show b ∈ ([] : List Addr) from q) (by simp))
  have no0 : ∀ b, s.heap.get? b = none → s0.heap.get? b = none := fun b n => by
    cases z : s0.heap.get? b with
    | none => rfl
    | some o =>
      obtain ⟨o', z'⟩ := up b o z
      rw [n] at z'; cases z'
  have no2 : ∀ b, s2.heap.get? b = none → s0.heap.get? b = none := fun b n => by
    cases z : s0.heap.get? b with
    | none => rfl
    | some o =>
      obtain ⟨o', z'⟩ := I2.base.there b o z (fun q => absurd (show b ∈ ([] : List Addr) from q) (by simp))
      rw [n] at z'; cases z'
  have nex : ∀ b, b ∉ (Xn (CXR P w base) P w K mg base N qual scope f cd A outer s0 H0 E).ex := fun b q => absurd (show b ∈ ([] : List Addr) from q) (by simp)
  have notIn : ∀ b o, s0.heap.get? b = some o → b ∉ frs outer → b ∉ ex :: T0 :: fr := fun b o z n hb => by
    rcases List.mem_cons.mp hb with r | hb
    · rw [r, no0 _ ha] at z; cases z
    · rcases List.mem_cons.mp hb with r | hb
      · rw [r, no0 _ hT] at z; cases z
      · exact I2.stkNo (notL b o z) n hb
  show wpAny (model P w) (A.deeper (envOfC qual scope s0.heap.objs.size f cd)) (leaving (envOfC qual scope s0.heap.objs.size f cd) (.ref ex)) (fun _ s'' => CXR P w base outer H0 s0 E (.ref ex) s'') (fun e' s'' => CXR P w base outer H0 s0 E e' s'') s2
  refine wpAny_leaves_onW (base := B) (L := s0.heap.objs.size) (cls := C) (a0 := a0) I2.ok.frames rfl ⟨fun b o z => PySem.W.of_hideAll _ z, hid ex (List.mem_cons_self ..), PySem.W.funFrames_hide stk hin, oe0, vs0, T0, oT0, ts0, z1, z2, z3, z4, hid T0 (List.mem_cons_of_mem _ (List.mem_cons_self ..)), z6, z7, z8, z9⟩ fun h'' fl U => ?_
  obtain ⟨f1, f2, f3, oe, vs, Tr, oT, ts, g1, g2, g3, g4, g5, g6, g7, g8, g9⟩ := fl
  have U2 : ∀ b o, s2.heap.get? b = some o → (∀ vs, o.data ≠ .fields vs) → ∃ sl, h''.get? b = some { o with slots := sl } := fun b o z n => U b o z n
  have baseB : base.StaysIn B := fun b o z => inB b o (I2.bk b o z) fun hb => by
    rcases List.mem_cons.mp hb with r | hb
    · rw [r, y2] at z; cases z
    · rcases List.mem_cons.mp hb with r | hb
      · rw [r, z5] at z; cases z
      · rw [(stk.mem hb).1] at z; cases z
  have trN : H2 Tr = none ∧ s0.heap.get? Tr = none := by
    cases z : s2.heap.get? Tr with
    | none => exact ⟨I2.untr z, no2 _ z⟩
    | some o =>
      by_cases hb : Tr ∈ ex :: T0 :: fr
      · rcases List.mem_cons.mp hb with r | hb
        · exact absurd r g6
        · rcases List.mem_cons.mp hb with r | hb
          · rw [r]; exact ⟨HT, no0 _ hT⟩
          · obtain ⟨_, o', ho', d'⟩ := stk.mem hb
            obtain ⟨sl, z2'⟩ := U2 Tr o' ho' d'
            rw [g7] at z2'
            have z3' := congrArg (fun q : Option Obj => q.map (·.data)) z2'
            simp only [Option.map_some, g8] at z3'
            exact absurd (Option.some.inj z3').symm (d' ts)
      · rw [inB Tr o z hb] at g5
        cases g5
  refine ⟨ex, Tr, C, H2, rfl, I2.os, I2.bare, ⟨fun b o z n hb _ => ?_, fun b o z n hb _ => ?_, fun b o z n _ => I2.base.free b o z n (nex b), fun b o z _ => ?_, I2.base.tups, I2.base.frzs, I2.base.tbls⟩, fun b u z => ?_, ⟨fun b o z => f1 b o (baseB b o z), y2, PySem.W.funFrames_base baseB f3, a0, oe, vs, oT, ts, g1, g2, g3, g4, ?_, g6, g7, g8, g9⟩, Ha, trN.1, no0 _ ha, trN.2, q2⟩
  · exact f1 b o (inB b o (I2.base.keep b o z n hb (nex b)) (notIn b o z hb))
  · obtain ⟨sl, w1⟩ := I2.base.slot b o z n hb (nex b)
    obtain ⟨_, o', ho', d'⟩ := I2.ok.funs.mem hb
    have : o' = o := by rw [show (Xn (CXR P w base) P w K mg base N qual scope f cd A outer s0 H0 E).s₀.heap.get? b = some o from z] at ho'; exact (Option.some.inj ho').symm
    subst this
    obtain ⟨sl', w2⟩ := U2 b _ w1 (fun vs => d' vs)
    exact ⟨sl', w2⟩
  · by_cases hb : b ∈ fr
    · obtain ⟨_, o', ho', d'⟩ := stk.mem hb
      obtain ⟨sl, w2⟩ := U2 b o' ho' d'
      exact ⟨_, w2⟩
    · obtain ⟨o', z'⟩ := I2.base.there b o z (nex b)
      refine ⟨o', f1 b o' (inB b o' z' fun hb' => ?_)⟩
      rcases List.mem_cons.mp hb' with r | hb'
      · rw [r, no0 _ ha] at z; cases z
      · rcases List.mem_cons.mp hb' with r | hb'
        · rw [r, no0 _ hT] at z; cases z
        · exact hb hb'
  · refine (I2.hok b u z).stay (fun c v hc q => ?_) (fun _ q => q) fun _ _ q => q
    have tr : ∀ c v, H2 c = some v → c ∉ ex :: T0 :: fr := fun c v q n => by
      rcases List.mem_cons.mp n with r | n
      · rw [r, Ha] at q; cases q
      · rcases List.mem_cons.mp n with r | n
        · rw [r, HT] at q; cases q
        · rw [I2.stkFree c n] at q; cases q
    rcases hc with hc | hc
    · rw [hc] at q ⊢
      exact f1 b v (inB b v q (tr b u z))
    · exact f1 c v (inB c v q (tr c _ hc))
  · cases z : base.get? Tr with
    | none => rfl
    | some o =>
      rw [baseB Tr o z] at g5
      cases g5
end
noncomputable def tFnX (sp : Sp) (E : XK) (t : TA) : TE := fun σ H Q => t σ H fun vs H1 => sp vs H1 Q E
theorem J9 {X : Cx} {k : Nat} {x : Str} {ps : List Str} {sp : Sp} {E : XK} {p pos : Pos} {e : Expr} {es : List Expr} {t : TA} (hx : Jb (CXR X.prog X.w X.base) X E) (D : Dx X.prog X.w X.K X.mg X.base k x ps sp) (hr : Room k X.A) (ha : PA X (e :: es) t) (hg : Gl X x := by rfl) (hdb : (x == ("__debug__" : Str)) = false := by decide)
    (he : starEach (e :: es) X.env = (false, eval e X.env) :: starEach es X.env := by rfl) (hpl : (backTo pos (starEach es X.env)).any (·.1) = false := by rfl) :
    PE X (.Call (.Name x p) (e :: es) [] pos) (tFnX sp E t) := by
  obtain ⟨f, fd, F, hm, hk, hb⟩ := D.ex
  have q := pe_call (p := p) (pos := pos) F hr hg hm hk hb .nil hx ha hdb he hpl
  have e : tCall sp [] E t = tFnX sp E t := by
    funext σ H Q
    show t σ H (fun vs H1 => sp (vs ++ []) H1 Q E) = t σ H fun vs H1 => sp vs H1 Q E
    simp only [List.append_nil]
  rw [← e]
  exact q
end L2

set_option Elab.async false
set_option linter.all false
set_option maxRecDepth 100000
namespace L2
open PySem PySem.Spec PyProof.Rows
theorem relK {k : Key} {u : Value} (h : keyIs k u = true) : ZE (kV k) u := by
  rcases Z3 h with ⟨i, t, e, rfl⟩ | ⟨x, t, e, rfl⟩
  · subst e; exact ⟨t, rfl⟩
  · subst e; exact ⟨t, rfl⟩
theorem frz_at {X : Cx} {pins : List (Addr × Obj)} {σ : St} {H : Hp} {s : Shared} {d : Addr} {o : Obj} {kvs : List (Key × V)} {es : Array DictEntry} {ep : Nat} (I : Inv X pins σ H s) (h : H d = some (.frz o (.dK kvs))) (ho : o.data = .dict es ep) :
    ∃ vs, KV kvs vs ∧ s.heap.DictAt (Z0 X.prog X.w) d vs ep := by
  obtain ⟨g, _, _, vs, rel, dd⟩ := (show Z4 X.prog X.w H s.heap d (.frz o (.dK kvs)) from I.hok d _ h)
  obtain ⟨ep', hat⟩ := dd.dictAt
  obtain ⟨o', es', h1, h2, h3, h4⟩ := id hat
  rw [g] at h1
  cases h1
  rw [ho] at h3
  cases h3
  exact ⟨vs, rel, hat⟩
noncomputable def Itd (d : Addr) (o : Obj) (kvs : List (Key × V)) : It :=
  ⟨fun i H => H d = some (.frz o (.dK kvs)) ∧ i < kvs.length, fun i H x H' => H' = H ∧ ∃ k v, kvs[i]? = some (k, v) ∧ x = kV k, fun i H => H d = some (.frz o (.dK kvs)) ∧ kvs.length ≤ i⟩
theorem turn_dict {P : Program} {w : World} {K : PySem.W.Frag} {tg : Expr} (d it : Addr) (o : Obj) (kvs : List (Key × V)) (es : Array DictEntry) (ep : Nat) (ho : o.data = .dict es ep) : Turn P w K tg (Itd d o kvs) [it] it (fun i h => h.IsKeyIter it d i kvs.length ep) where
  mem := by simp
  obj := fun i h st b hb => by
    have e : b = it := by simpa using hb
    subst e
    obtain ⟨o, e, c, d⟩ := st
    exact ⟨o, e, fun v z => by rw [d] at z; cases z⟩
  keep := fun i h h' st k => st.at fun o e => k it (by simp) o e
  item := by
    intro X hP hw hK hc i pins s σ H E I hf st hg
    subst hP hw hK
    obtain ⟨hfr, hi⟩ := hg
    obtain ⟨vs, rel, hat⟩ := frz_at I hfr ho
    have hl : kvs.length = vs.length := rel.length
    obtain ⟨⟨k, x⟩, hx⟩ : ∃ p, vs[i]? = some p := ⟨vs[i]'(by omega), List.getElem?_eq_getElem (by omega)⟩
    obtain ⟨y, hy⟩ := kv_at rel hx
    obtain ⟨f0, f1, f2, f3, f4, f5⟩ := hf it (by simp)
    rw [hl] at st
    refine wpAny_pyNext_dict_item st hat hx fun key h' hkey st' sb => ?_
    have I1 : Inv X pins σ H { s with heap := h' } := I.turned (t' := s.toks) (fun b o hb e => (sb.2 b hb).trans e) f0 f1 f3 f4 f5
    rw [← hl] at st'
    obtain ⟨o2, e, c, d2⟩ := id st'
    exact ⟨key, rfl, go_of (s := { s with heap := h' }) e c d2 (by decide) ⟨kV k, H, I1, relK hkey, ⟨rfl, k, y, hy, rfl⟩, st', fun b hb => (hf b hb).1⟩⟩
  done := by
    intro X hP hw hK hc i pins s σ H E I hf st hg
    subst hP hw hK
    obtain ⟨hfr, hi⟩ := hg
    obtain ⟨vs, rel, hat⟩ := frz_at I hfr ho
    have hl : kvs.length = vs.length := rel.length
    obtain ⟨f0, f1, f2, f3, f4, f5⟩ := hf it (by simp)
    rw [hl] at st
    exact wpAny_pyNext_dict_end (I.ok.hd hc) st hat (by simp; omega) fun h' eb => ⟨rfl, I.turned (t' := s.toks) (fun b o hb e => eb b o hb e) f0 f1 f3 f4 f5⟩
  self := fun _ _ _ _ _ st h => wpAny_pyIter_keyiter st h
noncomputable def iDict (tl : TE) : TI := fun σ H R => tl σ H fun x H1 => ∃ d kvs, x = .ref d ∧ H1 d = some (.dK kvs) ∧ ∀ o, R (Itd d o kvs) (upd H1 d (.frz o (.dK kvs)))
theorem pi_dict {X : Cx} {tg l : Expr} {tl : TE} (hl : PE X l tl) : PI X tg l (iDict tl) := by
  intro pins s σ H R I h
  refine thn (hl pins s σ H _ I h) fun v s1 zz9 => ?_
  obtain ⟨x, H1, I1, r1, q1⟩ := zz9
  obtain ⟨d, kvs, e, hd, q⟩ := q1
  subst e
  cases r1
  obtain ⟨z, lo, vs, rel, dd⟩ := dk_of I1.hok hd
  obtain ⟨ep, hat⟩ := dd.dictAt
  obtain ⟨o, es, h1, h2, h3, h4⟩ := id hat
  have hl : kvs.length = vs.length := rel.length
  have I2 : Inv X pins σ (upd H1 d (.frz o (.dK kvs))) s1 := I1.write (t' := s1.toks) (h' := s1.heap) (x := d) (e := d) (by rw [hd]; exact True.intro) (.inl rfl) (fun b u _ q => q) ⟨o, h1⟩ ⟨h1, z, lo, vs, rel, dd⟩
  refine wpAny_pyIter_dict lo hat ?_
  refine ⟨s1.heap.objs.size, [s1.heap.objs.size], _, _, _, rfl, I2.kept (t' := s1.toks) fun b o e => Heap.get?_push_of_some _ e, turn_dict d _ o kvs es ep h3, ⟨_, Heap.get?_push_size _ rfl, rfl, by rw [hl]; rfl⟩, fun b hb => ?_, q o⟩
  have e : b = s1.heap.objs.size := by simpa using hb
  subst e
  exact I2.fpOk (Nat.le_refl _) (I2.hok.fresh (Nat.le_refl _))
end L2

set_option Elab.async false
set_option linter.all false
set_option maxRecDepth 100000
namespace L2
open PySem PySem.Spec PyProof.Rows
end L2

set_option Elab.async false
set_option linter.all false
namespace L2
open PySem PySem.Spec PyProof.Rows
noncomputable def vl (n d : Int) : Rat := (n : Rat) / (d : Rat)
end L2

set_option Elab.async false
set_option linter.all false
set_option maxRecDepth 100000
namespace L2
open PySem PySem.Spec PyProof.Rows
theorem vals_sv : ∀ (l : List (Str × Tok)), ZO ((l.map (·.1)).map V.str) (strValues l)
  | [] => .nil
  | (x, t) :: r => .cons ⟨t, rfl⟩ (vals_sv r)
section
variable {X : Cx}
theorem op_gt_str : OpR X (compareOp .Gt) (fun x y H Q => ∃ i j, x = .str i ∧ y = .str j ∧ Q (.bl (decide (j.cps.toList < i.cps.toList))) H) := by
  intro pins s σ H x y v u Q I rx ry h
  obtain ⟨i, j, rfl, rfl, q⟩ := h
  obtain ⟨t, rfl⟩ := rx
  obtain ⟨t', rfl⟩ := ry
  exact PySem.P.gt_str (ZH I q rfl)
theorem call_int_text : Jw X (.type "int") (fun xs H Q => ∃ z n, xs = [.str z] ∧ PySem.intText? z = some n ∧ z.length ≤ 640 ∧ Q (.int n) H) := by
  intro pins s σ H xs us Q I r h
  obtain ⟨z, n, rfl, hn, hl, q⟩ := h
  obtain ⟨u, rfl, t, rfl⟩ := vals1 r
  exact PySem.W.KIN.call_text hn hl ⟨.int n, H, I.tok _, ⟨_, rfl⟩, q⟩
noncomputable def rSplit : V → List V → Hp → VK → Prop := fun x xs H Q => ∃ z y, x = .str z ∧ xs = [.str y] ∧ (y.length == 0) = false ∧ z.length ≤ sizeLine ∧ (Builtin.Str.partsBetween z (Builtin.Str.occurrences z y 0 z.length (z.length + 1)) y.length).length ≤ sizeLine ∧
  ∀ l, H l = none → Q (.ref l) (upd H l (.lst ((Txt.split z y).map V.str)))
theorem mt_split : MtR X "str.split" rSplit := by
  intro pins s σ H x xs v us Q I rx rv h
  obtain ⟨z, y, rfl, rfl, hy, hz, hz2, q⟩ := h
  obtain ⟨t, rfl⟩ := rx
  obtain ⟨u, rfl, t', rfl⟩ := vals1 rv
  have fin : ∀ (l : List (Str × Tok)) (tk : Nat), l.map (·.1) = Txt.split z y → l.length ≤ sizeLine → EP X pins σ Q (.ref s.heap.objs.size) { s with heap := s.heap.push { cls := .type "list", data := .seq (strValues l).toArray }, toks := tk } := fun l tk e hl =>
    ⟨.ref s.heap.objs.size, _, I.laid (t' := tk) (o := .lst ((Txt.split z y).map V.str)) (fun _ _ w => Heap.get?_push_of_some _ w) (Nat.le_refl _) ⟨by rw [List.length_map, ← e, List.length_map]; exact hl, strValues l, 0, by rw [← e]; exact vals_sv l, Heap.get?_push_size _ rfl⟩, rfl, q _ I.fresh⟩
  cases h1 : (decide (z.length < y.length) || decide (Builtin.Str.strKind z < Builtin.Str.strKind y))
  · cases hf : (Builtin.Str.occurrences z y 0 z.length (z.length + 1)).isEmpty
    · refine call_meets F.slot_str_split (typeIs_str _ _ _) F.entry_str_split (F.args_str_split_2 _ _) (meets_str_split_sep z y t t' h1 hy hf hz hz2) ?_
      have w := fin (numbered s.toks (Builtin.Str.partsBetween z (Builtin.Str.occurrences z y 0 z.length (z.length + 1)) y.length)) (s.toks + (Builtin.Str.partsBetween z (Builtin.Str.occurrences z y 0 z.length (z.length + 1)) y.length).length) ((numbered_texts _ _).trans (by unfold Txt.split; rw [h1, hf]; rfl)) (by rw [← List.length_map (f := (·.1)), numbered_texts]; exact hz2)
      rw [← strsFrom_eq] at w
      exact w
    · exact call_meets F.slot_str_split (typeIs_str _ _ _) F.entry_str_split (F.args_str_split_2 _ _) (meets_str_split_not_found z y t t' h1 hy hf) (fin [(z, t)] s.toks (by unfold Txt.split; rw [h1, hf]; rfl) (by show 1 ≤ sizeLine; decide))
  · exact call_meets F.slot_str_split (typeIs_str _ _ _) F.entry_str_split (F.args_str_split_2 _ _) (meets_str_split_cannot_occur z y t t' h1) (fin [(z, t)] s.toks (by unfold Txt.split; rw [h1]; rfl) (by show 1 ≤ sizeLine; decide))
noncomputable def rRpart : V → List V → Hp → VK → Prop := fun x xs H Q => ∃ z y, x = .str z ∧ xs = [.str y] ∧ (y.length == 0) = false ∧ z.length ≤ sizeLine ∧
  ∀ l, H l = none → Q (.ref l) (upd H l (.tup (match Builtin.Str.lastOccurrence z y 0 z.length with | some i => [V.str (Builtin.Str.strSub z 0 i), V.str y, V.str (Builtin.Str.strSub z (i + y.length) z.length)] | none => [V.str Str.empty, V.str Str.empty, V.str z])))
theorem mt_rpart : MtR X "str.rpartition" rRpart := by
  intro pins s σ H x xs v us Q I rx rv h
  obtain ⟨z, y, rfl, rfl, hy, hz, q⟩ := h
  obtain ⟨t, rfl⟩ := rx
  obtain ⟨u, rfl, t', rfl⟩ := vals1 rv
  refine call_meets F.slot_str_rpartition (typeIs_str _ _ _) F.entry_str_rpartition (F.args_str_rpartition_2 _ _) (meets_str_rpartition z y t t' hy hz) ?_
  revert q
  cases Builtin.Str.lastOccurrence z y 0 z.length with
  | some i =>
    intro q
    exact ⟨.ref s.heap.objs.size, _, I.laid (t' := s.toks + 1 + 1) (o := .tup [V.str (Builtin.Str.strSub z 0 i), V.str y, V.str (Builtin.Str.strSub z (i + y.length) z.length)]) (fun _ _ w => Heap.get?_push_of_some _ w) (Nat.le_refl _) ⟨by show 3 ≤ sizeLine; decide, _, .cons ⟨_, rfl⟩ (.cons ⟨_, rfl⟩ (.cons ⟨_, rfl⟩ .nil)), IsTup.new _ _⟩, rfl, q _ I.fresh⟩
  | none =>
    intro q
    exact ⟨.ref s.heap.objs.size, _, I.laid (t' := s.toks + 1) (o := .tup [V.str Str.empty, V.str Str.empty, V.str z]) (fun _ _ w => Heap.get?_push_of_some _ w) (Nat.le_refl _) ⟨by show 3 ≤ sizeLine; decide, _, .cons ⟨_, rfl⟩ (.cons ⟨_, rfl⟩ (.cons ⟨_, rfl⟩ .nil)), IsTup.new _ _⟩, rfl, q _ I.fresh⟩
noncomputable def rRfind : V → List V → Hp → VK → Prop := fun x xs H Q => ∃ z y, x = .str z ∧ xs = [.str y] ∧ Q (.int (match Builtin.Str.lastOccurrence z y 0 z.length with | some i => (i : Int) | none => -1)) H
theorem mt_rfind : MtR X "str.rfind" rRfind := by
  intro pins s σ H x xs v us Q I rx rv h
  obtain ⟨z, y, rfl, rfl, q⟩ := h
  obtain ⟨t, rfl⟩ := rx
  obtain ⟨u, rfl, t', rfl⟩ := vals1 rv
  refine call_meets F.slot_str_rfind (typeIs_str _ _ _) F.entry_str_rfind (F.args_str_rfind_2 _ _) (gives_str_rfind z y t t').meets ?_
  exact ⟨.int _, H, I.tok _, ⟨_, rfl⟩, q⟩
noncomputable def Its (x : Str) : It := ⟨fun i _ => i < x.cps.size, fun i H v H' => H' = H ∧ ∃ c, x.cps[i]? = some c ∧ v = .str ⟨#[c]⟩, fun i _ => x.cps.size ≤ i⟩
theorem walk_str {prog : Program} {w : World} {A : Around} (hh : A.handled = none) (it : Addr) (x : Str) (t : Tok) : Walks prog w A it [it] [it] x.cps.size (SignAt x) (fun i h => h.IsStrIter it (strIterType x) x t i) := by
  cases ha : x.cps.all (· < 128) with
  | true =>
    have e : strIterType x = "str_ascii_iterator" := by unfold strIterType; rw [ha]; rfl
    rw [e]
    exact Walks.strAscii hh it x t
  | false =>
    have e : strIterType x = "str_iterator" := by unfold strIterType; rw [ha]; rfl
    rw [e]
    exact Walks.strWide hh it x t
theorem turn_str {P : Program} {w : World} {K : PySem.W.Frag} {tg : Expr} (it : Addr) (x : Str) (t : Tok) : Turn P w K tg (Its x) [it] it (fun i h => h.IsStrIter it (strIterType x) x t i) where
  mem := by simp
  obj := fun i h st b hb => by
    have e : b = it := by simpa using hb
    subst e
    obtain ⟨o, e, c, d⟩ := st
    exact ⟨o, e, fun v z => by rw [d] at z; cases z⟩
  keep := fun i h h' st k => by
    obtain ⟨o, e, r⟩ := st
    exact ⟨o, k it (by simp) o e, r⟩
  item := by
    intro X hP hw hK hc i pins s σ H E I hf st hg
    subst hP hw hK
    obtain ⟨f0, f1, f2, f3, f4, f5⟩ := hf it (by simp)
    refine (walk_str (prog := X.prog) (w := X.w) (I.ok.hd hc) it x t).item i s _ _ hg st fun v h' tk hv st' kk => ?_
    obtain ⟨c, u, hc', rfl⟩ := hv
    have I1 : Inv X pins σ H { s with heap := h', toks := tk } := I.turned (fun b o hb e => kk b o (by simpa using hb) e) f0 f1 f3 f4 f5
    obtain ⟨o2, e, cl, d2⟩ := id st'
    refine ⟨_, rfl, go_of (s := { s with heap := h', toks := tk }) e cl d2 ?_ ⟨.str ⟨#[c]⟩, H, I1, ⟨u, rfl⟩, ⟨rfl, c, hc', rfl⟩, st', fun b hb => (hf b hb).1⟩⟩
    unfold strIterType
    cases x.cps.all (· < 128) <;> decide
  done := by
    intro X hP hw hK hc i pins s σ H E I hf st hg
    subst hP hw hK
    obtain ⟨f0, f1, f2, f3, f4, f5⟩ := hf it (by simp)
    have hn : x.cps[i]? = none := Array.getElem?_eq_none hg
    have fin : ∀ h', Heap.ExtBut it s.heap h' → (none : Option Value) = none ∧ Inv X pins σ H { s with heap := h' } := fun h' eb => ⟨rfl, I.turned (t' := s.toks) (fun b o hb e => eb b o hb e) f0 f1 f3 f4 f5⟩
    cases ha : x.cps.all (· < 128) with
    | true =>
      rw [show strIterType x = "str_ascii_iterator" by unfold strIterType; rw [ha]; rfl] at st
      exact wpAny_pyNext_ascii_end (I.ok.hd hc) st hn fin
    | false =>
      rw [show strIterType x = "str_iterator" by unfold strIterType; rw [ha]; rfl] at st
      exact wpAny_pyNext_wide_end (I.ok.hd hc) st hn fin
  self := fun _ i s _ _ st h => by
    cases ha : x.cps.all (· < 128) with
    | true =>
      rw [show strIterType x = "str_ascii_iterator" by unfold strIterType; rw [ha]; rfl] at st
      exact wpAny_pyIter_striter_ascii st h
    | false =>
      rw [show strIterType x = "str_iterator" by unfold strIterType; rw [ha]; rfl] at st
      exact wpAny_pyIter_striter_wide st h
noncomputable def iStr (tl : TE) : TI := fun σ H R => tl σ H fun x H1 => ∃ z, x = .str z ∧ R (Its z) H1
theorem pi_str {tg l : Expr} {tl : TE} (hl : PE X l tl) : PI X tg l (iStr tl) := by
  intro pins s σ H R I h
  refine thn (hl pins s σ H _ I h) fun v s1 zz9 => ?_
  obtain ⟨x, H1, I1, r1, q1⟩ := zz9
  obtain ⟨z, e, q⟩ := q1
  subst e
  obtain ⟨t, rfl⟩ := r1
  refine wpAny_pyIter_strU ?_
  refine ⟨s1.heap.objs.size, [s1.heap.objs.size], _, _, H1, rfl, I1.kept (t' := s1.toks) fun b o e => Heap.get?_push_of_some _ e, turn_str _ z t, ⟨_, Heap.get?_push_size _ rfl, rfl, rfl⟩, fun b hb => ?_, q⟩
  have e : b = s1.heap.objs.size := by simpa using hb
  subst e
  exact I1.fpOk (Nat.le_refl _) (I1.hok.fresh (Nat.le_refl _))
noncomputable def gStar (K : PySem.W.Frag) (t : TGs) : TG := fun v σ H Q => ∃ l x xs, v = .ref l ∧ SqL K H l (x :: xs) ∧ xs.length ≤ 10000 ∧ ∀ D, H D = none → t [x, .ref D] σ (upd H D (.lst xs)) Q
theorem pg_star {a b : Expr} {k : Nat} {sp pos : Pos} {t : TGs} (hc : X.calm = true) (h : PGs X [a, b] t)
    (hn : (assignEach [a, .Starred b sp] X.env).length = 2 := by rfl) (hst : (assignEach [a, .Starred b sp] X.env).findIdx? (·.1) = some 1 := by rfl) (hm : (assignEach [a, .Starred b sp] X.env).map (·.2) = (assignEach [a, b] X.env).map (·.2) := by rfl) : PG X (.Tuple [a, .Starred b sp] k pos) (gStar X.K t) := by
  intro pins s σ H v u Q I r hw
  obtain ⟨l, x, xs, e1, hq, hl, hw⟩ := hw
  subst e1
  cases r
  obtain ⟨its, rv, pl, hz⟩ := I.list hq
  have hL := pl.isList
  obtain ⟨vx, its', rfl, rx, rr⟩ : ∃ vx its', its = vx :: its' ∧ ZE x vx ∧ ZO xs its' := by
    cases rv with
    | cons p q => exact ⟨_, _, rfl, p, q⟩
  have hll : l < s.heap.objs.size := by obtain ⟨_, z, _⟩ := hL; exact Heap.lt_size z
  have hne : l ≠ s.heap.objs.size := Nat.ne_of_lt hll
  have hsz : (vx :: its').toArray.size = its'.length + 1 := by simp
  have hil : its'.length = xs.length := rr.length.symm
  rw [assign_Tuple]
  refine wpAny_bind (wpAny_standAt ?_)
  unfold unpack
  rw [hn, hst, hm]
  refine wpAny_bind (wpAny_holding ?_)
  unfold unpackItems notIterableAtAll
  refine wpAny_bind (wpAny_bind (wpAny_specialOf hL.typeIs slot_list_iter.lookup (wpAny_pure ?_)))
  simp only [Bool.false_eq_true, if_false]
  refine wpAny_bind (wpAny_holding (wpAny_pyIter_list hL ?_))
  refine wpAny_bind (wpAny_holding (PySem.W.kun_draw hne 1 0 _ _ ⟨_, Heap.get?_push_size _ rfl, rfl, rfl⟩ (hL.push _) (by rw [hsz]; omega) fun g1 hit1 sb1 => ?_))
  have hL1 : g1.IsList l (vx :: its').toArray := (hL.push _).extBut sb1.extBut hne
  obtain ⟨oi, hoi, _⟩ := id hit1
  obtain ⟨ol, hol, _⟩ := id hL1
  have tk1 : (((vx :: its').toArray.toList.drop 0).take 1) = [vx] := rfl
  rw [tk1]
  rw [if_neg (show ¬ ([vx].length < 1) by simp)]
  refine wpAny_bind (wpAny_holding (PySem.W.kun_collect (s := { s with heap := g1 }) (T := "list_iterator") (.inr (.inr (.inl rfl))) (Walks.list (A := X.A.in1) (I.ok.hd hc) s.heap.objs.size l hne (vx :: its').toArray) (fun j w st => st.1.typeIs) (k := 1) (by rw [hsz]; omega) ⟨hit1, hL1⟩ (Heap.lt_size hoi) (Heap.lt_size hol) (fun g2 tk kp => ?_) (by rw [hsz, sizeLine_eq]; omega)))
  have dr : (vx :: its').toArray.toList.drop 1 = its' := rfl
  rw [dr]
  show wpAny _ _ (if its'.length < 2 - 1 - 1 then _ else _) _ _ _
  rw [if_neg (by omega)]
  show wpAny _ _ (newList (its'.take (its'.length - (2 - 1 - 1))) >>= fun d => pure ([vx] ++ [d] ++ its'.drop (its'.length - (2 - 1 - 1)))) _ _ _
  rw [show its'.length - (2 - 1 - 1) = its'.length by omega, List.take_length, List.drop_length]
  have keep : ∀ b o, s.heap.get? b = some o → g2.get? b = some o := fun b o e => kp b o (Nat.ne_of_lt (Heap.lt_size e)) (sb1.extBut b o (Nat.ne_of_lt (Heap.lt_size e)) (Heap.get?_push_of_some _ e))
  have I1 : Inv X pins σ H { s with heap := g2, toks := tk } := I.kept keep
  refine wpAny_bind (wpAny_newList ?_ (by rw [sizeLine_eq]; omega))
  refine wpAny_pure ?_
  have I2 := Inv.laid (s := { s with heap := g2, toks := tk }) (h' := g2.push { cls := .type "list", data := .seq its'.toArray }) (t' := tk) (o := .lst xs) I1 (fun _ _ w => Heap.get?_push_of_some _ w) (Nat.le_refl _) ⟨by rw [sizeLine_eq]; omega, its', 0, rr, Heap.get?_push_size _ rfl⟩
  exact h pins _ σ _ [x, .ref g2.objs.size] [vx, .ref g2.objs.size] Q I2 (.cons rx (.cons rfl .nil)) (hw _ I1.fresh)
end
end L2

set_option Elab.async false
set_option linter.all false
namespace L2
open PySem PySem.Spec PyProof.Rows PySem.StrLaws
noncomputable def dot : Str := "."
noncomputable def inR (a b c : Nat) : Bool := decide (a ≤ c) && decide (c ≤ b)
noncomputable def gw (x : Str) : Bool := decide (1 ≤ x.length) && decide (x.length ≤ 8) && x.cps.toList.all (inR 97 122) && !(decide (x = "crown") || decide (x = "kids"))
noncomputable def gn (x : Str) : Bool := decide (1 ≤ x.length) && decide (x.length ≤ 2) && x.cps.toList.all (inR 48 57) && !decide (x.cps.toList.head? = some 48)
noncomputable def iv (x : Str) : Int := (PySem.intText? x).getD 0
theorem iv_tab : (∀ c ∈ List.range 9, PySem.intText? ⟨#[49 + c]⟩ = some (iv ⟨#[49 + c]⟩) ∧ 1 ≤ iv ⟨#[49 + c]⟩) ∧ ∀ c ∈ List.range 9, ∀ d ∈ List.range 10, PySem.intText? ⟨#[49 + c, 48 + d]⟩ = some (iv ⟨#[49 + c, 48 + d]⟩) ∧ 1 ≤ iv ⟨#[49 + c, 48 + d]⟩ := by decide +kernel
theorem iv_gn {x : Str} (h : gn x = true) : PySem.intText? x = some (iv x) ∧ 1 ≤ iv x := by
  unfold gn at h
  simp only [Bool.and_eq_true, decide_eq_true_eq, Bool.not_eq_true', decide_eq_false_iff_not] at h
  obtain ⟨⟨⟨h1, h2⟩, h3⟩, h4⟩ := h
  obtain ⟨⟨l⟩⟩ := x
  have h1' : 1 ≤ l.length := h1
  have h2' : l.length ≤ 2 := h2
  match l, h1', h2', h3, h4 with
  | [c], _, _, h3, h4 =>
    simp [inR] at h3 h4
    have e : c = 49 + (c - 49) := by omega
    rw [e]
    exact iv_tab.1 (c - 49) (List.mem_range.mpr (by omega))
  | [c, d], _, _, h3, h4 =>
    simp [inR] at h3 h4
    have e : c = 49 + (c - 49) := by omega
    have e' : d = 48 + (d - 48) := by omega
    rw [e, e']
    exact iv_tab.2 (c - 49) (List.mem_range.mpr (by omega)) (d - 48) (List.mem_range.mpr (by omega))
noncomputable def pcs (x : Str) : List Str := Txt.split x dot
noncomputable def wd (x : Str) : Str := (pcs x).headD ""
noncomputable def nms (x : Str) : List Str := (pcs x).tail
theorem XT (x : Str) : pcs x = wd x :: nms x := by
  have h : 1 ≤ (pcs x).length := split_pos x dot
  unfold wd nms
  cases e : pcs x with
  | nil => rw [e] at h; simp at h
  | cons a r => rfl
theorem nms_len (x : Str) : (nms x).length ≤ x.length + 1 := by
  have h : (pcs x).length ≤ x.length + 2 := split_le x dot
  rw [XT, List.length_cons] at h
  omega
theorem pc_len {x p : Str} (h : p ∈ pcs x) : p.length ≤ x.length := by
  unfold pcs Txt.split at h
  split at h
  · rw [List.mem_singleton.mp h]; exact Nat.le_refl _
  · split at h
    · rw [List.mem_singleton.mp h]; exact Nat.le_refl _
    · unfold Builtin.Str.partsBetween at h
      obtain ⟨q, _, rfl⟩ := List.mem_map.mp h
      exact le_strSub x q.1 q.2
noncomputable def pok (x : Str) : Bool := gw (wd x) && decide ((nms x).length ≤ 5) && (nms x).all gn
noncomputable def pvl (x : Str) : List V := .str (wd x) :: (nms x).map fun p => V.int (iv p)
noncomputable def dat (x : Str) : PyData := .list (.str (wd x) :: (nms x).map fun p => PyData.int (iv p))
theorem gw_ok {x : Str} (h : gw x = true) : PyData.strOk x = true := by
  unfold gw at h
  simp only [Bool.and_eq_true] at h
  unfold PyData.strOk
  rw [Array.all_eq_true_iff_forall_mem]
  intro c hc
  have z := List.all_eq_true.mp h.1.2 c (by simpa using hc)
  simp [inR] at z
  simp
  omega
noncomputable def up (x : Str) : Str := match Builtin.Str.lastOccurrence x dot 0 x.length with | some i => Builtin.Str.strSub x 0 i | none => Str.empty
theorem dot_eq : dot = ⟨#[46]⟩ := by decide +kernel
theorem at_iff (x : Str) (i : Nat) : At x dot x.length i ↔ x.cps.toList[i]? = some 46 := by
  rw [dot_eq]
  exact subAt_one x 46 i
theorem foldl_mem (l : List Str) : ∀ (a : Array Nat), 46 ∈ a.toList → 46 ∈ (l.foldl (fun acc p => acc ++ dot.cps ++ p.cps) a).toList := by
  induction l with
  | nil => intro a h; exact h
  | cons p r ih =>
    intro a h
    rw [List.foldl_cons]
    exact ih _ (by simp only [Array.toList_append, List.mem_append]; exact .inl (.inl h))
theorem dot_in {x : Str} (h : nms x ≠ []) : 46 ∈ x.cps.toList := by
  have e : pcs x = wd x :: nms x := XT x
  unfold pcs Txt.split at e
  split at e
  · injection e with _ e; exact absurd e.symm h
  · split at e
    · injection e with _ e; exact absurd e.symm h
    · have g := glued_between_self x dot (x.length + 1)
      rw [e] at g
      rw [← g]
      unfold Builtin.Str.glued
      show 46 ∈ ((nms x).foldl (fun acc p => acc ++ dot.cps ++ p.cps) (wd x).cps).toList
      cases hn : nms x with
      | nil => exact absurd hn h
      | cons p r =>
        rw [List.foldl_cons]
        refine foldl_mem r _ ?_
        rw [dot_eq]
        simp
theorem up_more {x : Str} (h : nms x ≠ []) : ∃ i : Nat, Builtin.Str.lastOccurrence x dot 0 x.length = some i ∧ Txt.slice x none (some (i : Int)) = up x := by
  obtain ⟨j, hj⟩ := List.mem_iff_getElem?.mp (dot_in h)
  rcases last_spec x dot with ⟨_, z⟩ | ⟨i, e, z, _⟩
  · exact absurd ((at_iff x j).mpr hj) (z j)
  · refine ⟨i, e, ?_⟩
    have hi : i < x.cps.toList.length := (List.getElem?_eq_some_iff.mp ((at_iff x i).mp z)).1
    have s : Txt.slice x none (some (i : Int)) = ⟨((x.cps.toList.drop 0).take ((i : Int) - 0).toNat).toArray⟩ := by
      have q := sliceText_to (x := x) (j := (i : Int)) ⟨by omega, by omega⟩
      unfold sliceText at q
      unfold Txt.slice
      exact q
    have u : up x = Builtin.Str.strSub x 0 i := by unfold up; rw [e]
    rw [u]
    refine s.trans ?_
    refine J2 ?_
    rw [strSub_toList]
    simp
theorem lt_one (c a : Nat) : ((⟨#[c]⟩ : Str).cps.toList < (⟨#[a]⟩ : Str).cps.toList) ↔ c < a := by
  show [c] < [a] ↔ c < a
  have := StrLaws.lt_cons_cons c a [] []
  rw [StrLaws.lt_nil_nil, Bool.and_false, Bool.or_false] at this
  simpa using this
theorem for_str {x : Str} {g : TG} {tb : TS} {D : Ends} {σ : St} {H : Hp} (Pv : Nat → St → Hp → Prop) (h0 : Pv 0 σ H)
    (hs : ∀ i c σ H, x.cps.toList[i]? = some c → Pv i σ H → g (.str ⟨#[c]⟩) σ H fun σ2 H2 => tb { D with nx := Pv (i + 1), ct := Pv (i + 1), bk := D.nx } σ2 H2) (hd : ∀ σ H, Pv x.cps.toList.length σ H → D.nx σ H) :
    ∃ W : Nat → Nat → St → Hp → Prop, (∃ m, W 0 m σ H) ∧ ∀ i m σ H, W i m σ H →
      ((Its x).stop i H ∧ D.nx σ H) ∨ ((Its x).go i H ∧ ∃ N : St → Hp → Prop, (∀ σ' H', N σ' H' → ∃ m', m' < m ∧ W (i + 1) m' σ' H') ∧ ∀ v H', (Its x).yld i H v H' → g v σ H' fun σ2 H2 => tb { D with nx := N, ct := N, bk := D.nx } σ2 H2) := by
  have hl : x.cps.toList.length = x.cps.size := Array.length_toList
  refine ⟨fun i m σ H => m = x.cps.size - i ∧ i ≤ x.cps.size ∧ Pv i σ H, ⟨x.cps.size, by simp, Nat.zero_le _, h0⟩, ?_⟩
  rintro i m σ H ⟨rfl, hi, p⟩
  by_cases hlt : i < x.cps.size
  · refine .inr ⟨hlt, Pv (i + 1), fun σ' H' p' => ⟨x.cps.size - (i + 1), by omega, rfl, hlt, p'⟩, fun v H' y => ?_⟩
    obtain ⟨rfl, c, hc, rfl⟩ := y
    exact hs i c σ _ (by rw [Array.getElem?_toList]; exact hc) p
  · have e : i = x.cps.toList.length := by omega
    subst e
    exact .inl ⟨by show x.cps.size ≤ _; omega, hd σ H p⟩
theorem all_take {l : List Nat} {f : Nat → Bool} {i c : Nat} (h : (l.take i).all f = true) (hc : l[i]? = some c) (hf : f c = true) : (l.take (i + 1)).all f = true := by
  rw [List.take_succ, hc, List.all_append, h]
  simp [hf]
theorem all_not {l : List Nat} {f : Nat → Bool} {i c : Nat} (hc : l[i]? = some c) (hf : f c = false) : l.all f = false := by
  cases e : l.all f with
  | false => rfl
  | true =>
    have := List.all_eq_true.mp e c (List.mem_of_getElem? hc)
    rw [hf] at this
    cases this
end L2

set_option Elab.async false
set_option linter.all false
set_option maxRecDepth 100000
namespace L2
open PySem PySem.Spec PyProof.Rows
section
variable {X : Cx}
noncomputable def rCount : V → List V → Hp → VK → Prop := fun x xs H Q => ∃ z y, x = .str z ∧ xs = [.str y] ∧ Q (.int (Builtin.Str.occurrences z y 0 z.length (z.length + 1)).length) H
theorem mt_count : MtR X "str.count" rCount := by
  intro pins s σ H x xs v us Q I rx rv h
  obtain ⟨z, y, rfl, rfl, q⟩ := h
  obtain ⟨t, rfl⟩ := rx
  obtain ⟨u, rfl, t', rfl⟩ := vals1 rv
  refine call_meets F.slot_str_count (typeIs_str _ _ _) F.entry_str_count (F.args_str_count_2 _ _) (gives_str_count z y t t').meets ?_
  exact ⟨.int _, H, I.tok _, ⟨_, rfl⟩, q⟩
theorem vals_at : ∀ {xs : List V} {us : List Value}, xs.length = us.length → (∀ (j : Nat) (x : V) (u : Value), xs[j]? = some x → us[j]? = some u → ZE x u) → ZO xs us
  | [], [], _, _ => .nil
  | x :: xs, u :: us, h, k => .cons (k 0 x u rfl rfl) (vals_at (Nat.succ.inj h) fun j y w e1 e2 => k (j + 1) y w e1 e2)
noncomputable def rListD : List V → Hp → VK → Prop := fun xs H Q => ∃ (d : Addr) (kvs : List (Key × V)), xs = [.ref d] ∧ Rd H d (.dK kvs) ∧ ∀ l, H l = none → Q (.ref l) (upd H l (.lst (kvs.map fun p => kV p.1)))
theorem call_listD {X : Cx} (hc : X.calm = true) : Jw X (.type "list") rListD := by
  intro pins s σ H xs us Q I r h
  obtain ⟨d, kvs, rfl, hd, q⟩ := h
  obtain ⟨u, rfl, rx⟩ := vals1 r
  cases rx
  obtain ⟨z, lo, vs, rel, dd⟩ := dk_rd I.hok hd
  obtain ⟨ep, hat⟩ := dd.dictAt
  have hln : kvs.length = vs.length := rel.length
  refine PySem.W.kdl_call (PySem.W.kdl_dict (knd := Z0 X.prog X.w) (kvs := vs) (ep := ep) lo) (I.ok.hd hc) hat (by omega) fun h' tk acc c' hk hS hacc => ?_
  have hl : acc.toList.length = vs.length := by rw [Array.length_toList]; exact hacc.1
  have hV : ZO (kvs.map fun p => kV p.1) acc.toList := by
    refine vals_at (by rw [List.length_map, hln, hl]) fun j x u e1 e2 => ?_
    obtain ⟨k, w, e3, e4⟩ := hacc.2 j u (by rw [← Array.getElem?_toList]; exact e2)
    obtain ⟨y, e5⟩ := kv_at rel e3
    rw [List.getElem?_map, e5] at e1
    cases e1
    exact relK e4
  refine ⟨.ref s.heap.objs.size, _, I.laid (t' := tk) hk (Nat.le_refl _) (show Z4 X.prog X.w _ h' _ (.lst _) from ⟨by rw [List.length_map]; exact z, acc.toList, c', hV, by rw [Array.toArray_toList]; exact hS⟩), rfl, q _ (I.hok.fresh (Nat.le_refl _))⟩
theorem emp_app (z : Str) : Str.empty ++ z = z := by
  refine J2 ?_
  show (Str.empty.cps ++ z.cps).toList = z.cps.toList
  simp [Str.empty]
noncomputable def tFs (ta tb : TE) (sep : Str) : TE := fun σ H Q => ta σ H fun x H1 => ∃ z : Str, x = .str z ∧ z.length ≤ sizeLine ∧ (z ++ sep).length ≤ sizeLine ∧ tb σ H1 fun y H2 => ∃ n : Int, y = .int n ∧ n.natAbs.log2 < 1920 ∧ (z ++ sep ++ toString n : Str).length ≤ sizeLine ∧ Q (.str (z ++ sep ++ toString n)) H2
theorem pe_fs {X : Cx} {a b : Expr} {ta tb : TE} {sep : Str} {j} {p1 p2 p3 p4 : Pos} (ha : PE X a ta) (hb : PE X b tb) : PE X (.JoinedStr [.FormattedValue a (-1) none p1, .Constant (.str sep) j p2, .FormattedValue b (-1) none p3] p4) (tFs ta tb sep) := by
  intro pins s σ H Q I h
  refine JoinedStr_many (joinParts_cons (FormattedValue_plain (thn (ha pins s σ H _ I h) fun u s1 zz9 => ?_)))
  obtain ⟨x, H1, I1, rx, z, ex, h1, h2, q1⟩ := zz9
  subst ex
  obtain ⟨t, rfl⟩ := rx
  refine formatField_str (fun t' tk => ?_) h1
  refine ⟨by rw [emp_app]; exact h1, ?_⟩
  rw [emp_app]
  refine joinParts_cons (Calls.Constant_str ⟨h2, ?_⟩)
  have I2 : Inv X pins σ H1 { s1 with toks := tk + 1 } := I1.tok _
  refine joinParts_cons (FormattedValue_plain (thn (hb pins _ σ H1 _ I2 q1) fun u s2 zz9 => ?_))
  obtain ⟨y, H2, I3, ry, n, ey, h3, h4, q2⟩ := zz9
  subst ey
  obtain ⟨t2, rfl⟩ := ry
  refine formatField_int_small h3 ⟨h4, joinParts_nil ?_ h4⟩
  exact ⟨.str _, H2, I3.tok _, ⟨_, rfl⟩, q2⟩
structure Dm (P : Program) (w : World) (K : PySem.W.Frag) (mg : Str → Option Value) (base : Heap) (CX : CXT) (C : Addr) (k : Nat) (m : Str) (ps : List Str) (sp : Sp) : Prop where
  cls : Cls K C
  ex : ∃ f fd, FnOk P w K mg base CX k f fd ps sp ∧ Meth K C m f ∧ Binds K fd ps []
noncomputable def tMt (C : Addr) (m : Str) (sp : Sp) (E : XK) (ta : TE) (t : TA) : TE := fun σ H Q => ta σ H fun x H1 => ∃ a dx fs, x = .ref a ∧ H1 a = some (.ins C dx fs) ∧ fs.lookup m = none ∧ t σ H1 fun vs H2 => sp (x :: vs) H2 Q E
theorem tMt_eq {C : Addr} {m : Str} {sp : Sp} {E : XK} {ta : TE} {t : TA} : tMeth C m sp [] E ta t = tMt C m sp E ta t := by
  funext σ H Q
  unfold tMeth tMt
  simp only [List.append_nil]
theorem ZN {X : Cx} {CX : CXT} {k : Nat} {C : Addr} {m : Str} {ps : List Str} {sp : Sp} {E : XK} {o e : Expr} {es : List Expr} {apos pos : Pos} {ta : TE} {t : TA} {pl : Sem Bool} (hx : Jb CX X E) (D : Dm X.prog X.w X.K X.mg X.base CX C k m ps sp) (hr : Room k X.A) (he : PE X o ta) (ha : PA X (e :: es) t)
    (hst : starEach (e :: es) X.env = (false, eval e X.env) :: starEach es X.env := by rfl) (hpl : (backTo pos (starEach es X.env)).any (·.1) = false := by rfl)
    (ht : eval (.Call (.Attribute o m apos) (e :: es) [] pos) X.env = (do
      let ov ← eval o X.env
      standAt apos.atName
      let (f, first) ← holding [ov] (getMethod ov m pl)
      callWith pos f first (backTo pos (starEach (e :: es) X.env)) (backToKw pos (keywordEach [] X.env))) := by rfl) :
    PE X (.Call (.Attribute o m apos) (e :: es) [] pos) (tMt C m sp E ta t) := by
  obtain ⟨f, fd, F, hm, hb⟩ := D.ex
  rw [← tMt_eq]
  exact pe_meth (pl := pl) he D.cls hm F hr hb .nil hx ha hst hpl ht
end
end L2

set_option Elab.async false
set_option linter.all false
set_option maxRecDepth 100000
namespace L2
open PySem PySem.Spec
noncomputable def yrs (bs : List (Str × Int)) : List (Key × V) := bs.map fun p => ((Sum.inr p.1 : Key), V.int p.2)
noncomputable def yr (bs : List (Str × Int)) (n : Str) : Option Int := (bs.find? fun p => decide (p.1 = n)).map (·.2)
noncomputable def has (bs : List (Str × Int)) (n : Str) : Bool := (yr bs n).isSome
noncomputable def kid (n : Str) (i : Nat) : Str := n ++ dot ++ (toString ((i : Int) + 1) : Str)
noncomputable def Jo (n : Str) (c : Nat) : List V := (List.range c).map fun i => V.str (kid n i)
noncomputable def brs (ws : List (Str × Addr × Nat)) : List (Key × V) := ws.map fun p => ((Sum.inr p.1 : Key), V.ref p.2.1)
structure Book (C : Addr) (H : Hp) (b d1 d2 d3 : Addr) (bs ds : List (Str × Int)) (ws : List (Str × Addr × Nat)) : Prop where
  obj : ∃ dx, H b = some (.ins C dx [("births", .ref d1), ("deaths", .ref d2), ("broods", .ref d3)])
  h1 : H d1 = some (.dK (yrs bs))
  h2 : H d2 = some (.dK (yrs ds))
  h3 : H d3 = some (.dK (brs ws))
  n12 : d1 ≠ d2
  n13 : d1 ≠ d3
  n23 : d2 ≠ d3
  kids : ∀ p ∈ ws, H p.2.1 = some (.lst (Jo p.1 p.2.2))
  nod : (ws.map fun p => p.2.1).Nodup
theorem Jh (bs : List (Str × Int)) (n : Str) : Y6 (yrs bs) (Sum.inr n : Key) = (yr bs n).map V.int := by
  induction bs with
  | nil => rfl
  | cons p r ih =>
    by_cases h : p.1 = n
    · rw [show yrs (p :: r) = ((Sum.inr p.1 : Key), V.int p.2) :: yrs r from rfl, valV_pos (by rw [h])]
      unfold yr
      simp [List.find?_cons, h]
    · rw [show yrs (p :: r) = ((Sum.inr p.1 : Key), V.int p.2) :: yrs r from rfl, valV_neg (by simpa using h), ih]
      unfold yr
      simp [List.find?_cons, h]
theorem ZR (bs : List (Str × Int)) (n : Str) : (Y6 (yrs bs) (Sum.inr n : Key)).isSome = has bs n := by
  rw [Jh]
  unfold has
  cases yr bs n <;> rfl
theorem Book.births {C : Addr} {H : Hp} {b d1 d2 d3 : Addr} {bs ds : List (Str × Int)} {ws : List (Str × Addr × Nat)} (B : Book C H b d1 d2 d3 bs ds ws) (n : Str) : Yp H d1 (.str n) (Y6 (yrs bs) (Sum.inr n : Key)) := Yp.k (k := Sum.inr n) B.h1
theorem Book.deaths {C : Addr} {H : Hp} {b d1 d2 d3 : Addr} {bs ds : List (Str × Int)} {ws : List (Str × Addr × Nat)} (B : Book C H b d1 d2 d3 bs ds ws) (n : Str) : Yp H d2 (.str n) (Y6 (yrs ds) (Sum.inr n : Key)) := Yp.k (k := Sum.inr n) B.h2
noncomputable def ZD (xs : List Addr) (H H' : Hp) : Prop := (∀ a o, a ∉ xs → H a = some o → H' a = some o) ∧ ∀ a, H' a = none → H a = none
theorem ZF {H : Hp} {a b : Addr} {o u : HO} (h : H a = some o) (h' : H b = some u) (n : o ≠ u) : a ≠ b := fun e => by
  subst e
  rw [h] at h'
  exact n (Option.some.inj h')
theorem Book.bne {C : Addr} {H : Hp} {b d1 d2 d3 : Addr} {bs ds : List (Str × Int)} {ws : List (Str × Addr × Nat)} (B : Book C H b d1 d2 d3 bs ds ws) : b ≠ d1 ∧ b ≠ d2 ∧ b ≠ d3 := by
  obtain ⟨dx, hb⟩ := B.obj
  exact ⟨ZF hb B.h1 (fun z => by cases z), ZF hb B.h2 (fun z => by cases z), ZF hb B.h3 (fun z => by cases z)⟩
theorem Book.entered {C : Addr} {H : Hp} {b d1 d2 d3 l : Addr} {bs ds : List (Str × Int)} {ws : List (Str × Addr × Nat)} {n : Str} {y : Int} {o1 o3 : HO} (B : Book C H b d1 d2 d3 bs ds ws) (hl : upd H d1 o1 l = none)
    (e1 : o1 = .dK (yrs (bs ++ [(n, y)]))) (e3 : o3 = .dK (brs (ws ++ [(n, l, 0)]))) :
    Book C (upd (upd (upd H d1 o1) l (.lst [])) d3 o3) b d1 d2 d3 (bs ++ [(n, y)]) ds (ws ++ [(n, l, 0)]) ∧ ZD [d1, d3] H (upd (upd (upd H d1 o1) l (.lst [])) d3 o3) := by
  obtain ⟨nb1, nb2, nb3⟩ := B.bne
  have l1 : d1 ≠ l := fun e => by rw [← e, Zc] at hl; cases hl
  have hl0 : H l = none := by rw [← hl, Zg (Ne.symm l1)]
  have l3 : d3 ≠ l := fun e => by rw [← e, B.h3] at hl0; cases hl0
  have kp : ∀ a o, a ≠ d1 → a ≠ d3 → H a = some o → upd (upd (upd H d1 o1) l (.lst [])) d3 o3 a = some o := fun a o n1 n3 e => by
    have nl : a ≠ l := fun z => by rw [z, hl0] at e; cases e
    rw [Zg n3, Zg nl, Zg n1]
    exact e
  obtain ⟨dx, hb⟩ := B.obj
  refine ⟨⟨⟨dx, kp _ _ nb1 nb3 hb⟩, ?_, kp _ _ (Ne.symm B.n12) B.n23 B.h2, ?_, B.n12, B.n13, B.n23, ?_, ?_⟩, fun a o hn e => kp a o (fun z => hn (by simp [z])) (fun z => hn (by simp [z])) e, fun a e => ?_⟩
  · rw [Zg B.n13, Zg l1, Zc, e1]
  · rw [Zc, e3]
  · intro p hp
    rcases List.mem_append.mp hp with hp | hp
    · have hk := B.kids p hp
      exact kp _ _ (ZF hk B.h1 (fun z => by cases z)) (ZF hk B.h3 (fun z => by cases z)) hk
    · rw [List.mem_singleton.mp hp]
      show upd (upd (upd H d1 o1) l (.lst [])) d3 o3 l = some (.lst (Jo n 0))
      rw [Zg (Ne.symm l3), Zc]
      rfl
  · rw [List.map_append, List.nodup_append]
    refine ⟨B.nod, by simp, fun a ha c hc e => ?_⟩
    rw [List.map_cons, List.map_nil, List.mem_singleton] at hc
    obtain ⟨p, hp, rfl⟩ := List.mem_map.mp ha
    have hk := B.kids p hp
    rw [show p.2.1 = l from e.trans hc] at hk
    rw [hl0] at hk
    cases hk
  · by_cases h3 : a = d3
    · rw [h3, Zc] at e
      cases e
    · rw [Zg h3] at e
      by_cases hL : a = l
      · rw [hL, Zc] at e
        cases e
      · rw [Zg hL] at e
        by_cases h1 : a = d1
        · rw [h1, Zc] at e
          cases e
        · rw [Zg h1] at e
          exact e
theorem Book.died {C : Addr} {H : Hp} {b d1 d2 d3 : Addr} {bs ds ds' : List (Str × Int)} {ws : List (Str × Addr × Nat)} (B : Book C H b d1 d2 d3 bs ds ws) : Book C (upd H d2 (.dK (yrs ds'))) b d1 d2 d3 bs ds' ws ∧ ZD [d2] H (upd H d2 (.dK (yrs ds'))) := by
  obtain ⟨nb1, nb2, nb3⟩ := B.bne
  obtain ⟨dx, hb⟩ := B.obj
  refine ⟨⟨⟨dx, by rw [Zg nb2]; exact hb⟩, by rw [Zg B.n12]; exact B.h1, Zc, by rw [Zg (Ne.symm B.n23)]; exact B.h3, B.n12, B.n13, B.n23, fun p hp => ?_, B.nod⟩, fun a o hn e => ?_, fun a e => ?_⟩
  · have hk := B.kids p hp
    rw [Zg (ZF hk B.h2 (fun z => by cases z))]
    exact hk
  · rw [Zg (fun z => hn (by simp [z]))]
    exact e
  · by_cases h2 : a = d2
    · rw [h2, Zc] at e
      cases e
    · rw [Zg h2] at e
      exact e
theorem no_valV {bs : List (Str × Int)} {n : Str} (h : has bs n = false) : Y6 (yrs bs) (Sum.inr n : Key) = none := by
  have z := ZR bs n
  rw [h] at z
  cases e : Y6 (yrs bs) (Sum.inr n : Key) with
  | none => rfl
  | some v => rw [e] at z; cases z
theorem yrs_app (bs : List (Str × Int)) (n : Str) (y : Int) : yrs bs ++ [((Sum.inr n : Key), V.int y)] = yrs (bs ++ [(n, y)]) := by unfold yrs; rw [List.map_append]; rfl
noncomputable def bro (ws : List (Str × Addr × Nat)) (n : Str) : Option (Addr × Nat) := (ws.find? fun p => decide (p.1 = n)).map (·.2)
theorem valV_brs (ws : List (Str × Addr × Nat)) (n : Str) : Y6 (brs ws) (Sum.inr n : Key) = (bro ws n).map fun p => V.ref p.1 := by
  induction ws with
  | nil => rfl
  | cons p r ih =>
    by_cases h : p.1 = n
    · rw [show brs (p :: r) = ((Sum.inr p.1 : Key), V.ref p.2.1) :: brs r from rfl, valV_pos (by rw [h])]
      unfold bro
      simp [List.find?_cons, h]
    · rw [show brs (p :: r) = ((Sum.inr p.1 : Key), V.ref p.2.1) :: brs r from rfl, valV_neg (by simpa using h), ih]
      unfold bro
      simp [List.find?_cons, h]
theorem bro_mem {ws : List (Str × Addr × Nat)} {n : Str} {a : Addr} {c : Nat} (h : bro ws n = some (a, c)) : (n, a, c) ∈ ws := by
  unfold bro at h
  obtain ⟨p, hp, e⟩ := Option.map_eq_some_iff.mp h
  have h1 := List.mem_of_find?_eq_some hp
  have h2 := List.find?_some hp
  rw [← of_decide_eq_true h2, ← e]
  exact h1
noncomputable def bump (ws : List (Str × Addr × Nat)) (n : Str) : List (Str × Addr × Nat) := ws.map fun p => if p.1 = n then (p.1, p.2.1, p.2.2 + 1) else p
theorem kidV_next (n : Str) (c : Nat) : Jo n c ++ [V.str (kid n c)] = Jo n (c + 1) := by
  unfold Jo
  rw [List.range_succ, List.map_append]
  rfl
theorem brs_bump (ws : List (Str × Addr × Nat)) (n : Str) : brs (bump ws n) = brs ws := by
  unfold brs bump
  rw [List.map_map]
  refine List.map_congr_left fun p _ => ?_
  show ((Sum.inr (if p.1 = n then (p.1, p.2.1, p.2.2 + 1) else p).1 : Key), V.ref (if p.1 = n then (p.1, p.2.1, p.2.2 + 1) else p).2.1) = _
  split <;> rfl
theorem adr_bump (ws : List (Str × Addr × Nat)) (n : Str) : (bump ws n).map (fun p => p.2.1) = ws.map fun p => p.2.1 := by
  unfold bump
  rw [List.map_map]
  refine List.map_congr_left fun p _ => ?_
  show (if p.1 = n then (p.1, p.2.1, p.2.2 + 1) else p).2.1 = _
  split <;> rfl
theorem eq_of_nod {ws : List (Str × Addr × Nat)} {α : Type} {f : Str × Addr × Nat → α} (h : (ws.map f).Nodup) {p q : Str × Addr × Nat} (hp : p ∈ ws) (hq : q ∈ ws) (e : f p = f q) : p = q := by
  induction ws with
  | nil => cases hp
  | cons x r ih =>
    rw [List.map_cons, List.nodup_cons] at h
    rcases List.mem_cons.mp hp with rfl | hp' <;> rcases List.mem_cons.mp hq with rfl | hq'
    · rfl
    · exact absurd (List.mem_map.mpr ⟨q, hq', e.symm⟩) h.1
    · exact absurd (List.mem_map.mpr ⟨p, hp', e⟩) h.1
    · exact ih h.2 hp' hq'
theorem Book.grown {C : Addr} {H : Hp} {b d1 d2 d3 a : Addr} {bs ds : List (Str × Int)} {ws : List (Str × Addr × Nat)} {n : Str} {c : Nat} (B : Book C H b d1 d2 d3 bs ds ws) (hk : (ws.map fun p => p.1).Nodup) (hw : (n, a, c) ∈ ws) :
    Book C (upd H a (.lst (Jo n (c + 1)))) b d1 d2 d3 bs ds (bump ws n) := by
  obtain ⟨dx, hb⟩ := B.obj
  have ha : H a = some (.lst (Jo n c)) := B.kids _ hw
  refine ⟨⟨dx, by rw [Zg (ZF hb ha (fun z => by cases z))]; exact hb⟩, by rw [Zg (ZF B.h1 ha (fun z => by cases z))]; exact B.h1, by rw [Zg (ZF B.h2 ha (fun z => by cases z))]; exact B.h2, by rw [Zg (ZF B.h3 ha (fun z => by cases z)), brs_bump]; exact B.h3, B.n12, B.n13, B.n23, fun p hp => ?_, by rw [adr_bump]; exact B.nod⟩
  obtain ⟨q, hq, rfl⟩ := List.mem_map.mp hp
  by_cases e : q.1 = n
  · have z : q = (n, a, c) := eq_of_nod hk hq hw e
    subst z
    rw [if_pos rfl]
    exact Zc
  · rw [if_neg e]
    have na : q.2.1 ≠ a := fun z => e (by rw [eq_of_nod B.nod hq hw z])
    rw [Zg na]
    exact B.kids q hq
end L2

set_option Elab.async false
set_option linter.all false
set_option maxRecDepth 100000
namespace L2
open PySem PySem.Spec
theorem Inv.thaw {X : Cx} {pins : List (Addr × Obj)} {σ : St} {H : Hp} {s : Shared} {d : Addr} {o : Obj} {u : HO} (I : Inv X pins σ H s) (h : H d = some (.frz o u)) (hn : ∀ o' u', X.H₀ d ≠ some (.frz o' u')) : Inv X pins σ (upd H d u) s := by
  have nn : ∀ b, H b = none → b ≠ d := fun b e z => by rw [z, h] at e; cases e
  have kp : ∀ b, b ≠ d → upd H d u b = H b := fun b z => Zg z
  have nt : ∀ b xs, H b = some (.tup xs) → b ≠ d := fun b xs e z => by rw [z, h] at e; cases e
  have no : ∀ b a, H b = some (.own a) → b ≠ d := fun b a e z => by rw [z, h] at e; cases e
  refine ⟨I.ok, I.os, I.bare, ⟨I.base.keep, I.base.slot, fun b ob q n hx => ?_, I.base.there, fun b xs q => ?_, fun b ob v q => ?_, fun b ps q => ?_⟩, I.loc, I.cell, ?_, fun x c e => ?_, fun p hp => ?_, fun a ob e => ?_, I.len⟩
  · have z := I.base.free b ob q n hx
    rw [kp b (nn b z)]
    exact z
  · have z := I.base.tups b xs q
    rw [kp b (nt b xs z)]
    exact z
  · have z := I.base.frzs b ob v q
    rw [kp b (fun e => hn ob v (by rw [← e]; exact q))]
    exact z
  · obtain ⟨more, z⟩ := I.base.tbls b ps q
    exact ⟨more, by rw [kp b (fun e => by rw [e, h] at z; cases z)]; exact z⟩
  · rw [kp _ (nn _ I.free)]
    exact I.free
  · have z := I.freeC x c e
    rw [kp _ (nn _ z)]
    exact z
  · obtain ⟨z1, z2, z3⟩ := I.pin p hp
    exact ⟨z1, by rw [kp _ (nn _ z2)]; exact z2, z3⟩
  · by_cases ha : a = d
    · subst ha
      rw [Zc] at e
      cases e
      obtain ⟨_, q⟩ := (show Z4 X.prog X.w H s.heap a (.frz o u) from I.hok a _ h)
      exact q.stay (fun _ _ _ q => q) (fun b e => by rw [kp b (no b _ e)]; exact e) fun b xs e => by rw [kp b (nt b xs e)]; exact e
    · rw [kp a ha] at e
      exact (I.hok a ob e).stay (fun _ _ _ q => q) (fun b e => by rw [kp b (no b _ e)]; exact e) fun b xs e => by rw [kp b (nt b xs e)]; exact e
noncomputable def tThaw (d : Addr) (kvs : List (Key × V)) (t : TE) : TE := fun σ H Q => H d = some (.dK kvs) ∧ t σ H fun v H2 => ∃ o, H2 d = some (.frz o (.dK kvs)) ∧ Q v (upd H2 d (.dK kvs))
theorem pe_thaw {X : Cx} {e : Expr} {t : TE} {d : Addr} {kvs : List (Key × V)} (he : PE X e t) : PE X e (tThaw d kvs t) := by
  rintro pins s σ H Q I ⟨hd, h⟩
  have hn : ∀ o' u', X.H₀ d ≠ some (.frz o' u') := fun o' u' z => by
    have q := I.base.frzs d o' u' z
    rw [hd] at q
    cases q
  exact thn (he pins s σ H _ I h) fun u s' ⟨v, H2, I2, r, o, h2, q⟩ => ⟨v, _, I2.thaw h2 hn, r, q⟩
end L2

set_option Elab.async false
set_option linter.all false
set_option maxRecDepth 100000
namespace L2
open PySem PySem.Spec
structure Mdl (H : Hp) (m c e1 e2 e3 : Addr) (y : Int) (bs ds cs : List (Str × Int)) : Prop where
  tup : H m = some (.tup [.ref c, .ref e1, .ref e2, .ref e3])
  clk : H c = some (.lst [.int y])
  h1 : H e1 = some (.dK (yrs bs))
  h2 : H e2 = some (.dK (yrs ds))
  h3 : H e3 = some (.dK (yrs cs))
  n12 : e1 ≠ e2
  n13 : e1 ≠ e3
  n23 : e2 ≠ e3
theorem Mdl.keep {H H' : Hp} {m c e1 e2 e3 : Addr} {y : Int} {bs ds cs : List (Str × Int)} (M : Mdl H m c e1 e2 e3 y bs ds cs) (s : Zo H H') : Mdl H' m c e1 e2 e3 y bs ds cs :=
  ⟨s _ _ M.tup, s _ _ M.clk, s _ _ M.h1, s _ _ M.h2, s _ _ M.h3, M.n12, M.n13, M.n23⟩
end L2

set_option Elab.async false
set_option linter.all false
set_option maxRecDepth 100000
namespace L2
open PySem PySem.Spec PyProof.Rows PySem.StrLaws
theorem cut_list {a b s t : List Nat} (h : a ++ 46 :: s = b ++ 46 :: t) (hs : 46 ∉ s) (ht : 46 ∉ t) : a = b ∧ s = t := by
  rcases List.append_eq_append_iff.mp h with ⟨c, e1, e2⟩ | ⟨c, e1, e2⟩
  · cases c with
    | nil => simp at e1 e2; exact ⟨e1.symm, e2⟩
    | cons x r =>
      simp at e2
      exact absurd (show 46 ∈ s by rw [e2.2]; simp) hs
  · cases c with
    | nil => simp at e1 e2; exact ⟨e1, e2.symm⟩
    | cons x r =>
      simp at e2
      exact absurd (show 46 ∈ t by rw [e2.2]; simp) ht
theorem dot_l : dot.cps.toList = [46] := by rw [dot_eq]
theorem JE (a b : Str) : (a ++ b).cps.toList = a.cps.toList ++ b.cps.toList := cps_toList_append a b
theorem XO (a b : Str) : (a ++ b).length = a.length + b.length := by
  show (a.cps ++ b.cps).size = _
  rw [Array.size_append]
  rfl
theorem cut_inj {a b s t : Str} (h : a ++ dot ++ s = b ++ dot ++ t) (hs : 46 ∉ s.cps.toList) (ht : 46 ∉ t.cps.toList) : a = b ∧ s = t := by
  have z := congrArg (fun x : Str => x.cps.toList) h
  simp only [JE, dot_l] at z
  rw [List.append_assoc, List.append_assoc] at z
  obtain ⟨e1, e2⟩ := cut_list z hs ht
  exact ⟨J2 e1, J2 e2⟩
noncomputable abbrev ts (i : Nat) : Str := (toString ((i : Nat) : Int) : Str)
theorem ts_free (i : Int) : 46 ∉ (toString i : Str).cps.toList := int_text_free' 46 ⟨by decide, by decide⟩ i
theorem ts_inj {i j : Int} (h0 : 0 ≤ i) (h1 : i < 10 ^ 10) (g0 : 0 ≤ j) (g1 : j < 10 ^ 10) (h : (toString i : Str) = (toString j : Str)) : i = j := by
  have a := PySem.W.KIN.num_reads h0 h1
  have b := PySem.W.KIN.num_reads g0 g1
  rw [show PySem.Str.ofString (toString i) = PySem.Str.ofString (toString j) from h, b] at a
  exact (Option.some.inj a).symm
theorem kid_inj {n m : Str} {i j : Nat} (hi : i < 10 ^ 9) (hj : j < 10 ^ 9) (h : kid n i = kid m j) : n = m ∧ i = j := by
  obtain ⟨e1, e2⟩ := cut_inj h (ts_free _) (ts_free _)
  exact ⟨e1, by have := ts_inj (by omega) (by omega) (by omega) (by omega) e2; omega⟩
theorem kid_up {n m : Str} {i j : Nat} (h : kid n i = kid m j) : n = m := (cut_inj h (ts_free _) (ts_free _)).1
theorem JM (s : Str) : ∀ (l : List Str) (_ : l ≠ []), Str.join dot (l ++ [s]) = Str.join dot l ++ dot ++ s
  | [a], _ => rfl
  | a :: b :: r, _ => by
    show a ++ dot ++ Str.join dot ((b :: r) ++ [s]) = (a ++ dot ++ Str.join dot (b :: r)) ++ dot ++ s
    rw [JM s (b :: r) (by simp)]
    refine J2 ?_
    simp only [JE, List.append_assoc]
theorem join_inj : ∀ (l m : List Str), l ≠ [] → m ≠ [] → (∀ p ∈ l, 46 ∉ p.cps.toList) → (∀ p ∈ m, 46 ∉ p.cps.toList) → Str.join dot l = Str.join dot m → l = m := by
  have key : ∀ (n : Nat) (l m : List Str), l.length = n → l ≠ [] → m ≠ [] → (∀ p ∈ l, 46 ∉ p.cps.toList) → (∀ p ∈ m, 46 ∉ p.cps.toList) → Str.join dot l = Str.join dot m → l = m := by
    intro n
    induction n with
    | zero => intro l m h hl; exact absurd (List.length_eq_zero_iff.mp h) hl
    | succ n ih =>
      intro l m h hl hm fl fm e
      rcases List.eq_nil_or_concat l with rfl | ⟨l', a, rfl⟩
      · exact absurd rfl hl
      rcases List.eq_nil_or_concat m with rfl | ⟨m', b, rfl⟩
      · exact absurd rfl hm
      simp only [List.concat_eq_append] at h hl hm fl fm e ⊢
      have noDot : ∀ x : Str, 46 ∉ x.cps.toList → ∀ (k : List Str) (y : Str), k ≠ [] → x ≠ Str.join dot (k ++ [y]) := fun x hx k y hk z => by
        apply hx
        rw [z, JM y k hk, JE, JE, dot_l]
        simp
      by_cases h1 : l' = []
      · subst h1
        by_cases h2 : m' = []
        · subst h2
          have : a = b := e
          rw [this]
        · exact absurd e (noDot a (fl a (by simp)) m' b h2)
      · by_cases h2 : m' = []
        · subst h2
          exact absurd e.symm (noDot b (fm b (by simp)) l' a h1)
        · rw [JM a l' h1, JM b m' h2] at e
          obtain ⟨e1, e2⟩ := cut_inj e (fl a (by simp)) (fm b (by simp))
          rw [e2, ih l' m' (by simp at h; omega) h1 h2 (fun p hp => fl p (by simp [hp])) (fun p hp => fm p (by simp [hp])) e1]
  exact fun l m => key l.length l m rfl
theorem JY {x p : Str} (h : p ∈ pcs x) : 46 ∉ p.cps.toList := split_free x 46 p (by have z : p ∈ Txt.split x dot := h; rw [dot_eq] at z; exact z)
theorem Y3 (x : Str) : Str.join dot (pcs x) = x := join_split x dot
theorem pcs_ne (x : Str) : pcs x ≠ [] := by rw [XT]; simp
theorem pcs_kid (n : Str) (i : Nat) : pcs (kid n i) = pcs n ++ [(toString ((i : Int) + 1) : Str)] := by
  refine join_inj _ _ (pcs_ne _) (by simp) (fun p hp => JY hp) (fun p hp => ?_) ?_
  · rcases List.mem_append.mp hp with h | h
    · exact JY h
    · rw [List.mem_singleton.mp h]
      exact ts_free _
  · rw [Y3, JM _ _ (pcs_ne n), Y3]
    rfl
theorem pcs_one {x : Str} (h : 46 ∉ x.cps.toList) : pcs x = [x] := by
  refine join_inj _ _ (pcs_ne _) (by simp) (fun p hp => JY hp) (fun p hp => ?_) ?_
  · rw [List.mem_singleton.mp hp]; exact h
  · rw [Y3]; rfl
theorem gw_free {x : Str} (h : gw x = true) : 46 ∉ x.cps.toList := fun hm => by
  unfold gw at h
  simp only [Bool.and_eq_true] at h
  have z := List.all_eq_true.mp h.1.2 46 hm
  revert z
  decide
theorem gw_len {x : Str} (h : gw x = true) : 1 ≤ x.length ∧ x.length ≤ 8 := by
  unfold gw at h
  simp only [Bool.and_eq_true, decide_eq_true_eq] at h
  exact ⟨h.1.1.1, h.1.1.2⟩
theorem kid_dot (n : Str) (i : Nat) : 46 ∈ (kid n i).cps.toList := by
  unfold kid
  rw [JE, JE, dot_l]
  simp
theorem gw_kid {x n : Str} {i : Nat} (h : gw x = true) : x ≠ kid n i := fun e => gw_free h (e ▸ kid_dot n i)
theorem wd_kid (n : Str) (i : Nat) : wd (kid n i) = wd n := by
  unfold wd
  rw [pcs_kid]
  cases e : pcs n with
  | nil => exact absurd e (pcs_ne n)
  | cons a r => rfl
theorem nms_kid (n : Str) (i : Nat) : nms (kid n i) = nms n ++ [(toString ((i : Int) + 1) : Str)] := by
  unfold nms
  rw [pcs_kid]
  cases e : pcs n with
  | nil => exact absurd e (pcs_ne n)
  | cons a r => rfl
theorem wd_gw {x : Str} (h : gw x = true) : wd x = x := by unfold wd; rw [pcs_one (gw_free h)]; rfl
theorem nms_gw {x : Str} (h : gw x = true) : nms x = [] := by unfold nms; rw [pcs_one (gw_free h)]; rfl
theorem pok_gw {x : Str} (h : gw x = true) : pok x = true := by
  unfold pok
  rw [wd_gw h, nms_gw h, h]
  rfl
theorem gn_tab : ∀ k ∈ List.range 99, gn (ts (k + 1)) = true ∧ (ts (k + 1)).length ≤ 2 := by decide +kernel
theorem gn_ts {i : Nat} (h : i < 99) : gn (toString ((i : Int) + 1) : Str) = true ∧ (toString ((i : Int) + 1) : Str).length ≤ 2 := gn_tab i (List.mem_range.mpr h)
noncomputable def dots (x : Str) : Nat := (Builtin.Str.occurrences x dot 0 x.length (x.length + 1)).length
theorem dots_cnt (x : Str) : (dots x : Int) = cnt 46 x.cps.toList := by
  have h := count_is x 46
  unfold dots
  rw [dot_eq]
  exact h
theorem dots_eq (x : Str) : dots x = (nms x).length := by
  have h := cnt_join dot 46 (by rw [dot_l]; rfl) (pcs x) (fun t ht => JY ht)
  rw [Y3, ← dots_cnt, XT] at h
  simp at h
  omega
theorem pok_kid {n : Str} {i : Nat} (h : pok n = true) (hd : dots n < 5) (hi : i < 99) : pok (kid n i) = true := by
  unfold pok at h ⊢
  simp only [Bool.and_eq_true, decide_eq_true_eq] at h ⊢
  rw [wd_kid, nms_kid]
  rw [dots_eq] at hd
  refine ⟨⟨h.1.1, by simp; omega⟩, ?_⟩
  rw [List.all_append, h.2]
  have z := (gn_ts hi).1
  simp only [List.all_cons, List.all_nil, Bool.and_true, Bool.true_and]
  exact z
theorem join_len (B : Nat) (n : Nat) : ∀ (l : List Str), l.length = n → l ≠ [] → (∀ p ∈ l.tail, p.length ≤ B) → (Str.join dot l).length + B + 1 ≤ (l.headD Str.empty).length + l.length * (B + 1) := by
  induction n with
  | zero => intro l h hl; exact absurd (List.length_eq_zero_iff.mp h) hl
  | succ n ih =>
    intro l hn hl hB
    rcases List.eq_nil_or_concat l with rfl | ⟨l, s, rfl⟩
    · exact absurd rfl hl
    simp only [List.concat_eq_append] at hn hl hB ⊢
    by_cases h : l = []
    · subst h
      show s.length + B + 1 ≤ s.length + 1 * (B + 1)
      omega
    · have z := ih l (by simp at hn; omega) h (fun p hp => hB p (by cases l with | nil => exact absurd rfl h | cons a r => simp at hp ⊢; exact .inl hp))
      have zs : s.length ≤ B := hB s (by cases l with | nil => exact absurd rfl h | cons a r => simp)
      rw [JM s l h, XO, XO]
      have hd : (l ++ [s]).headD Str.empty = l.headD Str.empty := by cases l with | nil => exact absurd rfl h | cons a r => rfl
      have d1 : dot.length = 1 := by rw [dot_eq]; rfl
      rw [hd, d1, List.length_append, List.length_singleton, Nat.add_mul]
      omega
theorem Je {x : Str} (h : pok x = true) : x.length ≤ 23 := by
  unfold pok at h
  simp only [Bool.and_eq_true, decide_eq_true_eq] at h
  have hl := join_len 2 _ (pcs x) rfl (pcs_ne x) (fun p hp => by
    have z := List.all_eq_true.mp h.2 p hp
    unfold gn at z
    simp only [Bool.and_eq_true, decide_eq_true_eq] at z
    exact z.1.1.2)
  rw [Y3] at hl
  have hw := (gw_len h.1.1).2
  have e : (pcs x).headD Str.empty = wd x := by rw [XT]; rfl
  have e2 : (pcs x).length = (nms x).length + 1 := by rw [XT]; simp
  rw [e, e2] at hl
  omega
end L2

set_option Elab.async false
set_option linter.all false
set_option maxRecDepth 100000
namespace L2
open PySem PySem.Spec PyProof.Rows
theorem yr_app (bs : List (Str × Int)) (m : Str) (y : Int) (n : Str) : yr (bs ++ [(m, y)]) n = (yr bs n).or (if m = n then some y else none) := by
  unfold yr
  rw [List.find?_append]
  cases e : bs.find? (fun p => decide (p.1 = n)) with
  | some p => rfl
  | none =>
    by_cases h : m = n
    · simp [h, List.find?_cons]
    · simp [h, List.find?_cons]
theorem ZI (bs : List (Str × Int)) (m : Str) (y : Int) (n : Str) : has (bs ++ [(m, y)]) n = (has bs n || decide (m = n)) := by
  unfold has
  rw [yr_app]
  cases yr bs n with
  | some v => rfl
  | none => by_cases h : m = n <;> simp [h]
theorem JD (bs : List (Str × Int)) (n : Str) : has bs n = true ↔ n ∈ bs.map (·.1) := by
  unfold has yr
  rw [Option.isSome_map, List.find?_isSome, List.mem_map]
  constructor
  · rintro ⟨p, hp, e⟩; exact ⟨p, hp, of_decide_eq_true e⟩
  · rintro ⟨p, hp, e⟩; exact ⟨p, hp, decide_eq_true e⟩
theorem has_no (bs : List (Str × Int)) (n : Str) : has bs n = false ↔ n ∉ bs.map (·.1) := by
  rw [← JD]; cases has bs n <;> simp
theorem has_nil (n : Str) : has [] n = false := rfl
noncomputable def nk (bs : List (Str × Int)) (n : Str) : Nat := (List.range 1000).findIdx fun i => !has bs (kid n i)
theorem nk_of {bs : List (Str × Int)} {n : Str} {k : Nat} (hk : k < 1000) (h1 : ∀ i, i < k → has bs (kid n i) = true) (h2 : has bs (kid n k) = false) : nk bs n = k := by
  unfold nk
  refine (List.findIdx_eq (by rw [List.length_range]; exact hk)).mpr ⟨?_, fun j hj => ?_⟩
  · rw [List.getElem_range, h2]; rfl
  · rw [List.getElem_range, h1 j hj]; rfl
theorem nk_congr {bs bs' : List (Str × Int)} {n : Str} (h : ∀ i, has bs (kid n i) = has bs' (kid n i)) : nk bs n = nk bs' n := by
  unfold nk
  congr 1
  funext i
  rw [h i]
structure Wf (bs ds : List (Str × Int)) : Prop where
  nod : (bs.map (·.1)).Nodup
  sub : ∀ n, has ds n = true → has bs n = true
  wrt : ∀ n, has bs n = true → pok n = true
  par : ∀ n i, has bs (kid n i) = true → has bs n = true
  cnt : ∀ n i, i < 1000 → (has bs (kid n i) = true ↔ i < nk bs n)
  lim : bs.length < 1000
  few : ∀ n, nk bs n ≤ bs.length
theorem Wf.nil : Wf [] [] where
  nod := by simp
  sub := fun n h => by cases h
  wrt := fun n h => by cases h
  par := fun n i h => by cases h
  cnt := fun n i _ => by rw [nk_of (k := 0) (by decide) (fun i h => by omega) rfl]; simp [has_nil]
  lim := by decide
  few := fun n => by rw [nk_of (k := 0) (by decide) (fun i h => by omega) rfl]; exact Nat.zero_le _
theorem Wf.no_kid {bs ds : List (Str × Int)} (W : Wf bs ds) (n : Str) : has bs (kid n (nk bs n)) = false := by
  cases e : has bs (kid n (nk bs n)) with
  | false => rfl
  | true => exact absurd ((W.cnt n _ (by have := W.few n; have := W.lim; omega)).mp e) (Nat.lt_irrefl _)
theorem Wf.nk_none {bs ds : List (Str × Int)} (W : Wf bs ds) {n : Str} (h : has bs n = false) : nk bs n = 0 := by
  cases e : nk bs n with
  | zero => rfl
  | succ k =>
    have z := W.par n 0 ((W.cnt n 0 (by omega)).mpr (by omega))
    rw [h] at z
    cases z
theorem nk_word {bs : List (Str × Int)} {w : Str} {y : Int} (hw : gw w = true) (n : Str) : nk (bs ++ [(w, y)]) n = nk bs n := nk_congr fun i => by
  rw [ZI, decide_eq_false (gw_kid hw), Bool.or_false]
theorem nod_app {bs : List (Str × Int)} {m : Str} {y : Int} (h : (bs.map (·.1)).Nodup) (hm : has bs m = false) : ((bs ++ [(m, y)]).map (·.1)).Nodup := by
  rw [List.map_append, List.nodup_append]
  refine ⟨h, by simp, fun a ha b hb e => ?_⟩
  rw [List.map_cons, List.map_nil, List.mem_singleton] at hb
  have hb' : b = m := hb
  exact (has_no bs m).mp hm (by rw [← hb', ← e]; exact ha)
theorem Wf.arrive {bs ds : List (Str × Int)} {w : Str} {y : Int} (W : Wf bs ds) (hw : gw w = true) (h : has bs w = false) (hl : bs.length < 900) : Wf (bs ++ [(w, y)]) ds where
  nod := nod_app W.nod h
  sub := fun n hn => by rw [ZI, W.sub n hn]; rfl
  wrt := fun n hn => by
    rw [ZI, Bool.or_eq_true] at hn
    rcases hn with e | e
    · exact W.wrt n e
    · rw [← of_decide_eq_true e]; exact pok_gw hw
  par := fun n i hn => by
    rw [ZI, decide_eq_false (gw_kid hw), Bool.or_false] at hn
    rw [ZI, W.par n i hn]; rfl
  cnt := fun n i hi => by rw [nk_word hw, ZI, decide_eq_false (gw_kid hw), Bool.or_false]; exact W.cnt n i hi
  lim := by rw [List.length_append, List.length_singleton]; omega
  few := fun n => by rw [nk_word hw, List.length_append]; have := W.few n; omega
theorem kid_ne {n m : Str} {i j : Nat} (h : n ≠ m) : kid n i ≠ kid m j := fun e => h (kid_up e)
theorem nk_born {bs ds : List (Str × Int)} (W : Wf bs ds) {n : Str} {y : Int} (hl : bs.length < 900) (m : Str) : nk (bs ++ [(kid n (nk bs n), y)]) m = if m = n then nk bs n + 1 else nk bs m := by
  have hf := W.few n
  by_cases h : m = n
  · subst h
    rw [if_pos rfl]
    refine nk_of (by omega) (fun i hi => ?_) ?_
    · rw [ZI]
      by_cases e : i < nk bs m
      · rw [(W.cnt m i (by omega)).mpr e]; rfl
      · rw [show i = nk bs m by omega]; simp
    · rw [ZI]
      have z : has bs (kid m (nk bs m + 1)) = false := by
        cases e : has bs (kid m (nk bs m + 1)) with
        | false => rfl
        | true => have := (W.cnt m _ (by omega)).mp e; omega
      rw [z, decide_eq_false (fun e => by have := (kid_inj (by omega) (by omega) e).2; omega)]
      rfl
  · rw [if_neg h]
    exact nk_congr fun i => by rw [ZI, decide_eq_false (kid_ne (Ne.symm h)), Bool.or_false]
theorem Wf.birth {bs ds : List (Str × Int)} {n : Str} {y : Int} (W : Wf bs ds) (hn : has bs n = true) (hd : dots n < 5) (hl : bs.length < 900) (h99 : nk bs n < 99) : Wf (bs ++ [(kid n (nk bs n), y)]) ds where
  nod := nod_app W.nod (W.no_kid n)
  sub := fun m h => by rw [ZI, W.sub m h]; rfl
  wrt := fun m h => by
    rw [ZI, Bool.or_eq_true] at h
    rcases h with e | e
    · exact W.wrt m e
    · rw [← of_decide_eq_true e]; exact pok_kid (W.wrt n hn) hd h99
  par := fun m i h => by
    rw [ZI, Bool.or_eq_true] at h
    rcases h with e | e
    · rw [ZI, W.par m i e]; rfl
    · rw [← kid_up (of_decide_eq_true e), ZI, hn]; rfl
  cnt := fun m i hi => by
    rw [nk_born W hl, ZI]
    by_cases h : m = n
    · subst h
      rw [if_pos rfl]
      by_cases e : i = nk bs m
      · subst e; simp
      · have hf := W.few m
        rw [decide_eq_false (fun z => e (kid_inj (by omega) (by omega) z).2.symm), Bool.or_false, W.cnt m i hi]
        omega
    · rw [if_neg h, decide_eq_false (kid_ne (Ne.symm h)), Bool.or_false]; exact W.cnt m i hi
  lim := by rw [List.length_append, List.length_singleton]; omega
  few := fun m => by
    rw [nk_born W hl, List.length_append, List.length_singleton]
    have a := W.few m
    have b := W.few n
    split <;> omega
theorem Wf.death {bs ds : List (Str × Int)} {n : Str} {y : Int} (W : Wf bs ds) (hn : has bs n = true) : Wf bs (ds ++ [(n, y)]) where
  nod := W.nod
  sub := fun m h => by
    rw [ZI, Bool.or_eq_true] at h
    rcases h with e | e
    · exact W.sub m e
    · rw [← of_decide_eq_true e]; exact hn
  wrt := W.wrt
  par := W.par
  cnt := W.cnt
  lim := W.lim
  few := W.few
theorem Zo.kp {H H' : Hp} (s : Zo H H') : ZD [] H H' := ⟨fun a o _ e => s a o e, fun a e => s.free e⟩
theorem ZD.refl (X : List Addr) (H : Hp) : ZD X H H := ⟨fun _ _ _ e => e, fun _ e => e⟩
theorem ZD.tr {X Y : List Addr} {H1 H2 H3 : Hp} (k : ZD X H1 H2) (q : ZD Y H2 H3) (h : ∀ a ∈ Y, a ∈ X ∨ H1 a = none) : ZD X H1 H3 :=
  ⟨fun a o hn e => q.1 a o (fun hy => (h a hy).elim hn fun z => by rw [z] at e; cases e) (k.1 a o hn e), fun a e => k.2 a (q.2 a e)⟩
theorem ZD.same {X : List Addr} {H1 H2 H3 : Hp} (k : ZD X H1 H2) (q : Zo H2 H3) : ZD X H1 H3 := k.tr q.kp (fun a h => nomatch h)
theorem Zo.keep {Y : List Addr} {H1 H2 H3 : Hp} (k : Zo H1 H2) (q : ZD Y H2 H3) (h : ∀ a ∈ Y, H1 a = none) : Zo H1 H3 := fun b o e => (k.kp.tr q (fun a ha => .inr (h a ha))).1 b o (fun h => nomatch h) e
noncomputable def Y5 (H : Hp) (R R' : List Addr) : Prop := ∀ a ∈ R', a ∈ R ∨ H a = none
theorem Y5.refl (H : Hp) (R : List Addr) : Y5 H R R := fun _ h => .inl h
noncomputable def Live (H : Hp) (R : List Addr) : Prop := ∀ a ∈ R, ∃ o, H a = some o
noncomputable def Dj (R S : List Addr) : Prop := ∀ a ∈ R, a ∉ S
theorem Dj.symm {R S : List Addr} (h : Dj R S) : Dj S R := fun a ha hb => h a hb ha
theorem Dj.grow {H : Hp} {R S S' : List Addr} (h : Dj R S) (l : Live H R) (g : Y5 H S S') : Dj R S' := fun a ha hb => (g a hb).elim (h a ha) fun z => by
  obtain ⟨o, e⟩ := l a ha
  rw [z] at e
  cases e
theorem Live.dj {H : Hp} {R S : List Addr} (l : Live H R) (h : ∀ a ∈ S, H a = none) : Dj R S := fun a ha hb => by
  obtain ⟨o, e⟩ := l a ha
  rw [h a hb] at e
  cases e
noncomputable def foot (b d1 d2 d3 : Addr) (ws : List (Str × Addr × Nat)) : List Addr := b :: d1 :: d2 :: d3 :: ws.map (·.2.1)
structure LivesAt (C : Addr) (H : Hp) (b : Addr) (bs ds : List (Str × Int)) (R : List Addr) : Prop where
  ex : ∃ d1 d2 d3 ws, Book C H b d1 d2 d3 bs ds ws ∧ ws.map (·.1) = bs.map (·.1) ∧ (∀ p ∈ ws, p.2.2 = nk bs p.1) ∧ R = foot b d1 d2 d3 ws
  wf : Wf bs ds
theorem LivesAt.live {C : Addr} {H : Hp} {b : Addr} {bs ds : List (Str × Int)} {R : List Addr} (L : LivesAt C H b bs ds R) : Live H R := by
  obtain ⟨d1, d2, d3, ws, B, _, _, rfl⟩ := L.ex
  obtain ⟨dx, hb⟩ := B.obj
  intro a ha
  rcases List.mem_cons.mp ha with rfl | ha
  · exact ⟨_, hb⟩
  rcases List.mem_cons.mp ha with rfl | ha
  · exact ⟨_, B.h1⟩
  rcases List.mem_cons.mp ha with rfl | ha
  · exact ⟨_, B.h2⟩
  rcases List.mem_cons.mp ha with rfl | ha
  · exact ⟨_, B.h3⟩
  obtain ⟨p, hp, rfl⟩ := List.mem_map.mp ha
  exact ⟨_, B.kids p hp⟩
theorem LivesAt.mv {C : Addr} {H H' : Hp} {b : Addr} {bs ds : List (Str × Int)} {R : List Addr} (L : LivesAt C H b bs ds R) (h : ∀ a ∈ R, ∀ o, H a = some o → H' a = some o) : LivesAt C H' b bs ds R := by
  obtain ⟨d1, d2, d3, ws, B, k1, k2, rfl⟩ := L.ex
  obtain ⟨dx, hb⟩ := B.obj
  refine ⟨⟨d1, d2, d3, ws, ⟨⟨dx, h _ ?_ _ hb⟩, h _ ?_ _ B.h1, h _ ?_ _ B.h2, h _ ?_ _ B.h3, B.n12, B.n13, B.n23, fun p hp => h _ ?_ _ (B.kids p hp), B.nod⟩, k1, k2, rfl⟩, L.wf⟩
  all_goals unfold foot
  · simp
  · simp
  · simp
  · simp
  · exact List.mem_cons_of_mem _ (List.mem_cons_of_mem _ (List.mem_cons_of_mem _ (List.mem_cons_of_mem _ (List.mem_map.mpr ⟨p, hp, rfl⟩))))
theorem LivesAt.same {C : Addr} {H H' : Hp} {b : Addr} {bs ds : List (Str × Int)} {R : List Addr} (L : LivesAt C H b bs ds R) (s : Zo H H') : LivesAt C H' b bs ds R := L.mv fun a _ o e => s a o e
noncomputable def JZ (m c e1 e2 e3 : Addr) : List Addr := [m, c, e1, e2, e3]
structure MdlAt (H : Hp) (m : Addr) (y : Int) (bs ds cs : List (Str × Int)) (R : List Addr) : Prop where
  ex : ∃ c e1 e2 e3, Mdl H m c e1 e2 e3 y bs ds cs ∧ R = JZ m c e1 e2 e3
theorem MdlAt.live {H : Hp} {m : Addr} {y : Int} {bs ds cs : List (Str × Int)} {R : List Addr} (L : MdlAt H m y bs ds cs R) : Live H R := by
  obtain ⟨c, e1, e2, e3, B, rfl⟩ := L.ex
  intro a ha
  rcases List.mem_cons.mp ha with rfl | ha
  · exact ⟨_, B.tup⟩
  rcases List.mem_cons.mp ha with rfl | ha
  · exact ⟨_, B.clk⟩
  rcases List.mem_cons.mp ha with rfl | ha
  · exact ⟨_, B.h1⟩
  rcases List.mem_cons.mp ha with rfl | ha
  · exact ⟨_, B.h2⟩
  rw [List.mem_singleton.mp ha]
  exact ⟨_, B.h3⟩
theorem MdlAt.mv {H H' : Hp} {m : Addr} {y : Int} {bs ds cs : List (Str × Int)} {R : List Addr} (L : MdlAt H m y bs ds cs R) (h : ∀ a ∈ R, ∀ o, H a = some o → H' a = some o) : MdlAt H' m y bs ds cs R := by
  obtain ⟨c, e1, e2, e3, B, rfl⟩ := L.ex
  exact ⟨c, e1, e2, e3, ⟨h _ (by simp [JZ]) _ B.tup, h _ (by simp [JZ]) _ B.clk, h _ (by simp [JZ]) _ B.h1, h _ (by simp [JZ]) _ B.h2, h _ (by simp [JZ]) _ B.h3, B.n12, B.n13, B.n23⟩, rfl⟩
theorem MdlAt.same {H H' : Hp} {m : Addr} {y : Int} {bs ds cs : List (Str × Int)} {R : List Addr} (L : MdlAt H m y bs ds cs R) (s : Zo H H') : MdlAt H' m y bs ds cs R := L.mv fun a _ o e => s a o e
theorem MdlAt.keep {H H' : Hp} {m : Addr} {y : Int} {bs ds cs : List (Str × Int)} {R X : List Addr} (L : MdlAt H m y bs ds cs R) (k : ZD X H H') (d : Dj R X) : MdlAt H' m y bs ds cs R := L.mv fun a ha o e => k.1 a o (d a ha) e
end L2

set_option Elab.async false
set_option linter.all false
namespace L2
open PySem PySem.Spec
set_option genInjectivity false in
set_option genSizeOfSpec false in
structure Ga where
  LandError : Addr := 0
  NoText : Addr := 0
  OutOfBound : Addr := 0
  Taken : Addr := 0
  NoPerson : Addr := 0
  Gone : Addr := 0
  TooDeep : Addr := 0
  Lives : Addr := 0
  World : Addr := 0
  BARRED : Addr := 0
  LONGEST_WORD : Tok := 0
  LONGEST_NUMBER : Tok := 0
  MOST_NUMBERS : Tok := 0
  LAST_FIRST_YEAR : Tok := 0
  MOST_YEARS : Tok := 0
  OLDEST : Tok := 0
  MET : Tok := 0
  FAILED : Tok := 0
  HANGS : Tok := 0
theorem Jv {X : Cx} : Jb (CXR X.prog X.w X.base) X (fun _ _ _ => False) := fun _ _ _ _ _ _ _ h => by
  obtain ⟨_, _, _, _, _, _, _, _, _, _, _, _, _, _, q⟩ := h
  exact q.elim
structure Dk (P : Program) (w : World) (K : PySem.W.Frag) (mg : Str → Option Value) (base : Heap) (CX : CXT) (C : Addr) (k : Nat) (x : Str) (ps : List Str) (sp : Sp) : Prop where
  mgx : mg x = some (.ref C)
  ex : ∃ f fd, FnOk P w K mg base CX k f fd ps sp ∧ Mk K C f ∧ Binds K fd ps []
noncomputable def tMk (C : Addr) (sp : Sp) (E : XK) (t : TA) : TE := fun σ H Q => t σ H fun vs H1 => ∀ x dx, H1 x = none → H1 dx = none → dx ≠ x →
  sp (.ref x :: vs) (upd (upd H1 dx (.own x)) x (.ins C dx [])) (fun v H2 => v = .non ∧ Q (.ref x) H2) E
theorem tMk_eq {C : Addr} {sp : Sp} {E : XK} {t : TA} : tMake C sp [] E t = tMk C sp E t := by
  funext σ H Q
  unfold tMake tMk
  simp only [List.append_nil]
theorem pe_mk {X : Cx} {CX : CXT} {k : Nat} {C : Addr} {x : Str} {ps : List Str} {sp : Sp} {E : XK} {e : Expr} {es : List Expr} {p pos : Pos} {t : TA} (hx : Jb CX X E) (D : Dk X.prog X.w X.K X.mg X.base CX C k x ps sp) (hr : Room (k + 1) X.A) (hg : Gl X x) (ha : PA X (e :: es) t)
    (hdb : (x == ("__debug__" : Str)) = false := by decide) (he : starEach (e :: es) X.env = (false, eval e X.env) :: starEach es X.env := by rfl) (hpl : (backTo pos (starEach es X.env)).any (·.1) = false := by rfl) :
    PE X (.Call (.Name x p) (e :: es) [] pos) (tMk C sp E t) := by
  obtain ⟨f, fd, F, M, hb⟩ := D.ex
  rw [← tMk_eq]
  exact pe_make M F hr hg D.mgx hb .nil hx ha hdb he hpl
theorem pe_mk0 {X : Cx} {CX : CXT} {k : Nat} {C : Addr} {x : Str} {ps : List Str} {sp : Sp} {E : XK} {p pos : Pos} (hx : Jb CX X E) (D : Dk X.prog X.w X.K X.mg X.base CX C k x ps sp) (hr : Room (k + 1) X.A) (hg : Gl X x)
    (hdb : (x == ("__debug__" : Str)) = false := by decide) : PE X (.Call (.Name x p) [] [] pos) (tMk C sp E tNil) := by
  obtain ⟨f, fd, F, M, hb⟩ := D.ex
  rw [← tMk_eq]
  exact pe_make0 M F hr hg D.mgx hb .nil hx hdb
end L2

set_option Elab.async false
set_option linter.all false
set_option maxRecDepth 100000
namespace L2
open PySem PySem.Spec PyProof.Rows
section
variable {X : Cx}
noncomputable def rListS (K : PySem.W.Frag) : List V → Hp → VK → Prop := fun xs H Q => ∃ p ys, xs = [.ref p] ∧ (SqL K H p ys ∨ SqT K H p ys) ∧ ∀ l, H l = none → Q (.ref l) (upd H l (.lst ys))
theorem call_listS : Jw X (.type "list") (rListS X.K) := call_list_of
end
end L2

set_option Elab.async false
set_option linter.all false
set_option maxRecDepth 100000
namespace L2
open PySem PySem.Spec PyProof.Rows
theorem map_bump (ws : List (Str × Addr × Nat)) (n : Str) : (bump ws n).map (·.1) = ws.map (·.1) := by
  unfold bump
  rw [List.map_map]
  refine List.map_congr_left fun p _ => ?_
  show (if p.1 = n then (p.1, p.2.1, p.2.2 + 1) else p).1 = p.1
  split <;> rfl
theorem bro_of {ws : List (Str × Addr × Nat)} {bs : List (Str × Int)} {n : Str} (k1 : ws.map (·.1) = bs.map (·.1)) (k2 : ∀ p ∈ ws, p.2.2 = nk bs p.1) (h : has bs n = true) : ∃ a, bro ws n = some (a, nk bs n) := by
  have hm : n ∈ ws.map (·.1) := by rw [k1]; exact (JD bs n).mp h
  unfold bro
  obtain ⟨p, hp, e⟩ := List.mem_map.mp hm
  have z : (ws.find? fun p => decide (p.1 = n)).isSome = true := List.find?_isSome.mpr ⟨p, hp, decide_eq_true e⟩
  cases q : ws.find? (fun p => decide (p.1 = n)) with
  | none => rw [q] at z; cases z
  | some r =>
    have r0 : decide (r.1 = n) = true := List.find?_some (p := fun p : Str × Addr × Nat => decide (p.1 = n)) q
    have r1 := of_decide_eq_true r0
    have r2 := k2 r (List.mem_of_find?_eq_some q)
    refine ⟨r.2.1, ?_⟩
    rw [← r1, ← r2]
    rfl
theorem no_bro {ws : List (Str × Addr × Nat)} {bs : List (Str × Int)} {n : Str} (k1 : ws.map (·.1) = bs.map (·.1)) (h : has bs n = false) : Y6 (brs ws) (Sum.inr n : Key) = none := by
  rw [valV_brs]
  unfold bro
  have z : ws.find? (fun p => decide (p.1 = n)) = none := by
    rw [List.find?_eq_none]
    intro p hp e
    exact (has_no bs n).mp h (by rw [← k1]; exact List.mem_map.mpr ⟨p, hp, of_decide_eq_true e⟩)
  rw [z]
  rfl
theorem counts_word {ws : List (Str × Addr × Nat)} {bs ds : List (Str × Int)} {w : Str} {y : Int} {l : Addr} (W : Wf bs ds) (k1 : ws.map (·.1) = bs.map (·.1)) (k2 : ∀ p ∈ ws, p.2.2 = nk bs p.1) (hw : gw w = true) (h : has bs w = false) :
    (ws ++ [(w, l, 0)] : List (Str × Addr × Nat)).map (fun p => p.1) = (bs ++ [(w, y)]).map (fun p => p.1) ∧ ∀ p ∈ ws ++ [(w, l, 0)], p.2.2 = nk (bs ++ [(w, y)]) p.1 := by
  refine ⟨by rw [List.map_append, List.map_append, k1]; rfl, fun p hp => ?_⟩
  rw [nk_word hw]
  rcases List.mem_append.mp hp with hp | hp
  · exact k2 p hp
  · rw [List.mem_singleton.mp hp]
    exact (W.nk_none h).symm
theorem counts_born {ws : List (Str × Addr × Nat)} {bs ds : List (Str × Int)} {n : Str} {y : Int} {l : Addr} (W : Wf bs ds) (k1 : ws.map (·.1) = bs.map (·.1)) (k2 : ∀ p ∈ ws, p.2.2 = nk bs p.1) (hn : has bs n = true) (hl : bs.length < 900) :
    (bump ws n ++ [(kid n (nk bs n), l, 0)] : List (Str × Addr × Nat)).map (fun p => p.1) = (bs ++ [(kid n (nk bs n), y)]).map (fun p => p.1) ∧ ∀ p ∈ bump ws n ++ [(kid n (nk bs n), l, 0)], p.2.2 = nk (bs ++ [(kid n (nk bs n), y)]) p.1 := by
  refine ⟨by rw [List.map_append, List.map_append, map_bump, k1]; rfl, fun p hp => ?_⟩
  rw [nk_born W hl]
  rcases List.mem_append.mp hp with hp | hp
  · unfold bump at hp
    obtain ⟨q, hq, rfl⟩ := List.mem_map.mp hp
    have z := k2 q hq
    by_cases e : q.1 = n
    · rw [if_pos e, if_pos e]
      show q.2.2 + 1 = _
      rw [z, e]
    · rw [if_neg e, if_neg e]
      exact z
  · rw [List.mem_singleton.mp hp]
    have ne : ¬ kid n (nk bs n) = n := fun e => by
      have z := W.no_kid n
      rw [e, hn] at z
      cases z
    rw [if_neg ne]
    exact (W.nk_none (W.no_kid n)).symm
theorem foot_in {b d1 d2 d3 : Addr} {ws : List (Str × Addr × Nat)} : b ∈ foot b d1 d2 d3 ws ∧ d1 ∈ foot b d1 d2 d3 ws ∧ d2 ∈ foot b d1 d2 d3 ws ∧ d3 ∈ foot b d1 d2 d3 ws ∧ ∀ p ∈ ws, p.2.1 ∈ foot b d1 d2 d3 ws :=
  ⟨by simp [foot], by simp [foot], by simp [foot], by simp [foot], fun p hp => List.mem_cons_of_mem _ (List.mem_cons_of_mem _ (List.mem_cons_of_mem _ (List.mem_cons_of_mem _ (List.mem_map.mpr ⟨p, hp, rfl⟩))))⟩
theorem foot_grow {H : Hp} {b d1 d2 d3 l : Addr} {ws ws' : List (Str × Addr × Nat)} {x : Str} (h : ws'.map (·.2.1) = ws.map (·.2.1)) (hl : H l = none) : Y5 H (foot b d1 d2 d3 ws) (foot b d1 d2 d3 (ws' ++ [(x, l, 0)])) := by
  intro a ha
  unfold foot at ha ⊢
  rw [List.map_append, h] at ha
  simp only [List.mem_cons, List.mem_append, List.map_cons, List.map_nil, List.not_mem_nil, or_false] at ha ⊢
  rcases ha with rfl | rfl | rfl | rfl | ha | rfl
  · exact .inl (.inl rfl)
  · exact .inl (.inr (.inl rfl))
  · exact .inl (.inr (.inr (.inl rfl)))
  · exact .inl (.inr (.inr (.inr (.inl rfl))))
  · exact .inl (.inr (.inr (.inr (.inr ha))))
  · exact .inr hl
theorem ZD.wide {X Y : List Addr} {H H' : Hp} (k : ZD X H H') (h : ∀ a ∈ X, a ∈ Y) : ZD Y H H' := ⟨fun a o hn e => k.1 a o (fun z => hn (h a z)) e, k.2⟩
theorem YG {H : Hp} {a : Addr} {o : HO} : ZD [a] H (upd H a o) := ⟨fun b u hn e => by rw [Zg (fun z => hn (by simp [z]))]; exact e, fun b e => by
  by_cases z : b = a
  · rw [z, Zc] at e; cases e
  · rw [Zg z] at e; exact e⟩
noncomputable def al (bs ds : List (Str × Int)) (n : Str) : Bool := has bs n && !has ds n
end L2

set_option Elab.async false
set_option linter.all false
set_option maxRecDepth 100000
set_option maxHeartbeats 0
namespace L2
open PySem PySem.Spec
theorem Ju {names : List (Str × NameKind)} {cl : List (Str × Addr)} (h : names.all (fun p => !(p.2 == .cell || p.2 == .free) || (cl.map (·.1)).contains p.1) = true) : ∀ x, (names.lookup x = some .cell ∨ names.lookup x = some .free) → ∃ c, cl.lookup x = some c := by
  intro x hx
  have key : ∀ k, names.lookup x = some k → (k == NameKind.cell || k == NameKind.free) = true → ∃ c, cl.lookup x = some c := fun k e hk => by
    have m := PySem.mem_of_lookup e
    have q := List.all_eq_true.mp h _ m
    simp only [hk, Bool.not_true, Bool.false_or] at q
    have q' : x ∈ cl.map (·.1) := by simpa using q
    clear q h m e
    induction cl with
    | nil => simp at q'
    | cons p r ih =>
      obtain ⟨y, c⟩ := p
      rw [List.lookup_cons]
      cases z : x == y with
      | true => exact ⟨c, rfl⟩
      | false =>
        refine ih ?_
        rcases List.mem_cons.mp (show x ∈ y :: r.map (·.1) from q') with e | e
        · rw [e] at z
          simp at z
        · exact e
  rcases hx with e | e
  · exact key _ e rfl
  · exact key _ e rfl
theorem tAll_T {σ : St} {H : Hp} {A B : Hp → Prop} (h : A H) : tAll σ H (fun b H3 => if b = true then A H3 else B H3) := by
  show if true = true then A H else B H
  exact YY h
noncomputable def abc : Str := "abcdefghijklmnopqrstuvwxyz"
theorem ok_app {a b : Str} (ha : PyData.strOk a = true) (hb : PyData.strOk b = true) : PyData.strOk (a ++ b) = true := by
  unfold PyData.strOk at *
  show (a.cps ++ b.cps).all _ = true
  rw [Array.all_append, ha, hb]
  rfl
theorem len_app (a b : Str) : (a ++ b).length = a.length + b.length := by
  show (a.cps ++ b.cps).size = _
  rw [Array.size_append]
  rfl
theorem Xf {X : Cx} {st : List Stmt} {t t' : TS} (h : PSs X st t) (i : ∀ D σ H, t' D σ H → t D σ H) : PSs X st t' := fun pins s σ H D I q => h pins s σ H D I (i D σ H q)
theorem beq_dec (a x : Str) : (a == x) = decide (x = a) := by
  by_cases h : x = a
  · subst h
    rw [decide_eq_true rfl]
    exact beq_self_eq_true x
  · rw [decide_eq_false h]
    exact beq_eq_false_iff_ne.mpr fun z => h z.symm
theorem ZM {n : Nat} (h : n ≤ 500) : n ≤ sizeLine := Nat.le_of_lt (ZB (by omega))
theorem ts_tab : ∀ k ∈ List.range 131, (Str.ofString (toString ((k : Nat) : Int))).length ≤ 4 := by decide +kernel
theorem ts_len {i : Int} (h0 : 0 ≤ i) (h1 : i < 131) : (Str.ofString (toString i)).length ≤ 4 := by
  have := ts_tab i.toNat (List.mem_range.mpr (by omega))
  rw [show ((i.toNat : Nat) : Int) = i by omega] at this
  exact this
theorem log_small {i : Int} (h0 : 0 ≤ i) (h1 : i < 131) : i.natAbs.log2 < 1920 := by
  have : i.natAbs.log2 ≤ i.natAbs := Nat.log2_le_self _
  omega
end L2
namespace L2
open PySem PySem.Spec
theorem abc_in {i : Int} (h0 : 0 ≤ i) (h1 : i < 26) : ∃ c : Nat, atI abc.cps.toList i = some c ∧ inR 97 122 c = true := by
  have hl : abc.cps.toList.length = 26 := by decide +kernel
  have hi : i.toNat < abc.cps.toList.length := by omega
  have e : atI abc.cps.toList ((i.toNat : Nat) : Int) = some (abc.cps.toList[i.toNat]) := atI_nat (List.getElem?_eq_getElem hi)
  rw [show ((i.toNat : Nat) : Int) = i by omega] at e
  refine ⟨_, e, ?_⟩
  have a : abc.cps.toList.all (inR 97 122) = true := by decide +kernel
  exact List.all_eq_true.mp a _ (List.getElem_mem hi)
end L2

set_option Elab.async false
set_option linter.all false
set_option maxRecDepth 100000
namespace L2
open PySem PySem.Spec
inductive Deed where
  | arrive (w : Str) (a : Int)
  | birth (n : Str)
  | death (n : Str)
  | comes (w : Str)
  | years (k : Int)
noncomputable def Deed.vals : Deed → List V
  | .arrive w a => [.str "arrive", .str w, .int a]
  | .birth n => [.str "birth", .str n]
  | .death n => [.str "death", .str n]
  | .comes w => [.str "comes", .str w]
  | .years k => [.str "years", .int k]
structure Mo where
  y : Int
  bs : List (Str × Int)
  ds : List (Str × Int)
  cs : List (Str × Int)
noncomputable def Mo.step (S : Mo) : Deed → Mo
  | .arrive w a => { S with bs := S.bs ++ [(w, S.y - a)] }
  | .birth n => { S with bs := S.bs ++ [(kid n (nk S.bs n), S.y)] }
  | .death n => { S with ds := S.ds ++ [(n, S.y)] }
  | .comes w => { S with cs := S.cs ++ [(w, S.y)] }
  | .years k => { S with y := S.y + k }
noncomputable def Mo.good (S : Mo) (far : Int) : Deed → Prop
  | .arrive w a => gw w = true ∧ has S.bs w = false ∧ 0 ≤ a ∧ a ≤ 120
  | .birth n => has S.bs n = true ∧ has S.ds n = false ∧ dots n < 5
  | .death n => has S.bs n = true ∧ has S.ds n = false
  | .comes w => gw w = true ∧ has S.cs w = false
  | .years k => 1 ≤ k ∧ k ≤ far
structure Mo.Ok (S : Mo) (k : Nat) : Prop where
  wf : Wf S.bs S.ds
  cw : ∀ w, has S.cs w = true → gw w = true
  lb : S.bs.length ≤ k
  ld : S.ds.length ≤ k
  lc : S.cs.length ≤ k
noncomputable def YD (H : Hp) (m : Addr) (S : Mo) (R : List Addr) : Prop := MdlAt H m S.y S.bs S.ds S.cs R
theorem YD.live {H : Hp} {m : Addr} {S : Mo} {R : List Addr} (L : YD H m S R) : Live H R := MdlAt.live L
theorem YD.same {H H' : Hp} {m : Addr} {S : Mo} {R : List Addr} (L : YD H m S R) (s : Zo H H') : YD H' m S R := MdlAt.same L s
theorem YD.keep {H H' : Hp} {m : Addr} {S : Mo} {R X : List Addr} (L : YD H m S R) (k : ZD X H H') (d : Dj R X) : YD H' m S R := MdlAt.keep L k d
noncomputable def mo0 (y : Int) : Mo := ⟨y, [], [], []⟩
theorem Mo.Ok.zero (y : Int) : (mo0 y).Ok 0 := ⟨Wf.nil, (fun _ h => Bool.noConfusion h), Nat.le_refl _, Nat.le_refl _, Nat.le_refl _⟩
theorem Mo.Ok.step {S : Mo} {k : Nat} {far : Int} {d : Deed} (O : S.Ok k) (h : S.good far d) (hk : k < 98) : (S.step d).Ok (k + 1) := by
  have a := O.lb
  have b := O.ld
  have c := O.lc
  cases d with
  | arrive w a0 => exact ⟨O.wf.arrive h.1 h.2.1 (by omega), O.cw, by show (S.bs ++ [_]).length ≤ _; rw [List.length_append, List.length_singleton]; omega, by show S.ds.length ≤ _; omega, by show S.cs.length ≤ _; omega⟩
  | birth n => exact ⟨O.wf.birth h.1 h.2.2 (by omega) (by have := O.wf.few n; omega), O.cw, by show (S.bs ++ [_]).length ≤ _; rw [List.length_append, List.length_singleton]; omega, by show S.ds.length ≤ _; omega, by show S.cs.length ≤ _; omega⟩
  | death n => exact ⟨O.wf.death h.1, O.cw, by show S.bs.length ≤ _; omega, by show (S.ds ++ [_]).length ≤ _; rw [List.length_append, List.length_singleton]; omega, by show S.cs.length ≤ _; omega⟩
  | comes w => exact ⟨O.wf, fun x hx => by
      rw [show (S.step (.comes w)).cs = S.cs ++ [(w, S.y)] from rfl, ZI, Bool.or_eq_true] at hx
      rcases hx with e | e
      · exact O.cw x e
      · rw [← of_decide_eq_true e]; exact h.1, by show S.bs.length ≤ _; omega, by show S.ds.length ≤ _; omega, by show (S.cs ++ [_]).length ≤ _; rw [List.length_append, List.length_singleton]; omega⟩
  | years k0 => exact ⟨O.wf, O.cw, by show S.bs.length ≤ _; omega, by show S.ds.length ≤ _; omega, by show S.cs.length ≤ _; omega⟩
theorem ifEq {a : V} {A B : Prop} (k : A) : if decide (a = a) = true then A else B := by rw [if_pos (decide_eq_true rfl)]; exact k
theorem ZX {a b : Str} {A B : Prop} (h : (a == b) = false) (k : B) : if decide (V.str a = V.str b) = true then A else B := by
  rw [if_neg]
  · exact k
  · intro e
    have e' : a = b := by injection (of_decide_eq_true e)
    rw [e'] at h
    simp at h
theorem ifEqN {a : V} {A B : Prop} (k : B) : if (!decide (a = a)) = true then A else B := by rw [decide_eq_true rfl]; exact k
theorem ifNeN {a b : Str} {A B : Prop} (h : (a == b) = false) (k : A) : if (!decide (V.str a = V.str b)) = true then A else B := by
  have : decide (V.str a = V.str b) = false := by
    rw [decide_eq_false_iff_not]
    intro e
    have e' : a = b := by injection e
    rw [e'] at h
    simp at h
  rw [this]; exact k
noncomputable def livV (bs ds : List (Str × Int)) : List V := (bs.filter fun p => !has ds p.1).map fun p => V.str p.1
theorem livV_at {bs ds : List (Str × Int)} {i : Int} {v : V} (h : atI (livV bs ds) i = some v) : ∃ n, v = .str n ∧ has bs n = true ∧ has ds n = false := by
  have hm : v ∈ livV bs ds := by
    unfold atI at h
    obtain ⟨j, _, e⟩ := Option.bind_eq_some_iff.mp h
    exact List.mem_of_getElem? e
  unfold livV at hm
  obtain ⟨p, hp, rfl⟩ := List.mem_map.mp hm
  obtain ⟨h1, h2⟩ := List.mem_filter.mp hp
  exact ⟨p.1, rfl, (JD bs p.1).mpr (List.mem_map.mpr ⟨p, h1, rfl⟩), by simpa using h2⟩
structure DeedsAt (H : Hp) (l : Addr) (ds : List Deed) (ps : List Addr) : Prop where
  lst : H l = some (.lst (ps.map V.ref))
  len : ps.length = ds.length
  at_ : ∀ (i : Nat) (p : Addr) (d : Deed), ps[i]? = some p → ds[i]? = some d → H p = some (.tup d.vals)
theorem DeedsAt.mv {H H' : Hp} {l : Addr} {ds : List Deed} {ps : List Addr} (D : DeedsAt H l ds ps) (h : ∀ a ∈ l :: ps, ∀ o, H a = some o → H' a = some o) : DeedsAt H' l ds ps :=
  ⟨h _ (by simp) _ D.lst, D.len, fun i p d e1 e2 => h _ (List.mem_cons_of_mem _ (List.mem_of_getElem? e1)) _ (D.at_ i p d e1 e2)⟩
theorem DeedsAt.same {H H' : Hp} {l : Addr} {ds : List Deed} {ps : List Addr} (D : DeedsAt H l ds ps) (s : Zo H H') : DeedsAt H' l ds ps := D.mv fun a _ o e => s a o e
theorem DeedsAt.keep {H H' : Hp} {l : Addr} {ds : List Deed} {ps X : List Addr} (D : DeedsAt H l ds ps) (k : ZD X H H') (d : Dj (l :: ps) X) : DeedsAt H' l ds ps := D.mv fun a ha o e => k.1 a o (d a ha) e
theorem DeedsAt.live {H : Hp} {l : Addr} {ds : List Deed} {ps : List Addr} (D : DeedsAt H l ds ps) : Live H (l :: ps) := fun a ha => by
  rcases List.mem_cons.mp ha with rfl | ha
  · exact ⟨_, D.lst⟩
  · obtain ⟨i, hi⟩ := List.mem_iff_getElem?.mp ha
    have : i < ds.length := by rw [← D.len]; exact (List.getElem?_eq_some_iff.mp hi).1
    exact ⟨_, D.at_ i a _ hi (List.getElem?_eq_getElem this)⟩
end L2
namespace L2
open PySem PySem.Spec
section
variable {H : Hp} {m c e1 e2 e3 p : Addr} {y : Int} {bs ds cs : List (Str × Int)} {R : List Addr} {xs : List V}
theorem Mdl.put1 {bs' : List (Str × Int)} (B : Mdl H m c e1 e2 e3 y bs ds cs) (eR : R = JZ m c e1 e2 e3) (hp : H p = some (.tup xs)) :
    upd H e1 (.dK (yrs bs')) p = some (.tup xs) ∧ ZD R H (upd H e1 (.dK (yrs bs'))) ∧ MdlAt (upd H e1 (.dK (yrs bs'))) m y bs' ds cs R :=
  ⟨by rw [Zg (ZF hp B.h1 (fun z => by cases z))]; exact hp, YG.wide (fun a ha => by rw [List.mem_singleton.mp ha, eR]; simp [JZ]), ⟨c, e1, e2, e3, ⟨by rw [Zg (ZF B.tup B.h1 (fun z => by cases z))]; exact B.tup, by rw [Zg (ZF B.clk B.h1 (fun z => by cases z))]; exact B.clk, Zc, by rw [Zg (Ne.symm B.n12)]; exact B.h2, by rw [Zg (Ne.symm B.n13)]; exact B.h3, B.n12, B.n13, B.n23⟩, eR⟩⟩
theorem Mdl.put2 {ds' : List (Str × Int)} (B : Mdl H m c e1 e2 e3 y bs ds cs) (eR : R = JZ m c e1 e2 e3) (hp : H p = some (.tup xs)) :
    upd H e2 (.dK (yrs ds')) p = some (.tup xs) ∧ ZD R H (upd H e2 (.dK (yrs ds'))) ∧ MdlAt (upd H e2 (.dK (yrs ds'))) m y bs ds' cs R :=
  ⟨by rw [Zg (ZF hp B.h2 (fun z => by cases z))]; exact hp, YG.wide (fun a ha => by rw [List.mem_singleton.mp ha, eR]; simp [JZ]), ⟨c, e1, e2, e3, ⟨by rw [Zg (ZF B.tup B.h2 (fun z => by cases z))]; exact B.tup, by rw [Zg (ZF B.clk B.h2 (fun z => by cases z))]; exact B.clk, by rw [Zg B.n12]; exact B.h1, Zc, by rw [Zg (Ne.symm B.n23)]; exact B.h3, B.n12, B.n13, B.n23⟩, eR⟩⟩
theorem Mdl.put3 {cs' : List (Str × Int)} (B : Mdl H m c e1 e2 e3 y bs ds cs) (eR : R = JZ m c e1 e2 e3) (hp : H p = some (.tup xs)) :
    upd H e3 (.dK (yrs cs')) p = some (.tup xs) ∧ ZD R H (upd H e3 (.dK (yrs cs'))) ∧ MdlAt (upd H e3 (.dK (yrs cs'))) m y bs ds cs' R :=
  ⟨by rw [Zg (ZF hp B.h3 (fun z => by cases z))]; exact hp, YG.wide (fun a ha => by rw [List.mem_singleton.mp ha, eR]; simp [JZ]), ⟨c, e1, e2, e3, ⟨by rw [Zg (ZF B.tup B.h3 (fun z => by cases z))]; exact B.tup, by rw [Zg (ZF B.clk B.h3 (fun z => by cases z))]; exact B.clk, by rw [Zg B.n13]; exact B.h1, by rw [Zg B.n23]; exact B.h2, Zc, B.n12, B.n13, B.n23⟩, eR⟩⟩
end
end L2

set_option Elab.async false
set_option linter.all false
set_option maxRecDepth 100000
namespace L2
open PySem PySem.Spec
noncomputable def strD (l : List Str) : PyData := .list (l.map PyData.str)
theorem rds_strs {K : PySem.W.Frag} {H : Hp} (l : List Str) : RdsAll K H (l.map V.str) (l.map PyData.str) := by
  induction l with
  | nil => exact .nil
  | cons p r ih => exact .cons (.str _) ih
theorem rds_strD {K : PySem.W.Frag} {H : Hp} {a : Addr} {l : List Str} (h : SqL K H a (l.map V.str)) : Rds K H (.ref a) (strD l) := .list h (rds_strs l)
theorem strs_lay {l : List Str} (h : ∀ p ∈ l, PyData.strOk p = true) : PyData.canLayAll0 (l.map PyData.str) = true ∧ PyData.depthAll (l.map PyData.str) = 0 := by
  induction l with
  | nil => exact ⟨rfl, rfl⟩
  | cons p r ih =>
    have ih := ih (fun q hq => h q (List.mem_cons_of_mem _ hq))
    refine ⟨?_, ?_⟩
    · simp only [List.map_cons, PyData.canLayAll0, PyData.canLay0]
      rw [h p (by simp), ih.1]
      rfl
    · simp only [List.map_cons, PyData.depthAll, PyData.depth]
      rw [ih.2]
      rfl
theorem shaped_strD {l : List Str} (h : ∀ p ∈ l, PyData.strOk p = true) : SeqAt.shaped (strD l) = true := by
  obtain ⟨h1, h2⟩ := strs_lay h
  unfold SeqAt.shaped
  rw [Bool.and_eq_true]
  refine ⟨h1, decide_eq_true ?_⟩
  show PyData.depthAll (l.map PyData.str) + 1 ≤ 64
  rw [h2]
  decide
theorem eqv_strD {l : List Str} (h : ∀ p ∈ l, PyData.strOk p = true) : PyData.eqv (strD l) (strD l) = true := SeqAt.eqv_refl _ (SeqAt.canLay_of_shaped (shaped_strD h))
theorem ne_strD {K : PySem.W.Frag} {H : Hp} {a b : Addr} {l : List Str} {Q : VK} (ha : SqL K H a (l.map V.str)) (hb : SqL K H b (l.map V.str)) (h : ∀ p ∈ l, PyData.strOk p = true) (q : Q (.bl false) H) : rEqD K true (.ref a) (.ref b) H Q :=
  ⟨_, _, rds_strD ha, rds_strD hb, shaped_strD h, shaped_strD h, by rw [eqv_strD h]; exact q⟩
theorem pok_ok {x : Str} (h : pok x = true) : PyData.strOk x = true := by
  have hp : ∀ p ∈ pcs x, PyData.strOk p = true := fun p hp => by
    unfold pok at h
    simp only [Bool.and_eq_true] at h
    rw [XT] at hp
    rcases List.mem_cons.mp hp with rfl | hp
    · exact gw_ok h.1.1
    · have z := List.all_eq_true.mp h.2 p hp
      unfold gn at z
      simp only [Bool.and_eq_true] at z
      unfold PyData.strOk
      rw [Array.all_eq_true_iff_forall_mem]
      intro c hc
      have z2 := List.all_eq_true.mp z.1.2 c (by simpa using hc)
      simp [inR] at z2
      simp
      omega
  have key : ∀ l : List Str, (∀ p ∈ l, PyData.strOk p = true) → PyData.strOk (Str.join dot l) = true := by
    intro l
    induction l with
    | nil => intro _; decide +kernel
    | cons a r ih =>
      intro hl
      cases r with
      | nil => exact hl a (by simp)
      | cons b r' =>
        show PyData.strOk (a ++ dot ++ Str.join dot (b :: r')) = true
        exact ok_app (ok_app (hl a (by simp)) (by decide +kernel)) (ih (fun p hp => hl p (List.mem_cons_of_mem _ hp)))
  rw [← Y3 x]
  exact key _ hp
theorem Wf.ok {bs ds : List (Str × Int)} (W : Wf bs ds) {n : Str} (h : has bs n = true) : PyData.strOk n = true := pok_ok (W.wrt n h)
noncomputable def Xm (bs : List (Str × Int)) : List Str := bs.map (·.1)
noncomputable def kidL (n : Str) (c : Nat) : List Str := (List.range c).map fun i => kid n i
theorem kidVL (n : Str) (c : Nat) : Jo n c = (kidL n c).map V.str := by unfold Jo kidL; rw [List.map_map]; rfl
theorem valV_mem {κ : Type} [DecidableEq κ] (kvs : List (κ × V)) (k : κ) : (Y6 kvs k).isSome = true ↔ k ∈ kvs.map (·.1) := by
  unfold Y6
  rw [Option.isSome_map, List.find?_isSome, List.mem_map]
  constructor
  · rintro ⟨p, hp, e⟩; exact ⟨p, hp, of_decide_eq_true e⟩
  · rintro ⟨p, hp, e⟩; exact ⟨p, hp, decide_eq_true e⟩
theorem pick4 {z : Str} (hz : gw z = true) {i : Int} (h0 : 0 ≤ i) (h1 : i < 4) : ∃ y : Str, atI [V.str "war", V.str "flood", V.str "a", V.str z] i = some (.str y) ∧ gw y = true := by
  rcases (show i = 0 ∨ i = 1 ∨ i = 2 ∨ i = 3 by omega) with rfl | rfl | rfl | rfl
  · exact ⟨_, rfl, by decide +kernel⟩
  · exact ⟨_, rfl, by decide +kernel⟩
  · exact ⟨_, rfl, by decide +kernel⟩
  · exact ⟨_, rfl, hz⟩
theorem atI_in {xs : List V} {i : Int} (h0 : 0 ≤ i) (h1 : i < xs.length) : ∃ v, atI xs i = some v := by
  have gi : i.toNat < xs.length := by omega
  have e : atI xs ((i.toNat : Nat) : Int) = some (xs[i.toNat]) := atI_nat (List.getElem?_eq_getElem gi)
  rw [show ((i.toNat : Nat) : Int) = i by omega] at e
  exact ⟨_, e⟩
theorem LivesAt.no_tup {C : Addr} {H : Hp} {b p : Addr} {bs ds : List (Str × Int)} {R : List Addr} {xs : List V} (L : LivesAt C H b bs ds R) (hp : H p = some (.tup xs)) : p ∉ R := by
  obtain ⟨d1, d2, d3, ws, B, _, _, rfl⟩ := L.ex
  obtain ⟨dx, hb⟩ := B.obj
  intro ha
  rcases List.mem_cons.mp ha with rfl | ha
  · rw [hb] at hp; cases hp
  rcases List.mem_cons.mp ha with rfl | ha
  · rw [B.h1] at hp; cases hp
  rcases List.mem_cons.mp ha with rfl | ha
  · rw [B.h2] at hp; cases hp
  rcases List.mem_cons.mp ha with rfl | ha
  · rw [B.h3] at hp; cases hp
  obtain ⟨q, hq, rfl⟩ := List.mem_map.mp ha
  rw [B.kids q hq] at hp; cases hp
theorem YD.tup_of {H : Hp} {m : Addr} {S : Mo} {R : List Addr} (M : YD H m S R) : ∃ c e1 e2 e3, Mdl H m c e1 e2 e3 S.y S.bs S.ds S.cs := by
  obtain ⟨c, e1, e2, e3, B, _⟩ := MdlAt.ex M
  exact ⟨c, e1, e2, e3, B⟩
theorem DeedsAt.push {H H' : Hp} {l p : Addr} {ds : List Deed} {ps : List Addr} {d : Deed} (D : DeedsAt H l ds ps) (s : Zo H H') (hp : H' p = some (.tup d.vals)) : DeedsAt (upd H' l (.lst (ps.map V.ref ++ [V.ref p]))) l (ds ++ [d]) (ps ++ [p]) := by
  have hl := s _ _ D.lst
  refine ⟨by rw [Zc, List.map_append]; rfl, by simp [D.len], fun i q e h1 h2 => ?_⟩
  have key : H' q = some (.tup e.vals) := by
    by_cases hi : i < ps.length
    · rw [List.getElem?_append_left hi] at h1
      rw [List.getElem?_append_left (by rw [← D.len]; exact hi)] at h2
      exact s _ _ (D.at_ i q e h1 h2)
    · rw [List.getElem?_append_right (by omega)] at h1
      rw [List.getElem?_append_right (by rw [← D.len]; omega), ← D.len] at h2
      have h3 := (List.getElem?_eq_some_iff.mp h1).1
      simp at h3
      rw [show i - ps.length = 0 by omega] at h1 h2
      simp at h1 h2
      rw [← h1, ← h2]
      exact hp
  rw [Zg (ZF key hl (fun z => by cases z))]
  exact key
structure First (was : List (Str × Int)) : Prop where
  nod : (was.map (·.1)).Nodup
  len : was.length ≤ 3
  ok : ∀ p ∈ was, gw p.1 = true ∧ 0 ≤ p.2 ∧ p.2 ≤ 120
noncomputable def arr (p : Str × Int) : Deed := .arrive p.1 p.2
noncomputable def trus (was : List (Str × Int)) : List (Key × V) := was.map fun p => ((Sum.inr p.1 : Key), V.bl true)
theorem trus_has (was : List (Str × Int)) (w : Str) : (Y6 (trus was) (Sum.inr w : Key)).isSome = decide (w ∈ was.map (·.1)) := by
  rw [Bool.eq_iff_iff, valV_mem, decide_eq_true_iff]
  unfold trus
  rw [List.map_map, List.mem_map, List.mem_map]
  constructor
  · rintro ⟨p, hp, e⟩; exact ⟨p, hp, by simpa using e⟩
  · rintro ⟨p, hp, e⟩; exact ⟨p, hp, by simpa using e⟩
end L2
namespace L2
open PySem PySem.Spec
noncomputable def Deed.told (S : Mo) : Deed → V
  | .birth n => .str (kid n (nk S.bs n))
  | _ => .non
theorem Jg {bs : List (Str × Int)} {n : Str} (h : has bs n = true) : ∃ y, yr bs n = some y := by
  unfold has at h
  cases e : yr bs n with
  | none => rw [e] at h; cases h
  | some y => exact ⟨y, rfl⟩
theorem keys_at {bs : List (Str × Int)} {i : Nat} {v : V} (h : ((Xm bs).map V.str)[i]? = some v) : ∃ n, v = .str n ∧ has bs n = true := by
  have hm := List.mem_of_getElem? h
  obtain ⟨n, hn, rfl⟩ := List.mem_map.mp hm
  exact ⟨n, rfl, (JD bs n).mpr hn⟩
theorem keysK (bs : List (Str × Int)) : (yrs bs).map (fun p => kV p.1) = (Xm bs).map V.str := by
  unfold yrs Xm
  rw [List.map_map, List.map_map]
  rfl
end L2
namespace L2
open PySem PySem.Spec
section
variable {H H2 : Hp} {x dx C : Addr}
theorem made_free {a : Addr} (h : upd (upd H dx (.own x)) x (.ins C dx []) a = none) : H a = none := by
  have n1 : a ≠ x := fun e => by rw [e, Zc] at h; cases h
  rw [Zg n1] at h
  have n2 : a ≠ dx := fun e => by rw [e, Zc] at h; cases h
  rw [Zg n2] at h
  exact h
theorem made (nx : H x = none) (ndx : H dx = none) (kp : ZD [x] (upd (upd H dx (.own x)) x (.ins C dx [])) H2) : Zo H H2 := fun b o e => by
  have n1 : b ≠ x := Zx e nx
  refine kp.1 b o (by simpa using n1) ?_
  rw [Zg n1, Zg (Zx e ndx)]
  exact e
end
theorem First.good {was : List (Str × Int)} (F : First was) {S : Mo} {i : Nat} (hi : i < was.length) (hS : S.bs.map (·.1) = (was.take i).map (·.1)) {far : Int} : S.good far (arr was[i]) ∧ (S.step (arr was[i])).bs.map (·.1) = (was.take (i + 1)).map (·.1) := by
  have hm := List.getElem_mem hi
  obtain ⟨h1, h2, h3⟩ := F.ok _ hm
  refine ⟨⟨h1, ?_, h2, h3⟩, ?_⟩
  · rw [has_no, hS]
    intro z
    obtain ⟨p, hp, e⟩ := List.mem_map.mp z
    have hnd := F.nod
    obtain ⟨j, hj, e2⟩ := List.mem_iff_getElem.mp hp
    have hj1 : j < i := by rw [List.length_take] at hj; omega
    rw [List.getElem_take] at e2
    have key : (was.map (·.1))[j]'(by rw [List.length_map]; omega) = (was.map (·.1))[i]'(by rw [List.length_map]; omega) := by
      rw [List.getElem_map, List.getElem_map, e2]
      exact e
    exact (List.pairwise_iff_getElem.mp hnd) j i (by rw [List.length_map]; omega) (by rw [List.length_map]; omega) hj1 key
  · show (S.bs ++ [_]).map _ = _
    rw [List.map_append, hS, List.take_succ, List.getElem?_eq_getElem hi, List.map_append]
    rfl
theorem no_one {bs ds : List (Str × Int)} (W : Wf bs ds) {n : Str} (h : pok n = false) : has bs n = false := by
  cases e : has bs n with
  | false => rfl
  | true => rw [W.wrt n e] at h; cases h
end L2
namespace L2
open PySem PySem.Spec
theorem LivesAt.obj {C : Addr} {H : Hp} {b : Addr} {bs ds : List (Str × Int)} {R : List Addr} (L : LivesAt C H b bs ds R) : ∃ dx d1 d2 d3, H b = some (.ins C dx [("births", .ref d1), ("deaths", .ref d2), ("broods", .ref d3)]) := by
  obtain ⟨d1, d2, d3, ws, B, _⟩ := L.ex
  obtain ⟨dx, hb⟩ := B.obj
  exact ⟨dx, d1, d2, d3, hb⟩
theorem Mo.Ok.few {S : Mo} {k : Nat} (O : S.Ok k) (n : Str) : nk S.bs n ≤ k := Nat.le_trans (O.wf.few n) O.lb
end L2

set_option Elab.async false
set_option linter.all false
set_option maxRecDepth 100000
namespace L2
open PySem PySem.Spec PyProof.Rows PySem.W
structure RoomU (k : Nat) (A : Around) : Prop where
  dp : A.depth + 3 * k + 5 < recursionLimit
  un : A.units + 16 * k + 200 < cLine
section
variable {X : Cx}
noncomputable def del (H : Hp) (a : Addr) : Hp := fun b => if b = a then none else H b
end
end L2

set_option Elab.async false
set_option linter.all false
set_option maxRecDepth 100000
namespace L2
open PySem PySem.Spec
end L2

set_option Elab.async false
set_option linter.all false
set_option maxRecDepth 100000
namespace L2
open PySem PySem.Spec
inductive Er where
  | gone | none_ | text | taken | deep | bound
deriving DecidableEq
noncomputable def Er.txt : Er → Str
  | .gone => "gone" | .none_ => "none" | .text => "text" | .taken => "taken" | .deep => "deep" | .bound => "bound"
noncomputable def Er.ad (g : Ga) : Er → Addr
  | .gone => g.Gone | .none_ => g.NoPerson | .text => g.NoText | .taken => g.Taken | .deep => g.TooDeep | .bound => g.OutOfBound
noncomputable def askB (bs ds : List (Str × Int)) (way n : Str) : Option Er :=
  if way = "arrive" then (if gw n = false then some .text else if has bs n = true then some .taken else none)
  else if has bs n = false then some .none_
  else if way = "birth" then (if has ds n = true then some .gone else if 5 ≤ dots n then some .deep else none)
  else if way = "death" then (if has ds n = true then some .gone else none)
  else none
noncomputable def ways : List Str := ["arrive", "birth", "death", "born", "died", "kids"]
end L2
namespace L2
open PySem PySem.Spec
section
variable {bs ds : List (Str × Int)} {n : Str} {y : Int}
end
noncomputable abbrev Bad := Str × Str × Er
structure BadsAt (H : Hp) (l : Addr) (its : List Bad) (ps : List Addr) : Prop where
  lst : H l = some (.lst (ps.map V.ref))
  len : ps.length = its.length
  at_ : ∀ (i : Nat) (p : Addr) (it : Bad), ps[i]? = some p → its[i]? = some it → ∃ q, q ≠ l ∧ H p = some (.tup [.str it.1, .str it.2.1, .ref q]) ∧ H q = some (.lst [.str it.2.2.txt])
noncomputable def Gd (S : Mo) (its : List Bad) : Prop := ∀ it ∈ its, it.1 ∈ ways ∧ it.2.1.length ≤ 200 ∧ askB S.bs S.ds it.1 it.2.1 = some it.2.2
end L2

set_option Elab.async false
set_option linter.all false
set_option maxRecDepth 100000
namespace L2
open PySem PySem.Spec
section
variable {K : PySem.W.Frag} {caps : List (Str × Nat)} {tt : TT} {te : TE} {σ : St} {H H1 : Hp} {Q : VK} {a d : Addr} {xs : List V} {kvs : List (Key × V)} {o : Obj}
theorem filt_next {α : Type} {l : List α} {f : α → Bool} {ge : α → V} {i : Nat} (h : i < l.length) : ((l.take (i + 1)).filter f).map ge = ((l.take i).filter f).map ge ++ (if f l[i] = true then [ge l[i]] else []) := by
  rw [List.take_succ, List.getElem?_eq_getElem h, List.filter_append, List.map_append]
  congr 1
  show ([l[i]].filter f).map ge = _
  cases e : f l[i] with
  | true => rw [List.filter_cons_of_pos e]; rfl
  | false => rw [List.filter_cons_of_neg (by rw [e]; decide)]; rfl
theorem lcl (hl : SqL K H1 a xs) (hlen : xs.length ≤ 900) (f : V → Bool) (ge : V → V)
    (step : ∀ (i : Nat) x H2, xs[i]? = some x → Zo H1 H2 → ∀ R : Bool → Hp → Prop, (∀ H3, Zo H2 H3 → R (f x) H3) → tt (some x :: Jp caps σ) H2 R)
    (elt : ∀ (i : Nat) x H2, xs[i]? = some x → f x = true → Zo H1 H2 → ∀ R : VK, (∀ H3, Zo H2 H3 → R (ge x) H3) → te (some x :: Jp caps σ) H2 R)
    (q : ∀ D H2, H1 D = none → Zo H1 H2 → H2 D = some (.lst ((xs.filter f).map ge)) → Q (.ref D) H2) :
    ∀ D, H1 D = none → ∃ W : Nat → Nat → Hp → Prop, (∃ m, W 0 m (upd H1 D (.lst []))) ∧ ∀ i m H2, W i m H2 →
      ((Itl K a).stop i H2 ∧ Q (.ref D) H2) ∨ ((Itl K a).go i H2 ∧ ∀ x H', (Itl K a).yld i H2 x H' → tt (some x :: Jp caps σ) H' fun b H3 =>
        if b = true then te (some x :: Jp caps σ) H3 fun v H4 => ∃ ys m', H4 D = some (.lst ys) ∧ ys.length < sizeLine ∧ m' < m ∧ W (i + 1) m' (upd H4 D (.lst (ys ++ [v])))
        else ∃ m', m' < m ∧ W (i + 1) m' H3) := by
  intro D hD
  refine ⟨fun i m H2 => i ≤ xs.length ∧ m = xs.length - i ∧ Zo H1 H2 ∧ H2 D = some (.lst (((xs.take i).filter f).map ge)), ⟨xs.length, Nat.zero_le _, rfl, Zm hD _, Zc⟩, ?_⟩
  rintro i m H2 ⟨hi, rfl, s2, h2⟩
  have hs := s2.seq hl
  by_cases hlt : i < xs.length
  · refine .inr ⟨⟨xs, xs[i], hs, by simp [hlt]⟩, fun x H' y => ?_⟩
    obtain ⟨e, y⟩ := y
    subst e
    have hx := y xs hs
    have hx' : xs[i] = x := by rw [List.getElem?_eq_getElem hlt] at hx; exact Option.some.inj hx
    refine step i x _ hx s2 _ fun H3 s3 => ?_
    have nx := filt_next (f := f) (ge := ge) hlt
    rw [hx'] at nx
    cases e : f x with
    | false =>
      rw [e] at nx
      exact ⟨xs.length - (i + 1), by omega, hlt, rfl, s2.trans s3, by rw [nx, if_neg (by decide), List.append_nil]; exact s3 _ _ h2⟩
    | true =>
      rw [e] at nx
      show te _ H3 _
      refine elt i x _ hx e (s2.trans s3) _ fun H4 s4 => ⟨_, xs.length - (i + 1), s4 _ _ (s3 _ _ h2), ZB ?_, by omega, hlt, rfl, same_put1 ((s2.trans s3).trans s4) hD, ?_⟩
      · rw [List.length_map]
        exact Nat.le_trans (List.length_filter_le _ _) (by rw [List.length_take]; omega)
      · rw [Zc, nx, if_pos rfl]
  · have e : i = xs.length := by omega
    subst e
    rw [List.take_length] at h2
    exact .inl ⟨⟨xs, hs, Nat.le_refl _⟩, q D H2 hD s2 h2⟩
end
end L2
namespace L2
open PySem PySem.Spec
end L2
namespace L2
open PySem PySem.Spec
section
variable {K : PySem.W.Frag} {caps : List (Str × Nat)} {tl te : TE} {tt : TT} {σ : St} {H : Hp} {Q : VK} {d : Addr} {kvs : List (Key × V)}
theorem lclT {xs : List V} (A : Addr → Hp → Prop) (htl : ∀ R : VK, (∀ a H1, A a H1 → R (.ref a) H1) → tl σ H R) (hA : ∀ a H1, A a H1 → SqL K H1 a xs) (hlen : xs.length ≤ 900) (f : V → Bool) (ge : V → V)
    (step : ∀ a H1 (i : Nat) x H2, A a H1 → xs[i]? = some x → Zo H1 H2 → ∀ R : Bool → Hp → Prop, (∀ H3, Zo H2 H3 → R (f x) H3) → tt (some x :: Jp caps σ) H2 R)
    (elt : ∀ a H1 (i : Nat) x H2, A a H1 → xs[i]? = some x → f x = true → Zo H1 H2 → ∀ R : VK, (∀ H3, Zo H2 H3 → R (ge x) H3) → te (some x :: Jp caps σ) H2 R)
    (q : ∀ a H1 D H2, A a H1 → H1 D = none → Zo H1 H2 → H2 D = some (.lst ((xs.filter f).map ge)) → Q (.ref D) H2) : tLC caps (iList K tl) tt te σ H Q :=
  htl _ fun a H1 h => ⟨a, rfl, ⟨xs, hA a H1 h⟩, lcl (hA a H1 h) hlen f ge (fun i x H2 => step a H1 i x H2 h) (fun i x H2 => elt a H1 i x H2 h) (fun D H2 => q a H1 D H2 h)⟩
end
end L2

set_option Elab.async false
set_option linter.all false
set_option maxRecDepth 100000
namespace L2
open PySem PySem.Spec PySem.StrLaws
theorem in_dot (x : Str) : (!(Builtin.Str.occurrences x "." 0 x.length 1).isEmpty) = decide (46 ∈ x.cps.toList) := by
  rw [show ("." : Str) = ⟨#[46]⟩ from dot_eq, StrLaws.found_one]
noncomputable def Root (S : Mo) : Prop := ∃ w, has S.bs w = true ∧ 46 ∉ w.cps.toList
theorem Root.step {S : Mo} (h : Root S) (d : Deed) : Root (S.step d) := by
  obtain ⟨w, h1, h2⟩ := h
  refine ⟨w, ?_, h2⟩
  cases d with
  | arrive x a => show has (S.bs ++ _) w = true; rw [ZI, h1]; rfl
  | birth x => show has (S.bs ++ _) w = true; rw [ZI, h1]; rfl
  | death x => exact h1
  | comes x => exact h1
  | years x => exact h1
theorem First.root {was : List (Str × Int)} (F : First was) (hne : was ≠ []) {S : Mo} {i : Nat} (hi : 0 < i) (hS : S.bs.map (·.1) = (was.take i).map (·.1)) : Root S := by
  cases was with
  | nil => exact absurd rfl hne
  | cons p r =>
    refine ⟨p.1, ?_, gw_free (F.ok p (by simp)).1⟩
    rw [JD, hS]
    cases i with
    | zero => exact absurd hi (Nat.lt_irrefl 0)
    | succ i => simp
end L2

set_option Elab.async false
set_option linter.all false
set_option maxRecDepth 100000
namespace L2
open PySem PySem.Spec PySem.StrLaws
theorem up_len {x : Str} (h : x.length ≠ 0) : (up x).length < x.length := by
  unfold up
  rcases last_spec x dot with ⟨e, _⟩ | ⟨i, e, z, _⟩
  · rw [e]; show 0 < x.length; omega
  · rw [e]
    show (Builtin.Str.strSub x 0 i).length < x.length
    have hi : i < x.cps.toList.length := (List.getElem?_eq_some_iff.mp ((at_iff x i).mp z)).1
    have hl : x.cps.toList.length = x.length := Array.length_toList
    have : (Builtin.Str.strSub x 0 i).length = (Builtin.Str.strSub x 0 i).cps.toList.length := (Array.length_toList).symm
    rw [this, strSub_toList]
    simp
    omega
theorem up_kid (n : Str) (i : Nat) : up (kid n i) = n := by
  have hl : (kid n i).cps.toList = n.cps.toList ++ 46 :: (toString ((i : Int) + 1) : Str).cps.toList := by
    unfold kid
    rw [JE, JE, dot_l, List.append_assoc]
    rfl
  unfold up
  rcases last_spec (kid n i) dot with ⟨e, z⟩ | ⟨j, e, z, w⟩
  · exfalso
    refine z n.cps.toList.length ((at_iff _ _).mpr ?_)
    rw [hl, List.getElem?_append_right (Nat.le_refl _)]
    simp
  · rw [e]
    have hj := (at_iff _ _).mp z
    have e0 : j = n.cps.toList.length := by
      rcases Nat.lt_trichotomy j n.cps.toList.length with h | h | h
      · exfalso
        refine w n.cps.toList.length h ((at_iff _ _).mpr ?_)
        rw [hl, List.getElem?_append_right (Nat.le_refl _)]
        simp
      · exact h
      · exfalso
        rw [hl, List.getElem?_append_right (by omega)] at hj
        cases e2 : j - n.cps.toList.length with
        | zero => omega
        | succ k =>
          rw [e2, List.getElem?_cons_succ] at hj
          exact ts_free ((i : Int) + 1) (List.mem_of_getElem? hj)
    show Builtin.Str.strSub (kid n i) 0 j = n
    refine J2 ?_
    rw [strSub_toList, hl, e0]
    simp
noncomputable def nr (bs : List (Str × Int)) (x : Str) : Str := if h : x.length = 0 then Str.empty else if has bs x = true then x else nr bs (up x)
termination_by x.length
decreasing_by exact up_len h
theorem nr_nil (bs : List (Str × Int)) : nr bs Str.empty = Str.empty := by rw [nr]; exact dif_pos rfl
theorem Yd {bs : List (Str × Int)} {x : Str} (h0 : x.length ≠ 0) (h : has bs x = true) : nr bs x = x := by rw [nr, dif_neg h0, if_pos h]
theorem nr_up {bs : List (Str × Int)} {x : Str} (h0 : x.length ≠ 0) (h : has bs x = false) : nr bs x = nr bs (up x) := by
  rw [nr, dif_neg h0, if_neg (by rw [h]; decide)]
theorem len0 {x : Str} (h : x.length = 0) : x = Str.empty := by
  refine J2 ?_
  have : x.cps.toList.length = 0 := by rw [Array.length_toList]; exact h
  rw [List.length_eq_zero_iff.mp this]
  rfl
theorem kid_len (n : Str) (i : Nat) : (kid n i).length ≠ 0 := fun e => by
  have h := kid_dot n i
  rw [len0 e] at h
  cases h
theorem nr_kid {bs : List (Str × Int)} (n : Str) (i : Nat) : nr bs (kid n i) = if has bs (kid n i) = true then kid n i else nr bs n := by
  cases h : has bs (kid n i) with
  | true => rw [Yd (kid_len n i) h]; rfl
  | false => rw [nr_up (kid_len n i) h, up_kid]; rfl
theorem nr_in (bs : List (Str × Int)) (k : Nat) : ∀ x : Str, x.length ≤ k → nr bs x = Str.empty ∨ has bs (nr bs x) = true := by
  induction k with
  | zero => intro x h; exact .inl (by rw [len0 (x := x) (by omega), nr_nil])
  | succ k ih =>
    intro x h
    by_cases h0 : x.length = 0
    · exact .inl (by rw [len0 h0, nr_nil])
    · cases e : has bs x with
      | true => rw [Yd h0 e]; exact .inr e
      | false => rw [nr_up h0 e]; exact ih (up x) (by have := up_len h0; omega)
theorem nr_or (bs : List (Str × Int)) (x : Str) : nr bs x = Str.empty ∨ has bs (nr bs x) = true := nr_in bs x.length x (Nat.le_refl _)
theorem has_emp {bs ds : List (Str × Int)} (W : Wf bs ds) : has bs Str.empty = false := no_one W (by decide +kernel)
noncomputable def nv8 (bs ds : List (Str × Int)) (x : Str) : Bool := !has bs x && !al bs ds (nr bs x)
end L2

set_option Elab.async false
set_option linter.all false
set_option maxRecDepth 100000
namespace L2
open PySem PySem.Spec
section
variable {X : Cx}
noncomputable def rInD (K : PySem.W.Frag) (ng : Bool) : R2 := fun x y H Q => ∃ xs d, Rds K H y (.list xs) ∧ Rds K H x d ∧ PyData.canLayAll0 xs = true ∧ d.canLay0 = true ∧ d.depth ≤ 60 ∧ Q (.bl (if ng then !xs.any (fun y => PyData.eqv y d) else xs.any (fun y => PyData.eqv y d))) H
theorem op_notInD (hu : X.A.units + 64 < cLine) : OpR X (compareOp .NotIn) (rInD X.K true) := by
  intro pins s σ H x y v u Q I rx ry h
  obtain ⟨xs, d, hy, hx, c1, c2, c3, q⟩ := h
  obtain ⟨as, z⟩ := hx.reads I rx
  obtain ⟨bs, z'⟩ := hy.reads I ry
  exact SeqAt.notIn_list_reads z' z c1 c2 (by have := Nat.min_le_right (PyData.depthAll xs) d.depth; omega) ⟨.bl _, H, I, rfl, q⟩
end
structure WorldAt (g : Ga) (H : Hp) (w : Addr) (S : Mo) (R : List Addr) : Prop where
  ex : ∃ dx b hd RL, H w = some (.ins g.World dx [("year", .int S.y), ("lives", .ref b), ("happened", .ref hd)]) ∧ LivesAt g.Lives H b S.bs S.ds RL ∧ H hd = some (.dK (yrs S.cs)) ∧ R = w :: hd :: RL ∧ w ∉ RL ∧ hd ∉ RL
section
variable {g : Ga} {H H' : Hp} {w : Addr} {S : Mo} {R X : List Addr}
theorem WorldAt.wf (W : WorldAt g H w S R) : Wf S.bs S.ds := by
  obtain ⟨dx, b, hd, RL, h1, L, _⟩ := W.ex
  exact L.wf
theorem WorldAt.live (W : WorldAt g H w S R) : Live H R := by
  obtain ⟨dx, b, hd, RL, h1, L, h3, rfl, _, _⟩ := W.ex
  intro a ha
  rcases List.mem_cons.mp ha with rfl | ha
  · exact ⟨_, h1⟩
  rcases List.mem_cons.mp ha with rfl | ha
  · exact ⟨_, h3⟩
  exact L.live a ha
theorem WorldAt.mv (W : WorldAt g H w S R) (h : ∀ a ∈ R, ∀ o, H a = some o → H' a = some o) : WorldAt g H' w S R := by
  obtain ⟨dx, b, hd, RL, h1, L, h3, rfl, n1, n2⟩ := W.ex
  exact ⟨dx, b, hd, RL, h _ (by simp) _ h1, L.mv (fun a ha o e => h a (List.mem_cons_of_mem _ (List.mem_cons_of_mem _ ha)) o e), h _ (by simp) _ h3, rfl, n1, n2⟩
theorem WorldAt.same (W : WorldAt g H w S R) (s : Zo H H') : WorldAt g H' w S R := W.mv fun a _ o e => s a o e
theorem WorldAt.keep (W : WorldAt g H w S R) (k : ZD X H H') (d : Dj R X) : WorldAt g H' w S R := W.mv fun a ha o e => k.1 a o (d a ha) e
theorem WorldAt.no_tup {p : Addr} {xs : List V} (W : WorldAt g H w S R) (hp : H p = some (.tup xs)) : p ∉ R := by
  obtain ⟨dx, b, hd, RL, h1, L, h3, rfl, n1, n2⟩ := W.ex
  intro ha
  rcases List.mem_cons.mp ha with rfl | ha
  · rw [h1] at hp; cases hp
  rcases List.mem_cons.mp ha with rfl | ha
  · rw [h3] at hp; cases hp
  exact L.no_tup hp ha
theorem WorldAt.book {dx b hd : Addr} {RL RL' : List Addr} {bs' ds' : List (Str × Int)} (h1 : H w = some (.ins g.World dx [("year", .int S.y), ("lives", .ref b), ("happened", .ref hd)])) (h3 : H hd = some (.dK (yrs S.cs))) (n1 : w ∉ RL) (n2 : hd ∉ RL)
    (k : ZD RL H H') (gr : Y5 H RL RL') (L' : LivesAt g.Lives H' b bs' ds' RL') : WorldAt g H' w { S with bs := bs', ds := ds' } (w :: hd :: RL') ∧ ZD (w :: hd :: RL) H H' ∧ Y5 H (w :: hd :: RL) (w :: hd :: RL') := by
  have f1 : ∀ a o, H a = some o → a ∉ RL → a ∉ RL' := fun a o e n z => (gr a z).elim n fun q => by rw [q] at e; cases e
  refine ⟨⟨dx, b, hd, RL', k.1 _ _ n1 h1, L', k.1 _ _ n2 h3, rfl, f1 _ _ h1 n1, f1 _ _ h3 n2⟩, k.wide (fun a ha => List.mem_cons_of_mem _ (List.mem_cons_of_mem _ ha)), fun a ha => ?_⟩
  rcases List.mem_cons.mp ha with rfl | ha
  · exact .inl (by simp)
  rcases List.mem_cons.mp ha with rfl | ha
  · exact .inl (by simp)
  exact (gr a ha).imp (fun z => List.mem_cons_of_mem _ (List.mem_cons_of_mem _ z)) id
end
end L2
namespace L2
open PySem PySem.Spec
section
variable {S : Mo} {k : Int} {x : Str}
end
noncomputable def Er.W (e : Er) : Prop := e = .bound ∨ e = .taken ∨ e = .text
end L2

set_option Elab.async false
set_option linter.all false
set_option maxRecDepth 100000
namespace L2
open PySem PySem.Spec
inductive Atm where
  | year (y : Int)
  | comes (w : Str)
  | born (n : Str)
  | dead (n : Str)
  | age (n : Str) (a : Int)
noncomputable def Atm.vals : Atm → List V
  | .year y => [.str "year", .int y]
  | .comes w => [.str "comes", .str w]
  | .born n => [.str "born", .str n]
  | .dead n => [.str "dead", .str n]
  | .age n a => [.str "age", .str n, .int a]
noncomputable def XV (S : Mo) (n : Str) (y : Int) : Int := (yr S.ds n).getD S.y - y
noncomputable def YE (S : Mo) (n : Str) (y a : Int) : Str := if a ≤ XV S n y then "met" else if has S.ds n = true then "failed" else "hangs"
noncomputable def Z9 (S : Mo) (n : Str) : Str := if al S.bs S.ds (nr S.bs n) = true then "hangs" else "failed"
noncomputable def Atm.stand (S : Mo) : Atm → Str
  | .year y => if y ≤ S.y then "met" else "hangs"
  | .comes w => if has S.cs w = true then "met" else "hangs"
  | .born n => if has S.bs n = true then "met" else Z9 S n
  | .dead n => if has S.bs n = true then (if has S.ds n = true then "met" else "hangs") else Z9 S n
  | .age n a => match yr S.bs n with
    | some y => YE S n y a
    | none => Z9 S n
noncomputable def Atm.who : Atm → Option Str
  | .born n => some n
  | .dead n => some n
  | .age n _ => some n
  | _ => none
noncomputable def Atm.bad (S : Mo) (t : Atm) : Option Er := match t.who with
  | none => none
  | some n => if has S.bs n = true then none else if pok n = false then some .text else if nr S.bs n = ("" : Str) then some .none_ else none
noncomputable def Atm.met (S : Mo) : Atm → V
  | .year y => .int y
  | .comes w => ((yr S.cs w).map V.int).getD .non
  | .born n => ((yr S.bs n).map V.int).getD .non
  | .dead n => ((yr S.ds n).map V.int).getD .non
  | .age n a => ((yr S.bs n).map fun y => V.int (y + a)).getD .non
noncomputable def Atm.since (S : Mo) (t : Atm) : V := if t.stand S = ("hangs" : Str) then .non else if t.stand S = ("met" : Str) then t.met S else match t.who with
  | some n => ((yr S.ds (nr S.bs n)).map V.int).getD .non
  | none => .non
section
variable {S : Mo} {t : Atm} {n : Str}
theorem Atm.stand_none (ht : t.who = some n) (hk : has S.bs n = false) : t.stand S = Z9 S n := by
  cases t with
  | year y => cases ht
  | comes w => cases ht
  | born m => cases ht; show (if has S.bs n = true then _ else _) = _; rw [hk]; rfl
  | dead m => cases ht; show (if has S.bs n = true then _ else _) = _; rw [hk]; rfl
  | age m a =>
    cases ht
    have hy : yr S.bs n = none := by
      unfold has at hk
      cases h : yr S.bs n with
      | none => rfl
      | some y => rw [h] at hk; cases hk
    show (match yr S.bs n with | some y => _ | none => _) = _
    rw [hy]
theorem Atm.bad_known (ht : t.who = some n) (hk : has S.bs n = true) : t.bad S = none := by
  unfold Atm.bad; rw [ht]; exact if_pos hk
theorem Atm.bad_text (ht : t.who = some n) (hk : has S.bs n = false) (hp : pok n = false) : t.bad S = some .text := by
  unfold Atm.bad; rw [ht]; show (if has S.bs n = true then _ else _) = _; rw [hk]; exact if_pos hp
theorem Atm.bad_lost (ht : t.who = some n) (hk : has S.bs n = false) (hp : pok n = true) (hr : nr S.bs n = ("" : Str)) : t.bad S = some .none_ := by
  unfold Atm.bad; rw [ht]; show (if has S.bs n = true then _ else if pok n = false then _ else _) = _; rw [hk, hp]; exact if_pos hr
theorem Atm.bad_fine (ht : t.who = some n) (hk : has S.bs n = false) (hp : pok n = true) (hr : nr S.bs n ≠ ("" : Str)) : t.bad S = none := by
  unfold Atm.bad; rw [ht]; show (if has S.bs n = true then _ else if pok n = false then _ else _) = _; rw [hk, hp]; exact if_neg hr
theorem Atm.known_met (ht : t.who = some n) (h : t.stand S = ("met" : Str)) : has S.bs n = true := by
  cases hk : has S.bs n with
  | true => rfl
  | false =>
    rw [Atm.stand_none ht hk] at h
    unfold Z9 at h
    split at h
    · exact absurd h (by decide +kernel)
    · exact absurd h (by decide +kernel)
theorem Atm.who_failed (h1 : t.stand S ≠ ("hangs" : Str)) (h2 : t.stand S ≠ ("met" : Str)) : ∃ n, t.who = some n := by
  cases t with
  | year y =>
    exfalso
    by_cases c : y ≤ S.y
    · exact h2 (if_pos c)
    · exact h1 (if_neg c)
  | comes v =>
    exfalso
    by_cases c : has S.cs v = true
    · exact h2 (if_pos c)
    · exact h1 (if_neg c)
  | born m => exact ⟨_, rfl⟩
  | dead m => exact ⟨_, rfl⟩
  | age m a => exact ⟨_, rfl⟩
theorem ZZ {x : Str} (h : pok x = true) : x.length ≠ 0 := by
  intro e
  obtain ⟨c⟩ := x
  obtain rfl : c = #[] := Array.eq_empty_of_size_eq_zero e
  exact absurd h (by decide +kernel)
theorem Atm.near_ok (W : Wf S.bs S.ds) (ht : t.who = some n) (hb : t.bad S = none) : pok n = true ∧ has S.bs (nr S.bs n) = true := by
  cases hk : has S.bs n with
  | true =>
    have hp := W.wrt n hk
    exact ⟨hp, by rw [Yd (ZZ hp) hk]; exact hk⟩
  | false =>
    cases hp : pok n with
    | false => rw [Atm.bad_text ht hk hp] at hb; cases hb
    | true =>
      refine ⟨rfl, ?_⟩
      rcases nr_or S.bs n with e | e
      · rw [Atm.bad_lost ht hk hp (e.trans (by decide +kernel))] at hb; cases hb
      · exact e
theorem pick2 {a b : V} (k : Bool) : atI [a, b] (if k = true then 1 else 0) = some (if k = true then b else a) := by cases k <;> rfl
end
end L2

set_option Elab.async false
set_option linter.all false
set_option maxRecDepth 100000
namespace L2
open PySem PySem.Spec
noncomputable def fl (f : Nat → Bool) (n : Nat) : List Nat := (List.range n).filter f
section
variable {K : PySem.W.Frag} {caps : List (Str × Nat)} {tt : TT} {tl te : TE} {σ : St} {H H1 : Hp} {Q : VK}
end
end L2
namespace L2
open PySem PySem.Spec
section
variable {K : PySem.W.Frag} {caps : List (Str × Nat)} {tt : TT} {tl te : TE} {ta : TA} {σ : St} {H : Hp} {Q : VK}
end
end L2

set_option Elab.async false
set_option linter.all false
set_option maxRecDepth 100000
namespace L2
open PySem PySem.Spec
noncomputable def okN (S : Mo) (n : Str) : Prop := pok n = true ∧ nr S.bs n ≠ Str.empty
noncomputable def Atm.ok (S : Mo) : Atm → Prop
  | .year y => 0 ≤ y ∧ y < 10000
  | .comes w => gw w = true
  | .born n => okN S n
  | .dead n => okN S n
  | .age n a => okN S n ∧ 0 ≤ a ∧ a ≤ 120
section
variable {S : Mo} {t : Atm} {n : Str}
theorem Atm.ok_who (h : t.ok S) (hw : t.who = some n) : okN S n := by
  cases t with
  | year y => cases hw
  | comes w => cases hw
  | born m => cases hw; exact h
  | dead m => cases hw; exact h
  | age m a => cases hw; exact h.1
theorem Atm.ok_bad (h : t.ok S) : t.bad S = none := by
  cases hw : t.who with
  | none => unfold Atm.bad; rw [hw]
  | some n =>
    have z := Atm.ok_who h hw
    cases hk : has S.bs n with
    | true => exact Atm.bad_known hw hk
    | false => exact Atm.bad_fine hw hk z.1 (fun e => z.2 (e.trans (by decide +kernel)))
theorem Atm.ok_len (h : t.ok S) : ∀ n, t.who = some n → n.length ≤ 200 := fun n hw => by have := Je (Atm.ok_who h hw).1; omega
end
structure AtmsAt (H : Hp) (l : Addr) (ts : List Atm) (ps : List Addr) : Prop where
  lst : H l = some (.lst (ps.map V.ref))
  len : ps.length = ts.length
  at_ : ∀ (i : Nat) (p : Addr) (t : Atm), ps[i]? = some p → ts[i]? = some t → H p = some (.tup t.vals)
section
variable {H H' : Hp} {l : Addr} {ts : List Atm} {ps X : List Addr}
end
end L2
namespace L2
open PySem PySem.Spec
theorem cl_sub {cl cells : List (Str × Addr)} (h : ∀ p ∈ cl, cells.lookup p.1 = some p.2) : ∀ x c, cl.lookup x = some c → cells.lookup x = some c := by
  intro x c e
  induction cl with
  | nil => cases e
  | cons p r ih =>
    obtain ⟨k, v⟩ := p
    rw [List.lookup_cons] at e
    cases q : x == k with
    | true =>
      rw [q] at e
      have e' : some v = some c := e
      have hk : x = k := eq_of_beq q
      rw [hk, ← e']
      exact h (k, v) (by simp)
    | false =>
      rw [q] at e
      exact ih (fun p hp => h p (List.mem_cons_of_mem _ hp)) e
end L2
namespace L2
open PySem PySem.Spec
noncomputable def Er.nm : Er → Str
  | .none_ => "person" | .text => "text" | _ => ""
end L2
namespace L2
open PySem PySem.Spec
theorem no_dot_gw {w : Str} (h : gw w = true) : 46 ∉ w.cps.toList := fun hm => by
  unfold gw at h
  simp only [Bool.and_eq_true] at h
  have z := List.all_eq_true.mp h.1.2 46 hm
  exact absurd z (by decide)
theorem up_gw {w : Str} (h : gw w = true) : up w = Str.empty := by
  unfold up
  rcases StrLaws.last_spec w dot with ⟨e, _⟩ | ⟨i, e, z, _⟩
  · rw [e]
  · exact absurd (List.mem_of_getElem? ((L2.at_iff w i).mp z)) (no_dot_gw h)
theorem nr_gw {bs : List (Str × Int)} {w : Str} (h : gw w = true) (hk : has bs w = false) : nr bs w = Str.empty := by
  rw [nr_up (by have := (gw_len h).1; omega) hk, up_gw h, nr_nil]
end L2

set_option Elab.async false
set_option linter.all false
set_option maxRecDepth 100000
namespace L2
open PySem PySem.Spec
noncomputable def foldS (ss : List Str) : Str := if ("failed" : Str) ∈ ss then "failed" else if ("hangs" : Str) ∈ ss then "hangs" else "met"
theorem inV_strs (a : Str) (ss : List Str) : inV (.str a) (ss.map V.str) = decide (a ∈ ss) := by
  unfold inV
  rw [List.any_map]
  induction ss with
  | nil => rfl
  | cons b r ih =>
    rw [List.any_cons, ih]
    show ((b == a) || decide (a ∈ r)) = _
    by_cases e : b = a
    · subst e; simp
    · rw [beq_eq_false_iff_ne.mpr e]
      simp [Ne.symm e]
theorem flat_strs (ss : List Str) : (ss.map V.str).all flatV = true := by
  rw [List.all_map, List.all_eq_true]
  intro _ _
  rfl
noncomputable def Atm.data : Atm → PyData
  | .year y => .tuple [.str "year", .int y]
  | .comes w => .tuple [.str "comes", .str w]
  | .born n => .tuple [.str "born", .str n]
  | .dead n => .tuple [.str "dead", .str n]
  | .age n a => .tuple [.str "age", .str n, .int a]
end L2
namespace L2
open PySem PySem.Spec
end L2

set_option Elab.async false
set_option linter.all false
set_option maxRecDepth 100000
namespace L2
open PySem PySem.Spec
section
variable {K : PySem.W.Frag} {caps : List (Str × Nat)} {tl te : TE} {tt : TT} {σ : St} {H : Hp} {Q : VK}
theorem lcS {ss : List Str} (A : Addr → Hp → Prop) (f : Str → Bool) (ge : Str → V) (htl : ∀ R : VK, (∀ a H1, A a H1 → R (.ref a) H1) → tl σ H R) (hA : ∀ a H1, A a H1 → SqL K H1 a (ss.map V.str)) (hlen : ss.length ≤ 900)
    (step : ∀ a H1 x H2, A a H1 → x ∈ ss → Zo H1 H2 → ∀ R : Bool → Hp → Prop, (∀ H3, Zo H2 H3 → R (f x) H3) → tt (some (.str x) :: Jp caps σ) H2 R)
    (elt : ∀ a H1 x H2, A a H1 → x ∈ ss → f x = true → Zo H1 H2 → ∀ R : VK, (∀ H3, Zo H2 H3 → R (ge x) H3) → te (some (.str x) :: Jp caps σ) H2 R)
    (q : ∀ a H1 D H2, A a H1 → H1 D = none → Zo H1 H2 → H2 D = some (.lst ((ss.filter f).map ge)) → Q (.ref D) H2) : tLC caps (iList K tl) tt te σ H Q := by
  refine lclT (xs := ss.map V.str) A htl hA (by rw [List.length_map]; exact hlen) (fun v => match v with | .str x => f x | _ => false) (fun v => match v with | .str x => ge x | _ => v) ?_ ?_ ?_
  · intro a H1 i x H2 hA hx s
    rw [List.getElem?_map] at hx
    cases e : ss[i]? with
    | none => rw [e] at hx; cases hx
    | some y => rw [e] at hx; cases hx; exact step a H1 y H2 hA (List.mem_of_getElem? e) s
  · intro a H1 i x H2 hA hx hf s
    rw [List.getElem?_map] at hx
    cases e : ss[i]? with
    | none => rw [e] at hx; cases hx
    | some y => rw [e] at hx; cases hx; exact elt a H1 y H2 hA (List.mem_of_getElem? e) hf s
  · intro a H1 D H2 hA hD s h
    refine q a H1 D H2 hA hD s ?_
    rw [h, List.filter_map, List.map_map]
    rfl
end
noncomputable def ZQ (S : Mo) (n : Str) : List Str := kidL n (nk S.bs n)
noncomputable def YZ (S : Mo) (n : Str) (os : List Str) : List Str := (ZQ S n).filter fun c => !decide (c ∈ os)
noncomputable def bornS (S : Mo) (c : Str) : Int := (yr S.bs c).getD 0
noncomputable def JG (S : Mo) (c : Str) : Int := (yr S.ds c).getD S.y - bornS S c
noncomputable def XQ (S : Mo) (n : Str) (a : Int) (os : List Str) : List Str := (YZ S n os).filter fun c => decide (a ≤ JG S c)
noncomputable def Xg (S : Mo) (n : Str) (a : Int) (os : List Str) : List Str := (YZ S n os).filter fun c => !decide (a ≤ JG S c) && !has S.ds c
noncomputable def outL (S : Mo) (n : Str) : List Str := (ZQ S n).filter fun c => has S.ds c
section
variable {S : Mo} {n c : Str} {a : Int} {os : List Str}
theorem Ja (W : Wf S.bs S.ds) (n : Str) : (ZQ S n).length ≤ S.bs.length := by
  unfold ZQ kidL
  rw [List.length_map, List.length_range]
  exact W.few n
theorem Ye (W : Wf S.bs S.ds) (h : c ∈ ZQ S n) : has S.bs c = true := by
  unfold ZQ kidL at h
  obtain ⟨i, hi, rfl⟩ := List.mem_map.mp h
  have hi := List.mem_range.mp hi
  exact (W.cnt n i (by have := W.few n; have := W.lim; omega)).mpr hi
theorem kidsOf_ok (W : Wf S.bs S.ds) (h : c ∈ ZQ S n) : PyData.strOk c = true := W.ok (Ye W h)
theorem Y4 (h : c ∈ YZ S n os) : c ∈ ZQ S n := (List.mem_filter.mp h).1
theorem J0 (W : Wf S.bs S.ds) : (YZ S n os).length ≤ S.bs.length := Nat.le_trans (List.length_filter_le _ _) (Ja W n)
theorem seatL_sub (h : c ∈ XQ S n a os) : c ∈ ZQ S n := Y4 (List.mem_filter.mp h).1
theorem outL_sub (h : c ∈ outL S n) : c ∈ ZQ S n := (List.mem_filter.mp h).1
theorem kidsOf_none (W : Wf S.bs S.ds) (h : has S.bs n = false) : ZQ S n = [] := by
  unfold ZQ
  rw [W.nk_none h]
  rfl
theorem born_yr {y : Int} (h : yr S.bs c = some y) : bornS S c = y := by unfold bornS; rw [h]; rfl
theorem age_yr {y : Int} (h : yr S.bs c = some y) : (yr S.ds c).getD S.y - y = JG S c := by unfold JG; rw [born_yr h]
theorem al_known (h : has S.bs c = true) : al S.bs S.ds c = !has S.ds c := by unfold al; rw [h]; rfl
theorem stAge_hangs {y : Int} (h : yr S.bs c = some y) : decide (V.str (YE S c y a) = V.str "hangs") = (!decide (a ≤ JG S c) && !has S.ds c) := by
  unfold YE
  rw [show XV S c y = JG S c from age_yr h]
  by_cases h1 : a ≤ JG S c
  · rw [if_pos h1, decide_eq_true h1]
    exact decide_eq_false (fun e => absurd (by injection e : ("met" : Str) = "hangs") (by decide +kernel))
  · rw [if_neg h1, decide_eq_false h1]
    cases h2 : has S.ds c with
    | true => exact decide_eq_false (fun e => absurd (by injection e : ("failed" : Str) = "hangs") (by decide +kernel))
    | false => exact decide_eq_true rfl
theorem young_eq : ((YZ S n os).filter fun c => !has S.ds c).filter (fun c => decide (JG S c < a)) = Xg S n a os := by
  unfold Xg
  rw [List.filter_filter]
  congr 1
  funext c
  congr 1
  by_cases h : a ≤ JG S c
  · rw [decide_eq_true h, decide_eq_false (by omega)]; rfl
  · rw [decide_eq_false h, decide_eq_true (by omega)]; rfl
end
end L2

set_option Elab.async false
set_option linter.all false
set_option maxRecDepth 100000
namespace L2
open PySem PySem.Spec
theorem fig1 : ∀ c ∈ List.range 9, (⟨#[49 + c]⟩ : Str) = (toString ((c : Int) + 1) : Str) := by decide +kernel
theorem fig2 : ∀ c ∈ List.range 9, ∀ d ∈ List.range 10, (⟨#[49 + c, 48 + d]⟩ : Str) = (toString (((10 * (c + 1) + d - 1 : Nat) : Int) + 1) : Str) := by decide +kernel
theorem gn_is {p : Str} (h : gn p = true) : ∃ i : Nat, i < 99 ∧ p = (toString ((i : Int) + 1) : Str) := by
  unfold gn at h
  simp only [Bool.and_eq_true, decide_eq_true_eq] at h
  obtain ⟨⟨⟨h1, h2⟩, h3⟩, h4⟩ := h
  have hl : p.cps.toList.length = p.length := Array.length_toList
  have ep : p = ⟨p.cps.toList.toArray⟩ := J2 (by simp)
  rcases hc : p.cps.toList with _ | ⟨c, _ | ⟨d, _ | ⟨e, r⟩⟩⟩
  · rw [hc] at hl; simp at hl; omega
  · rw [hc] at h3 h4 ep
    simp [inR] at h3 h4
    obtain ⟨k, hk, rfl⟩ : ∃ k, k < 9 ∧ c = 49 + k := ⟨c - 49, by omega, by omega⟩
    exact ⟨k, by omega, ep.trans (fig1 k (List.mem_range.mpr hk))⟩
  · rw [hc] at h3 h4 ep
    simp [inR] at h3 h4
    obtain ⟨k, hk, rfl⟩ : ∃ k, k < 9 ∧ c = 49 + k := ⟨c - 49, by omega, by omega⟩
    obtain ⟨j, hj, rfl⟩ : ∃ j, j < 10 ∧ d = 48 + j := ⟨d - 48, by omega, by omega⟩
    exact ⟨10 * (k + 1) + j - 1, by omega, ep.trans (fig2 k (List.mem_range.mpr hk) j (List.mem_range.mpr hj))⟩
  · rw [hc] at hl; simp at hl; omega
theorem kid_more (n : Str) (i : Nat) : n.length < (kid n i).length := by
  have e : (kid n i).length = n.length + 1 + (toString ((i : Int) + 1) : Str).length := by
    unfold kid
    rw [XO, XO]
    rfl
  omega
theorem pok_cases {x : Str} (h : pok x = true) : gw x = true ∨ ∃ (n : Str) (i : Nat), i < 99 ∧ x = kid n i ∧ pok n = true ∧ dots n < 5 := by
  have h' := h
  unfold pok at h
  simp only [Bool.and_eq_true, decide_eq_true_eq] at h
  obtain ⟨⟨hw, h5⟩, hg⟩ := h
  rcases List.eq_nil_or_concat (nms x) with e | ⟨m, p, e⟩
  · left
    have : pcs x = [wd x] := by rw [XT, e]
    have e2 : Str.join dot [wd x] = x := by rw [← this]; exact Y3 x
    have : wd x = x := e2
    rw [← this]; exact hw
  · right
    rw [List.concat_eq_append] at e
    obtain ⟨i, hi, hp⟩ := gn_is (List.all_eq_true.mp hg p (by rw [e]; simp))
    have hpc : pcs x = (wd x :: m) ++ [p] := by rw [XT, e]; rfl
    have fr : ∀ q ∈ wd x :: m, 46 ∉ q.cps.toList := fun q hq => JY (x := x) (by rw [hpc]; exact List.mem_append_left _ hq)
    have pn : pcs (Str.join dot (wd x :: m)) = wd x :: m := join_inj _ _ (pcs_ne _) (by simp) (fun q hq => JY hq) fr (by rw [Y3])
    have wn : wd (Str.join dot (wd x :: m)) = wd x := by show (pcs (Str.join dot (wd x :: m))).headD "" = wd x; rw [pn]; rfl
    have nn : nms (Str.join dot (wd x :: m)) = m := by unfold nms; rw [pn]; rfl
    have ml : m.length < 5 := by rw [e, List.length_append, List.length_singleton] at h5; omega
    refine ⟨Str.join dot (wd x :: m), i, hi, ?_, ?_, by rw [dots_eq, nn]; exact ml⟩
    · have e3 : pcs (kid (Str.join dot (wd x :: m)) i) = pcs x := by rw [pcs_kid, pn, hpc, hp]
      exact (Y3 x).symm.trans ((congrArg (Str.join dot) e3.symm).trans (Y3 _))
    · unfold pok
      rw [wn, nn, hw]
      simp only [Bool.true_and, Bool.and_eq_true, decide_eq_true_eq]
      exact ⟨by omega, List.all_eq_true.mpr fun q hq => List.all_eq_true.mp hg q (by rw [e]; exact List.mem_append_left _ hq)⟩
theorem wd_has {bs ds : List (Str × Int)} (W : Wf bs ds) : ∀ (k : Nat) (x : Str), x.length ≤ k → pok x = true → nr bs x ≠ Str.empty → gw (wd x) = true ∧ has bs (wd x) = true := by
  intro k
  induction k with
  | zero => intro x hx hp _; exact absurd (Nat.le_zero.mp hx) (ZZ hp)
  | succ k ih =>
    intro x hx hp hn
    rcases pok_cases hp with hg | ⟨n, i, hi, rfl, pn, dn⟩
    · rw [wd_gw hg]
      refine ⟨hg, ?_⟩
      cases e : has bs x with
      | true => rfl
      | false => exact absurd (nr_gw hg e) hn
    · rw [wd_kid]
      refine ih n (by have := kid_more n i; omega) pn ?_
      rw [nr_kid] at hn
      cases e : has bs (kid n i) with
      | true =>
        have z := W.par n i e
        rw [Yd (ZZ pn) z]
        exact fun e => ZZ pn (by rw [e]; rfl)
      | false => rw [e] at hn; exact hn
theorem okN_wd {S : Mo} (W : Wf S.bs S.ds) {x : Str} (h : okN S x) : okN S (wd x) := by
  obtain ⟨a, b⟩ := wd_has W x.length x (Nat.le_refl _) h.1 h.2
  refine ⟨pok_gw a, ?_⟩
  rw [Yd (ZZ (pok_gw a)) b]
  exact fun e => ZZ (pok_gw a) (by rw [e]; rfl)
end L2
namespace L2
open PySem PySem.Spec
end L2

set_option Elab.async false
set_option linter.all false
set_option maxRecDepth 100000
namespace L2
open PySem PySem.Spec
structure Cl where
  n : Str
  a : Int
  os : List Str
  day : Int
noncomputable def Cl.ok (S : Mo) (c : Cl) : Prop := okN S c.n ∧ 0 ≤ c.a ∧ c.a ≤ 120 ∧ (∀ s ∈ c.os, PyData.strOk s = true) ∧ c.os.length ≤ 98
structure MadeAt (tl : Cl → List V) (H : Hp) (lm : Addr) (cs : List Cl) (qs : List (Addr × Addr)) : Prop where
  lst : H lm = some (.lst (qs.map fun q => V.ref q.1))
  len : qs.length = cs.length
  at_ : ∀ (i : Nat) q c, qs[i]? = some q → cs[i]? = some c → H q.1 = some (.tup ([.str c.n, .int c.a, .ref q.2] ++ tl c)) ∧ H q.2 = some (.lst (c.os.map V.str))
  ne : ∀ q ∈ qs, q.2 ≠ lm
noncomputable def rgn (lm : Addr) (qs : List (Addr × Addr)) : List Addr := lm :: qs.map (·.1) ++ qs.map (·.2)
section
variable {tl : Cl → List V} {H H' : Hp} {lm : Addr} {cs : List Cl} {qs : List (Addr × Addr)} {X : List Addr}
theorem MadeAt.mv (D : MadeAt tl H lm cs qs) (h : ∀ a ∈ rgn lm qs, ∀ o, H a = some o → H' a = some o) : MadeAt tl H' lm cs qs :=
  ⟨h _ (by simp [rgn]) _ D.lst, D.len, fun i q c e1 e2 => by
    obtain ⟨a, b⟩ := D.at_ i q c e1 e2
    have hq := List.mem_of_getElem? e1
    exact ⟨h _ (by unfold rgn; simp only [List.cons_append, List.mem_cons, List.mem_append]; exact .inr (.inl (List.mem_map.mpr ⟨q, hq, rfl⟩))) _ a, h _ (by unfold rgn; simp only [List.cons_append, List.mem_cons, List.mem_append]; exact .inr (.inr (List.mem_map.mpr ⟨q, hq, rfl⟩))) _ b⟩, D.ne⟩
theorem MadeAt.same (D : MadeAt tl H lm cs qs) (s : Zo H H') : MadeAt tl H' lm cs qs := D.mv fun a _ o e => s a o e
theorem MadeAt.keep (D : MadeAt tl H lm cs qs) (k : ZD X H H') (d : Dj (rgn lm qs) X) : MadeAt tl H' lm cs qs := D.mv fun a ha o e => k.1 a o (d a ha) e
theorem MadeAt.get (D : MadeAt tl H lm cs qs) {i : Nat} {v : V} (h : (qs.map fun q => V.ref q.1)[i]? = some v) : ∃ q c, v = .ref q.1 ∧ qs[i]? = some q ∧ cs[i]? = some c ∧ H q.1 = some (.tup ([.str c.n, .int c.a, .ref q.2] ++ tl c)) ∧ H q.2 = some (.lst (c.os.map V.str)) := by
  rw [List.getElem?_map] at h
  cases e : qs[i]? with
  | none => rw [e] at h; cases h
  | some q =>
    rw [e] at h
    cases h
    have hi : i < cs.length := by rw [← D.len]; exact (List.getElem?_eq_some_iff.mp e).1
    obtain ⟨a, b⟩ := D.at_ i q _ e (List.getElem?_eq_getElem hi)
    exact ⟨q, _, rfl, rfl, List.getElem?_eq_getElem hi, a, b⟩
theorem MadeAt.live (D : MadeAt tl H lm cs qs) : Live H (rgn lm qs) := by
  intro a ha
  unfold rgn at ha
  simp only [List.cons_append, List.mem_cons, List.mem_append] at ha
  rcases ha with rfl | ha | ha
  · exact ⟨_, D.lst⟩
  · obtain ⟨q, hq, rfl⟩ := List.mem_map.mp ha
    obtain ⟨i, hi⟩ := List.mem_iff_getElem?.mp hq
    have hj : i < cs.length := by rw [← D.len]; exact (List.getElem?_eq_some_iff.mp hi).1
    exact ⟨_, (D.at_ i q _ hi (List.getElem?_eq_getElem hj)).1⟩
  · obtain ⟨q, hq, rfl⟩ := List.mem_map.mp ha
    obtain ⟨i, hi⟩ := List.mem_iff_getElem?.mp hq
    have hj : i < cs.length := by rw [← D.len]; exact (List.getElem?_eq_some_iff.mp hi).1
    exact ⟨_, (D.at_ i q _ hi (List.getElem?_eq_getElem hj)).2⟩
theorem MadeAt.app {p o : Addr} {c : Cl} (D : MadeAt tl H lm cs qs) (ho : H o = none) (hp : H p = none) (s : Zo H H') (h1 : H' o = some (.lst (c.os.map V.str))) (h2 : H' p = some (.tup ([.str c.n, .int c.a, .ref o] ++ tl c))) :
    MadeAt tl (upd H' lm (.lst ((qs.map fun q => V.ref q.1) ++ [.ref p]))) lm (cs ++ [c]) (qs ++ [(p, o)]) ∧ ZD (rgn lm qs) H (upd H' lm (.lst ((qs.map fun q => V.ref q.1) ++ [.ref p]))) ∧ Y5 H (rgn lm qs) (rgn lm (qs ++ [(p, o)])) := by
  have nlo : o ≠ lm := fun e => by rw [e, D.lst] at ho; cases ho
  have nlp : p ≠ lm := fun e => by rw [e, D.lst] at hp; cases hp
  have D' := D.same s
  refine ⟨⟨by rw [Zc, List.map_append]; rfl, by rw [List.length_append, List.length_append, D.len]; rfl, fun i q c' e1 e2 => ?_, fun q hq => ?_⟩, ?_, ?_⟩
  · by_cases hi : i < qs.length
    · rw [List.getElem?_append_left hi] at e1
      rw [List.getElem?_append_left (by rw [← D.len]; exact hi)] at e2
      obtain ⟨a, b⟩ := D'.at_ i q c' e1 e2
      have n1 : q.1 ≠ lm := ZF a D'.lst (fun z => by cases z)
      exact ⟨by rw [Zg n1]; exact a, by rw [Zg (D.ne q (List.mem_of_getElem? e1))]; exact b⟩
    · have h1' := (List.getElem?_eq_some_iff.mp e1).1
      rw [List.length_append, List.length_singleton] at h1'
      obtain rfl : i = qs.length := by omega
      rw [List.getElem?_append_right (Nat.le_refl _), Nat.sub_self] at e1
      rw [D.len, List.getElem?_append_right (Nat.le_refl _), Nat.sub_self] at e2
      cases e1; cases e2
      exact ⟨by rw [Zg nlp]; exact h2, by rw [Zg nlo]; exact h1⟩
  · rcases List.mem_append.mp hq with hq | hq
    · exact D.ne q hq
    · rw [List.mem_singleton.mp hq]; exact nlo
  · exact (s.kp.wide (fun _ h => nomatch h)).tr (YG (a := lm)) (fun x hx => .inl (by rw [List.mem_singleton.mp hx]; simp [rgn]))
  · intro x hx
    unfold rgn at hx ⊢
    simp only [List.map_append, List.map_cons, List.map_nil, List.cons_append, List.mem_cons, List.mem_append, List.not_mem_nil, or_false] at hx ⊢
    rcases hx with rfl | (hx | rfl) | (hx | rfl)
    · exact .inl (.inl rfl)
    · exact .inl (.inr (.inl hx))
    · exact .inr hp
    · exact .inl (.inr (.inr hx))
    · exact .inr ho
end
theorem nr_grow {bs ds : List (Str × Int)} (W : Wf bs ds) {bs' : List (Str × Int)} (h : ∀ x, has bs x = true → has bs' x = true) : ∀ (k : Nat) (x : Str), x.length ≤ k → nr bs x ≠ Str.empty → nr bs' x ≠ Str.empty := by
  intro k
  induction k with
  | zero => intro x hx hn; exact absurd (by rw [len0 (Nat.le_zero.mp hx)]; exact nr_nil bs) hn
  | succ k ih =>
    intro x hx hn
    by_cases h0 : x.length = 0
    · exact absurd (by rw [len0 h0]; exact nr_nil bs) hn
    · cases e' : has bs' x with
      | true => rw [Yd h0 e']; exact fun e => h0 (by rw [e]; rfl)
      | false =>
        rw [nr_up h0 e']
        have e : has bs x = false := by
          cases z : has bs x with
          | false => rfl
          | true => rw [h x z] at e'; cases e'
        rw [nr_up h0 e] at hn
        exact ih (up x) (by have := up_len h0; omega) hn
theorem Mo.step_bs (S : Mo) (d : Deed) (x : Str) (h : has S.bs x = true) : has (S.step d).bs x = true := by
  cases d with
  | arrive w a => show has (S.bs ++ _) x = true; rw [ZI, h]; rfl
  | birth n => show has (S.bs ++ _) x = true; rw [ZI, h]; rfl
  | death n => exact h
  | comes w => exact h
  | years k => exact h
theorem okN.step {S : Mo} (W : Wf S.bs S.ds) {x : Str} (d : Deed) (h : okN S x) : okN (S.step d) x := ⟨h.1, nr_grow W (S.step_bs d) x.length x (Nat.le_refl _) h.2⟩
noncomputable def MadeX (tl : Cl → List V) (H : Hp) (lm : Addr) (S : Mo) (i : Nat) (cs : List Cl) (RX : List Addr) : Prop := ∃ qs, MadeAt tl H lm cs qs ∧ RX = rgn lm qs ∧ (∀ c ∈ cs, c.ok S) ∧ cs.length ≤ i
section
variable {tl : Cl → List V} {H H' : Hp} {lm : Addr} {S : Mo} {i : Nat} {cs : List Cl} {RX X : List Addr}
end
theorem outL_cl {S : Mo} (W : Wf S.bs S.ds) {x : Str} {a day : Int} (hl : S.bs.length ≤ 98) (ox : okN S x) (h0 : 0 ≤ a) (h1 : a ≤ 120) : Cl.ok S ⟨x, a, outL S x, day⟩ :=
  ⟨ox, h0, h1, fun s hs => kidsOf_ok W (outL_sub hs), Nat.le_trans (List.length_filter_le _ _) (Nat.le_trans (Ja W x) hl)⟩
end L2

set_option Elab.async false
set_option linter.all false
set_option maxRecDepth 100000
namespace L2
open PySem PySem.Spec PyProof.Rows
section
variable {X : Cx}
noncomputable def rMax1 (K : PySem.W.Frag) : List V → Hp → VK → Prop := fun xs H Q => ∃ (p : Addr) (ns : List Int), xs = [.ref p] ∧ SqL K H p (ns.map V.int) ∧ ns ≠ [] ∧ ∀ M, M ∈ ns → (∀ a ∈ ns, a ≤ M) → Q (.int M) H
theorem call_max1 (hc : X.calm = true) : Jw X (.builtin "max") (rMax1 X.K) := by
  intro pins s σ H xs us Q I r h
  obtain ⟨p, ns, rfl, hl, hne, q⟩ := h
  obtain ⟨u, rfl, e⟩ := vals1 r
  cases e
  obtain ⟨its, r', pl, _⟩ := I.list hl
  have hi := intsAre_of r'
  obtain ⟨ys, e⟩ := hi.allInts.items
  have hns : ns = ys.toList.map (·.1) := by rw [← hi.numsOf, ← nums_intItems, ← e]
  have hsz : 0 < ys.size := by
    have h3 : 0 < ns.length := List.length_pos_iff.mpr hne
    rw [hns, List.length_map, Array.length_toList] at h3; exact h3
  have hL := pl.isList
  rw [e] at hL
  refine max_intList (I.ok.hd hc) hL hsz fun v h' tk hv hk => ?_
  obtain ⟨t, rfl⟩ := intItems_at hv
  obtain ⟨h1, h2⟩ := argBest_gt (numAt ys) (ys.size - 1)
  refine ⟨.int _, H, I.kept hk, ⟨_, rfl⟩, q _ ?_ fun a ha => ?_⟩
  · rw [hns, numAt_eq]; exact getD_mem (by rw [List.length_map, Array.length_toList]; omega)
  · rw [hns] at ha
    obtain ⟨j, hj, rfl⟩ := mem_getD ha
    rw [List.length_map, Array.length_toList] at hj
    rw [← numAt_eq]; exact h2 j (by omega)
end
theorem max_uniq {ns : List Int} {M N : Int} (h1 : M ∈ ns) (h2 : ∀ a ∈ ns, a ≤ M) (h3 : N ∈ ns) (h4 : ∀ a ∈ ns, a ≤ N) : M = N := by
  have := h2 N h3
  have := h4 M h1
  omega
end L2

set_option Elab.async false
set_option linter.all false
set_option maxRecDepth 100000
namespace L2
open PySem PySem.Spec PyProof.Rows
section
variable {X : Cx}
end
end L2

set_option Elab.async false
set_option linter.all false
set_option maxRecDepth 100000
namespace L2
open PySem PySem.Spec
structure TupsAt (H : Hp) (l : Addr) (vss : List (List V)) (ps : List Addr) : Prop where
  lst : H l = some (.lst (ps.map V.ref))
  len : ps.length = vss.length
  at_ : ∀ (i : Nat) (p : Addr) (vs : List V), ps[i]? = some p → vss[i]? = some vs → H p = some (.tup vs)
section
variable {H H' : Hp} {l : Addr} {vss : List (List V)} {ps : List Addr}
end
section
variable {K : PySem.W.Frag} {caps : List (Str × Nat)} {tl te : TE} {tt : TT} {σ : St} {H : Hp} {Q : VK}
end
noncomputable def sy (S : Mo) (t : Atm) : Int := match t.since S with | .int y => y | _ => 0
section
variable {S : Mo} {t : Atm} {n : Str}
theorem yr_int {l : List (Str × Int)} (h : has l n = true) : ∃ y, ((yr l n).map V.int).getD V.non = .int y := by
  obtain ⟨y, e⟩ := Jg h
  exact ⟨y, by rw [e]; rfl⟩
noncomputable def Three (x : Str) : Prop := x = ("met" : Str) ∨ x = ("failed" : Str) ∨ x = ("hangs" : Str)
theorem since_hangs (h : t.stand S = ("hangs" : Str)) : t.since S = .non := if_pos h
theorem since_int (W : Wf S.bs S.ds) (ok : t.ok S) (h : t.stand S ≠ ("hangs" : Str)) : t.since S = .int (sy S t) := by
  suffices z : ∃ y, t.since S = .int y by
    obtain ⟨y, e⟩ := z
    unfold sy
    rw [e]
  by_cases hm : t.stand S = ("met" : Str)
  · rw [show t.since S = t.met S from (if_neg h).trans (if_pos hm)]
    cases t with
    | year y => exact ⟨y, rfl⟩
    | comes w =>
      refine yr_int ?_
      cases e : has S.cs w with
      | true => rfl
      | false => exact absurd (if_neg (by rw [e]; decide)) h
    | born m => exact yr_int (Atm.known_met rfl hm)
    | dead m =>
      have hk := Atm.known_met (t := .dead m) rfl hm
      refine yr_int ?_
      cases e : has S.ds m with
      | true => rfl
      | false => exact absurd ((if_pos hk).trans (if_neg (by rw [e]; decide))) h
    | age m a =>
      obtain ⟨y, e⟩ := Jg (Atm.known_met (t := .age m a) rfl hm)
      exact ⟨y + a, by show ((yr S.bs m).map fun y => V.int (y + a)).getD .non = _; rw [e]; rfl⟩
  · obtain ⟨n, hw⟩ := Atm.who_failed h hm
    obtain ⟨np, nk⟩ := Atm.near_ok W hw (Atm.ok_bad ok)
    rw [show t.since S = ((yr S.ds (nr S.bs n)).map V.int).getD .non from (if_neg h).trans ((if_neg hm).trans (by rw [hw]))]
    refine yr_int ?_
    cases hk : has S.bs n with
    | false =>
      rw [Atm.stand_none hw hk] at h
      cases e : has S.ds (nr S.bs n) with
      | true => rfl
      | false => exact absurd (by unfold Z9 al; rw [nk, e]; rfl) h
    | true =>
      rw [Yd (ZZ np) hk]
      cases e : has S.ds n with
      | true => rfl
      | false =>
        exfalso
        cases t with
        | year y => cases hw
        | comes w => cases hw
        | born m => cases hw; exact hm (if_pos hk)
        | dead m => cases hw; exact h ((if_pos hk).trans (if_neg (by rw [e]; decide)))
        | age m a =>
          cases hw
          obtain ⟨y, hy⟩ := Jg hk
          have es : (Atm.age n a).stand S = YE S n y a := by show (match yr S.bs n with | some y => _ | none => _) = _; rw [hy]
          rw [es] at h hm
          unfold YE at h hm
          by_cases c : a ≤ XV S n y
          · exact hm (if_pos c)
          · exact h ((if_neg c).trans (if_neg (by rw [e]; decide)))
end
noncomputable def ysL (S : Mo) (ts : List Atm) (how : Str) : List Int := (ts.filter fun t => decide (t.stand S = how)).map (sy S)
noncomputable def Sinc (S : Mo) (ts : List Atm) (day M : Int) : Prop :=
  (foldS (ts.map (Atm.stand S)) = "failed" ∧ ∃ m ∈ ysL S ts "failed", (∀ a ∈ ysL S ts "failed", m ≤ a) ∧ M = if m < day then day else m) ∨
  (foldS (ts.map (Atm.stand S)) = "met" ∧ M ∈ day :: ysL S ts "met" ∧ ∀ a ∈ day :: ysL S ts "met", a ≤ M)
end L2
namespace L2
open PySem PySem.Spec
end L2
namespace L2
open PySem PySem.Spec
end L2
namespace L2
open PySem PySem.Spec
section
variable {S : Mo} {t : Atm} {n : Str}
theorem since_none (hw : t.who = some n) (h : has S.bs n = false) (hs : t.stand S ≠ ("hangs" : Str)) : t.since S = ((yr S.ds (nr S.bs n)).map V.int).getD .non := by
  have hm : t.stand S ≠ ("met" : Str) := fun e => by rw [Atm.known_met hw e] at h; cases h
  exact (if_neg hs).trans ((if_neg hm).trans (by rw [hw]))
theorem since_dead (h : has S.bs n = true) (hs : (Atm.dead n).stand S ≠ ("hangs" : Str)) : (Atm.dead n).since S = ((yr S.ds n).map V.int).getD .non := by
  have hm : (Atm.dead n).stand S = ("met" : Str) := by
    have e : (Atm.dead n).stand S = if has S.ds n = true then ("met" : Str) else "hangs" := if_pos h
    rw [e] at hs ⊢
    by_cases c : has S.ds n = true
    · rw [if_pos c]
    · exact absurd (if_neg c) hs
  exact (if_neg hs).trans (if_pos hm)
theorem Xs {a y : Int} (hy : yr S.bs n = some y) : (Atm.age n a).stand S = YE S n y a := by
  show (match yr S.bs n with | some y => _ | none => _) = _
  rw [hy]
end
end L2
namespace L2
open PySem PySem.Spec
end L2
namespace L2
open PySem PySem.Spec
theorem str_dec (a b : Str) : decide (V.str a = V.str b) = decide (a = b) := by
  by_cases c : a = b
  · rw [decide_eq_true c, decide_eq_true (by rw [c])]
  · rw [decide_eq_false c, decide_eq_false (fun z => c (by injection z))]
end L2

set_option Elab.async false
set_option linter.all false
set_option maxRecDepth 100000
namespace L2
open PySem PySem.Spec
noncomputable def Jf (S : Mo) (n : Str) (a : Int) (os : List Str) : Bool := (YZ S n os).any fun c => decide (a ≤ JG S c)
noncomputable def clS (S : Mo) (n : Str) (a : Int) (os : List Str) : Str := if (al S.bs S.ds (nr S.bs n) || !(Xg S n a os).isEmpty) = true then "hangs" else if Jf S n a os = true then "met" else "failed"
noncomputable def cyL (S : Mo) (n : Str) (a : Int) (os : List Str) (day : Int) : List Int := day :: (yr S.ds (nr S.bs n)).getD 0 :: (YZ S n os).map fun c => sy S (.age c a)
noncomputable def Csin (S : Mo) (n : Str) (a : Int) (os : List Str) (day M : Int) : Prop := clS S n a os ≠ "hangs" ∧ M ∈ cyL S n a os day ∧ ∀ x ∈ cyL S n a os day, x ≤ M
theorem Csin.uniq {S : Mo} {n : Str} {a : Int} {os : List Str} {day M N : Int} (h : Csin S n a os day M) (h' : Csin S n a os day N) : M = N := max_uniq h.2.1 h.2.2 h'.2.1 h'.2.2
section
variable {S : Mo} {n c : Str} {a : Int} {os : List Str}
theorem seat_ne : Jf S n a os = decide ((0 : Int) < ((XQ S n a os).length : Nat)) := by
  unfold Jf XQ
  cases h : (YZ S n os).any fun c => decide (a ≤ JG S c) with
  | true =>
    obtain ⟨c, hc, e⟩ := List.any_eq_true.mp h
    refine (decide_eq_true ?_).symm
    have hm : c ∈ (YZ S n os).filter fun c => decide (a ≤ JG S c) := List.mem_filter.mpr ⟨hc, e⟩
    have := List.length_pos_of_mem hm
    omega
  | false =>
    refine (decide_eq_false fun z => ?_).symm
    have : ((YZ S n os).filter fun c => decide (a ≤ JG S c)) = [] := by
      rw [List.filter_eq_nil_iff]
      intro c hc e
      have := List.any_eq_false.mp h c hc
      exact this e
    rw [this] at z
    exact absurd z (by decide)
theorem cl_settled (h : clS S n a os ≠ "hangs") : al S.bs S.ds (nr S.bs n) = false ∧ Xg S n a os = [] := by
  unfold clS at h
  by_cases c : (al S.bs S.ds (nr S.bs n) || !(Xg S n a os).isEmpty) = true
  · exact absurd (if_pos c) h
  · rw [Bool.or_eq_true, not_or] at c
    refine ⟨by cases e : al S.bs S.ds (nr S.bs n) with | false => rfl | true => exact absurd e c.1, ?_⟩
    cases e : Xg S n a os with
    | nil => rfl
    | cons x r => rw [e] at c; exact absurd rfl c.2
theorem near_dead (h : okN S n) (hs : clS S n a os ≠ "hangs") : has S.bs (nr S.bs n) = true ∧ has S.ds (nr S.bs n) = true := by
  have nk : has S.bs (nr S.bs n) = true := by
    rcases nr_or S.bs n with e | e
    · exact absurd e h.2
    · exact e
  refine ⟨nk, ?_⟩
  have := (cl_settled hs).1
  unfold al at this
  rw [nk] at this
  cases e : has S.ds (nr S.bs n) with
  | true => rfl
  | false => rw [e] at this; cases this
theorem mem_settled (W : Wf S.bs S.ds) (hs : clS S n a os ≠ "hangs") (hc : c ∈ YZ S n os) : (Atm.age c a).stand S ≠ ("hangs" : Str) := fun e => by
  have hk := Ye W (Y4 hc)
  obtain ⟨y, hy⟩ := Jg hk
  rw [Xs hy] at e
  have z := stAge_hangs (a := a) hy
  rw [e, decide_eq_true rfl] at z
  have : c ∈ Xg S n a os := List.mem_filter.mpr ⟨hc, z.symm⟩
  rw [(cl_settled hs).2] at this
  cases this
theorem mem_okN (W : Wf S.bs S.ds) (hk : has S.bs c = true) : okN S c := by
  have hp := W.wrt c hk
  refine ⟨hp, ?_⟩
  rw [Yd (ZZ hp) hk]
  exact fun e => ZZ hp (by rw [e]; rfl)
theorem cl_law (h : okN S n) : (!has S.ds (nr S.bs n) || decide ((0 : Int) < ((Xg S n a os).length : Nat))) = (al S.bs S.ds (nr S.bs n) || !(Xg S n a os).isEmpty) := by
  have nk : has S.bs (nr S.bs n) = true := by
    rcases nr_or S.bs n with e | e
    · exact absurd e h.2
    · exact e
  rw [al_known nk]
  congr 1
  cases e : Xg S n a os with
  | nil => rfl
  | cons x r => exact decide_eq_true (by rw [List.length_cons]; omega)
end
end L2
namespace L2
open PySem PySem.Spec
section
variable {K : PySem.W.Frag} {caps : List (Str × Nat)} {tl te : TE} {tt : TT} {σ : St} {H : Hp} {Q : VK} {d : Addr} {bs : List (Str × Int)}
end
end L2
namespace L2
open PySem PySem.Spec
end L2
namespace L2
open PySem PySem.Spec
theorem nod_len {α : Type} [DecidableEq α] : ∀ {l m : List α}, l.Nodup → (∀ x ∈ l, x ∈ m) → l.length ≤ m.length
  | [], _, _, _ => Nat.zero_le _
  | a :: l, m, h, s => by
    have ha : a ∈ m := s a (by simp)
    have hn := List.nodup_cons.mp h
    have ih := nod_len (l := l) (m := m.erase a) hn.2 (fun x hx => (List.mem_erase_of_ne (show x ≠ a from fun e => hn.1 (by rw [← e]; exact hx))).mpr (s x (List.mem_cons_of_mem _ hx)))
    rw [List.length_erase_of_mem ha] at ih
    have : 0 < m.length := List.length_pos_of_mem ha
    rw [List.length_cons]
    omega
theorem ds_len {S : Mo} (W : Wf S.bs S.ds) (h : (S.ds.map (·.1)).Nodup) : S.ds.length ≤ S.bs.length := by
  have := nod_len (l := S.ds.map (·.1)) (m := S.bs.map (·.1)) h (fun x hx => (JD _ _).mp (W.sub x ((JD _ _).mpr hx)))
  rw [List.length_map, List.length_map] at this
  exact this
theorem ds_nod {S : Mo} {far : Int} {d : Deed} (h : (S.ds.map (·.1)).Nodup) (hg : S.good far d) : ((S.step d).ds.map (·.1)).Nodup := by
  cases d with
  | death n => exact nod_app h hg.2
  | arrive w a => exact h
  | birth n => exact h
  | comes w => exact h
  | years k => exact h
noncomputable def MadeD (tl : Cl → List V) (H : Hp) (lm : Addr) (S : Mo) (i : Nat) (cs : List Cl) (RX : List Addr) : Prop := MadeX tl H lm S i cs RX ∧ (S.ds.map (·.1)).Nodup
section
variable {tl : Cl → List V} {H H' : Hp} {lm : Addr} {S : Mo} {i : Nat} {cs : List Cl} {RX X : List Addr}
end
theorem Mo.Ok.died {S : Mo} {k : Nat} {n : Str} {far : Int} (O : S.Ok k) (hk : k < 98) (h : (S.ds.map (·.1)).Nodup) (hg : S.good far (.death n)) : (S.step (.death n)).Ok k := by
  have O' := O.step hg hk
  have hn := ds_nod h hg
  have := ds_len O'.wf hn
  have lb : (S.step (.death n)).bs.length ≤ k := O.lb
  exact ⟨O'.wf, O'.cw, lb, by omega, O.lc⟩
end L2

set_option Elab.async false
set_option linter.all false
set_option maxRecDepth 100000
namespace L2
open PySem PySem.Spec
structure Dated (S : Mo) : Prop where
  b : ∀ n y, yr S.bs n = some y → y ≤ S.y
  d : ∀ n y, yr S.ds n = some y → y ≤ S.y
  c : ∀ n y, yr S.cs n = some y → y ≤ S.y
theorem JH {l : List (Str × Int)} {m n : Str} {y : Int} (h : m ≠ n) : yr (l ++ [(m, y)]) n = yr l n := by rw [yr_app, if_neg h, Option.or_none]
theorem yr_app_new {l : List (Str × Int)} {n : Str} {y : Int} (h : has l n = false) : yr (l ++ [(n, y)]) n = some y := by
  unfold has at h
  rw [yr_app, if_pos rfl]
  cases e : yr l n with
  | none => rfl
  | some z => rw [e] at h; cases h
theorem yr_app_le {l : List (Str × Int)} {m n : Str} {y z c : Int} (h : ∀ n y, yr l n = some y → y ≤ c) (hy : y ≤ c) (e : yr (l ++ [(m, y)]) n = some z) : z ≤ c := by
  rw [yr_app] at e
  cases q : yr l n with
  | some v => rw [q] at e; cases e; exact h n _ q
  | none =>
    rw [q] at e
    by_cases c2 : m = n
    · rw [if_pos c2] at e; cases e; exact hy
    · rw [if_neg c2] at e; cases e
theorem Dated.zero (y : Int) : Dated (mo0 y) := ⟨(fun _ _ h => by cases h), (fun _ _ h => by cases h), (fun _ _ h => by cases h)⟩
theorem Dated.step {S : Mo} {far : Int} {d : Deed} (D : Dated S) (hg : S.good far d) : Dated (S.step d) := by
  cases d with
  | arrive w a => exact ⟨fun n y e => yr_app_le D.b (by have := hg.2.2.1; show S.y - a ≤ S.y; omega) e, D.d, D.c⟩
  | birth n => exact ⟨fun n y e => yr_app_le D.b (Int.le_refl _) e, D.d, D.c⟩
  | death n => exact ⟨D.b, fun n y e => yr_app_le D.d (Int.le_refl _) e, D.c⟩
  | comes w => exact ⟨D.b, D.d, fun n y e => yr_app_le D.c (Int.le_refl _) e⟩
  | years k => exact ⟨fun n y e => by have := D.b n y e; have := hg.1; show y ≤ S.y + k; omega, fun n y e => by have := D.d n y e; have := hg.1; show y ≤ S.y + k; omega, fun n y e => by have := D.c n y e; have := hg.1; show y ≤ S.y + k; omega⟩
noncomputable def Kept (S S' : Mo) (t : Atm) : Prop := t.stand S' = t.stand S ∧ t.since S' = t.since S
noncomputable def Now (S S' : Mo) (t : Atm) : Prop := t.stand S = ("hangs" : Str) ∧ t.stand S' ≠ ("hangs" : Str) ∧ S.y ≤ sy S' t ∧ sy S' t ≤ S'.y ∧ (S'.y = S.y ∨ S.y < sy S' t)
section
variable (S : Mo) (n : Str) (a : Int)
theorem st_year : (Atm.year a).stand S = if a ≤ S.y then ("met" : Str) else "hangs" := rfl
theorem st_comes : (Atm.comes n).stand S = if has S.cs n = true then ("met" : Str) else "hangs" := rfl
theorem st_born : (Atm.born n).stand S = if has S.bs n = true then ("met" : Str) else Z9 S n := rfl
theorem Jx : (Atm.dead n).stand S = if has S.bs n = true then (if has S.ds n = true then ("met" : Str) else "hangs") else Z9 S n := rfl
theorem mt_comes : (Atm.comes n).met S = ((yr S.cs n).map V.int).getD .non := rfl
theorem mt_born : (Atm.born n).met S = ((yr S.bs n).map V.int).getD .non := rfl
theorem mt_dead : (Atm.dead n).met S = ((yr S.ds n).map V.int).getD .non := rfl
theorem mt_age : (Atm.age n a).met S = ((yr S.bs n).map fun y => V.int (y + a)).getD .non := rfl
theorem Ji (t : Atm) : t.since S = if t.stand S = ("hangs" : Str) then .non else if t.stand S = ("met" : Str) then t.met S else match t.who with | some n => ((yr S.ds (nr S.bs n)).map V.int).getD .non | none => .non := rfl
end
section
variable {S S' : Mo} {t : Atm} {n : Str}
theorem none_has {l : List (Str × Int)} (h : has l n = false) : yr l n = none := by
  unfold has at h
  cases e : yr l n with
  | none => rfl
  | some y => rw [e] at h; cases h
theorem has_eq {l l' : List (Str × Int)} {m : Str} (h : yr l' m = yr l m) : has l' m = has l m := by unfold has; rw [h]
theorem XG (hw : t.who = some n) (hb : yr S'.bs n = yr S.bs n) (hd : yr S'.ds n = yr S.ds n) (hn : nr S'.bs n = nr S.bs n) (hnd : yr S'.ds (nr S.bs n) = yr S.ds (nr S.bs n)) (hnb : has S'.bs (nr S.bs n) = has S.bs (nr S.bs n))
    (ha : ∀ y a, yr S.bs n = some y → t = .age n a → YE S' n y a = YE S n y a) : Kept S S' t := by
  have hkb := has_eq hb
  have hkd := has_eq hd
  have sn : Z9 S' n = Z9 S n := by unfold Z9 al; rw [hn, hnb, has_eq hnd]
  have es : t.stand S' = t.stand S := by
    cases t with
    | year y => cases hw
    | comes w => cases hw
    | born m => cases hw; rw [st_born, st_born, hkb, sn]
    | dead m => cases hw; rw [Jx, Jx, hkb, hkd, sn]
    | age m a =>
      cases hw
      show (match yr S'.bs n with | some y => YE S' n y a | none => Z9 S' n) = (match yr S.bs n with | some y => YE S n y a | none => Z9 S n)
      rw [hb, sn]
      cases e : yr S.bs n with
      | none => rfl
      | some y => exact ha y a e rfl
  refine ⟨es, ?_⟩
  unfold Atm.since
  rw [es]
  have em : t.met S' = t.met S := by
    cases t with
    | year y => cases hw
    | comes w => cases hw
    | born m => cases hw; rw [mt_born, mt_born, hb]
    | dead m => cases hw; rw [mt_dead, mt_dead, hd]
    | age m a => cases hw; rw [mt_age, mt_age, hb]
  rw [em, hw]
  show (if _ then _ else if _ then _ else ((yr S'.ds (nr S'.bs n)).map V.int).getD .non) = _
  rw [hn, hnd]
theorem kept_plain (hw : t.who = none) (hy : S'.y = S.y) (hc : ∀ w, t = .comes w → yr S'.cs w = yr S.cs w) : Kept S S' t := by
  cases t with
  | year y =>
    have es : (Atm.year y).stand S' = (Atm.year y).stand S := by rw [st_year, st_year, hy]
    refine ⟨es, ?_⟩
    rw [Ji, Ji, es]
    rfl
  | comes w =>
    have e := hc w rfl
    have es : (Atm.comes w).stand S' = (Atm.comes w).stand S := by rw [st_comes, st_comes, has_eq e]
    refine ⟨es, ?_⟩
    rw [Ji, Ji, es, mt_comes, mt_comes, e]
    rfl
  | born m => cases hw
  | dead m => cases hw
  | age m a => cases hw
theorem stAge_eq {y a : Int} (hy : S'.y = S.y) (hd : yr S'.ds n = yr S.ds n) : YE S' n y a = YE S n y a := by
  unfold YE XV
  rw [hy, hd, has_eq hd]
theorem sy_of {y : Int} (h : t.since S = .int y) : sy S t = y := by unfold sy; rw [h]
theorem nr_book (h : okN S n) : has S.bs (nr S.bs n) = true := by
  rcases nr_or S.bs n with e | e
  · exact absurd e h.2
  · exact e
theorem nr_arrive {bs ds : List (Str × Int)} (W : Wf bs ds) {w : Str} {y : Int} (hw : gw w = true) (hk : has bs w = false) : ∀ (k : Nat) (x : Str), x.length ≤ k → pok x = true → nr bs x ≠ Str.empty → nr (bs ++ [(w, y)]) x = nr bs x := by
  intro k
  induction k with
  | zero => intro x hx hp _; exact absurd (Nat.le_zero.mp hx) (ZZ hp)
  | succ k ih =>
    intro x hx hp hn
    have h0 := ZZ hp
    cases e : has bs x with
    | true => rw [Yd h0 e, Yd h0 (by rw [ZI, e]; rfl)]
    | false =>
      rcases pok_cases hp with hg | ⟨n, i, hi, rfl, pn, dn⟩
      · exact absurd (nr_gw hg e) hn
      · have e' : has (bs ++ [(w, y)]) (kid n i) = false := by rw [ZI, e, decide_eq_false (gw_kid hw)]; rfl
        rw [nr_kid, e] at hn
        rw [nr_kid, nr_kid, e, e']
        exact ih n (by have := kid_more n i; omega) pn hn
theorem nr_birth {bs ds : List (Str × Int)} (W : Wf bs ds) {m : Str} {y : Int} {j : Nat} (hm : has bs m = true) (hc : has bs (kid m j) = false) : ∀ (k : Nat) (x : Str), x.length ≤ k → pok x = true → nr bs x ≠ Str.empty →
    nr (bs ++ [(kid m j, y)]) x = nr bs x ∨ (nr (bs ++ [(kid m j, y)]) x = kid m j ∧ nr bs x = m) := by
  intro k
  induction k with
  | zero => intro x hx hp _; exact absurd (Nat.le_zero.mp hx) (ZZ hp)
  | succ k ih =>
    intro x hx hp hn
    have h0 := ZZ hp
    cases e : has bs x with
    | true => exact .inl (by rw [Yd h0 e, Yd h0 (by rw [ZI, e]; rfl)])
    | false =>
      rcases pok_cases hp with hg | ⟨n, i, hi, rfl, pn, dn⟩
      · exact absurd (nr_gw hg e) hn
      · by_cases c : kid m j = kid n i
        · refine .inr ⟨?_, ?_⟩
          · rw [Yd h0 (by rw [ZI, c]; simp), c]
          · have q : m = n := kid_up c
            rw [nr_kid, e, ← q]
            exact Yd (ZZ (W.wrt m hm)) hm
        · have e' : has (bs ++ [(kid m j, y)]) (kid n i) = false := by rw [ZI, e, decide_eq_false c]; rfl
          rw [nr_kid, e] at hn
          rw [nr_kid, nr_kid, e, e']
          exact ih n (by have := kid_more n i; omega) pn hn
theorem J1 (h : t.stand S = ("hangs" : Str)) (h' : t.stand S' = ("hangs" : Str)) : Kept S S' t := ⟨by rw [h, h'], by rw [since_hangs h, since_hangs h']⟩
theorem ne_hm : ("met" : Str) ≠ "hangs" := by decide +kernel
theorem ne_hf : ("failed" : Str) ≠ "hangs" := by decide +kernel
theorem ne_fm : ("failed" : Str) ≠ "met" := by decide +kernel
theorem now_of {z : Int} (h : t.stand S = ("hangs" : Str)) (h' : t.stand S' ≠ ("hangs" : Str)) (hs : t.since S' = .int z) (h1 : S.y ≤ z) (h2 : z ≤ S'.y) (h3 : S'.y = S.y ∨ S.y < z) : Now S S' t := by
  have e := sy_of hs
  exact ⟨h, h', by rw [e]; exact h1, by rw [e]; exact h2, by rw [e]; exact h3⟩
theorem ZY {v : V} (h : t.stand S = ("met" : Str)) (hv : t.met S = v) : t.since S = v := by
  rw [Ji, if_neg (by rw [h]; exact ne_hm), if_pos h, hv]
theorem since_failed (h : t.stand S = ("failed" : Str)) (hw : t.who = some n) : t.since S = ((yr S.ds (nr S.bs n)).map V.int).getD .non := by
  rw [Ji, if_neg (by rw [h]; exact ne_hf), if_neg (by rw [h]; exact ne_fm), hw]
theorem step_atm {far : Int} {d : Deed} {k : Nat} (O : S.Ok k) (D : Dated S) (hk : k < 98) (hg : S.good far d) (ok : t.ok S) : Kept S (S.step d) t ∨ Now S (S.step d) t := by
  have W := O.wf
  cases d with
  | comes w =>
    cases hw : t.who with
    | some n => exact .inl (XG (S' := S.step (.comes w)) hw rfl rfl rfl rfl rfl (fun _ _ _ _ => rfl))
    | none =>
      by_cases c : t = .comes w
      · subst c
        have hs : (Atm.comes w).stand S = ("hangs" : Str) := by rw [st_comes, hg.2]; rfl
        have e : yr (S.step (.comes w)).cs w = some S.y := yr_app_new hg.2
        have hs' : (Atm.comes w).stand (S.step (.comes w)) = ("met" : Str) := by rw [st_comes, show has (S.step (.comes w)).cs w = true by unfold has; rw [e]; rfl]; rfl
        exact .inr (now_of hs (by rw [hs']; exact ne_hm) (ZY hs' (by rw [mt_comes, e]; rfl)) (Int.le_refl _) (Int.le_refl _) (.inl rfl))
      · exact .inl (kept_plain hw rfl (fun v e => JH (fun z => c (by rw [e, z]))))
  | arrive w a =>
    cases hw : t.who with
    | none => exact .inl (kept_plain hw rfl (fun v e => rfl))
    | some n =>
      have on := Atm.ok_who ok hw
      have nw : w ≠ n := fun e => by
        have h1 := hg.1
        have h2 := hg.2.1
        rw [e] at h1 h2
        exact on.2 (nr_gw h1 h2)
      have nb := nr_book on
      have nw2 : w ≠ nr S.bs n := fun e => by rw [← e, hg.2.1] at nb; cases nb
      exact .inl (XG (S' := S.step (.arrive w a)) hw (JH nw) rfl (nr_arrive W hg.1 hg.2.1 n.length n (Nat.le_refl _) on.1 on.2) rfl (has_eq (JH nw2)) (fun _ _ _ _ => rfl))
  | years j =>
    have j1 := hg.1
    cases hw : t.who with
    | none =>
      cases t with
      | year y =>
        by_cases c : y ≤ S.y
        · refine .inl ?_
          have e1 : (Atm.year y).stand S = ("met" : Str) := if_pos c
          have e2 : (Atm.year y).stand (S.step (.years j)) = ("met" : Str) := if_pos (by show y ≤ S.y + j; omega)
          exact ⟨by rw [e1, e2], by rw [ZY e1 rfl, ZY e2 rfl]; rfl⟩
        · have e1 : (Atm.year y).stand S = ("hangs" : Str) := if_neg c
          by_cases c2 : y ≤ S.y + j
          · have e2 : (Atm.year y).stand (S.step (.years j)) = ("met" : Str) := if_pos c2
            exact .inr (now_of e1 (by rw [e2]; exact ne_hm) (ZY e2 rfl) (by omega) c2 (.inr (by omega)))
          · exact .inl (J1 e1 (if_neg c2))
      | comes w =>
        have es : (Atm.comes w).stand (S.step (.years j)) = (Atm.comes w).stand S := rfl
        exact .inl ⟨es, by rw [Ji, Ji, es]; rfl⟩
      | born m => cases hw
      | dead m => cases hw
      | age m a => cases hw
    | some n =>
      by_cases c : ∃ y a, yr S.bs n = some y ∧ t = .age n a ∧ has S.ds n = false
      · obtain ⟨y, a, hy, rfl, hd⟩ := c
        have hdn := none_has hd
        have e1 := Xs (S := S) (a := a) hy
        have e2 := Xs (S := S.step (.years j)) (a := a) hy
        have a1 : XV S n y = S.y - y := by unfold XV; rw [hdn]; rfl
        have a2 : XV (S.step (.years j)) n y = S.y + j - y := by unfold XV; rw [show (S.step (.years j)).ds = S.ds from rfl, hdn]; rfl
        by_cases c1 : a ≤ S.y - y
        · have m1 : (Atm.age n a).stand S = ("met" : Str) := by rw [e1]; exact if_pos (by rw [a1]; exact c1)
          have m2 : (Atm.age n a).stand (S.step (.years j)) = ("met" : Str) := by rw [e2]; exact if_pos (by rw [a2]; omega)
          exact .inl ⟨by rw [m1, m2], by rw [ZY m1 rfl, ZY m2 rfl]; rfl⟩
        · have m1 : (Atm.age n a).stand S = ("hangs" : Str) := by rw [e1]; unfold YE; rw [if_neg (by rw [a1]; exact c1), hd]; rfl
          by_cases c2 : a ≤ S.y + j - y
          · have m2 : (Atm.age n a).stand (S.step (.years j)) = ("met" : Str) := by rw [e2]; exact if_pos (by rw [a2]; exact c2)
            exact .inr (now_of m1 (by rw [m2]; exact ne_hm) (ZY m2 (by rw [mt_age, show yr (S.step (.years j)).bs n = some y from hy]; rfl)) (by omega) (by show y + a ≤ S.y + j; omega) (.inr (by omega)))
          · have m2 : (Atm.age n a).stand (S.step (.years j)) = ("hangs" : Str) := by
              rw [e2]; unfold YE; rw [if_neg (by rw [a2]; exact c2), show has (S.step (.years j)).ds n = false from hd]; rfl
            exact .inl (J1 m1 m2)
      · refine .inl (XG (S' := S.step (.years j)) hw rfl rfl rfl rfl rfl (fun y a hy ht => ?_))
        have hd : has S.ds n = true := by
          cases e : has S.ds n with
          | true => rfl
          | false => exact absurd ⟨y, a, hy, ht, e⟩ c
        obtain ⟨z, hz⟩ := Jg hd
        unfold YE XV
        rw [show (S.step (.years j)).ds = S.ds from rfl, hz]
        rfl
  | death m =>
    have e0 : yr (S.step (.death m)).ds m = some S.y := yr_app_new hg.2
    have e0' : has (S.step (.death m)).ds m = true := by unfold has; rw [e0]; rfl
    have ne : ∀ x, m ≠ x → yr (S.step (.death m)).ds x = yr S.ds x := fun x hx => JH hx
    cases hw : t.who with
    | none => exact .inl (kept_plain hw rfl (fun v e => rfl))
    | some n =>
      have on := Atm.ok_who ok hw
      cases hb : has S.bs n with
      | false =>
        have nm : m ≠ n := fun e => by rw [← e, hg.1] at hb; cases hb
        by_cases c : nr S.bs n = m
        · have h1 : t.stand S = ("hangs" : Str) := by rw [Atm.stand_none hw hb]; unfold Z9 al; rw [c, hg.1, hg.2]; rfl
          have h2 : t.stand (S.step (.death m)) = ("failed" : Str) := by
            rw [Atm.stand_none (S := S.step (.death m)) hw hb]
            unfold Z9 al
            rw [show nr (S.step (.death m)).bs n = m from c, e0', show has (S.step (.death m)).bs m = true from hg.1]; rfl
          refine .inr (now_of h1 (by rw [h2]; exact ne_hf) ((since_failed h2 hw).trans ?_) (Int.le_refl _) (Int.le_refl _) (.inl rfl))
          rw [show nr (S.step (.death m)).bs n = m from c, e0]; rfl
        · exact .inl (XG (S' := S.step (.death m)) hw rfl (ne n nm) rfl (ne _ (Ne.symm c)) rfl (fun y a hy _ => by rw [none_has hb] at hy; cases hy))
      | true =>
        have nn := Yd (ZZ on.1) hb
        by_cases c : m = n
        · subst c
          have hdn := none_has hg.2
          cases t with
          | year y => cases hw
          | comes y => cases hw
          | born x =>
            cases hw
            have m1 : (Atm.born m).stand S = ("met" : Str) := if_pos hb
            have m2 : (Atm.born m).stand (S.step (.death m)) = ("met" : Str) := if_pos hb
            exact .inl ⟨by rw [m1, m2], by rw [ZY m1 rfl, ZY m2 rfl]; rfl⟩
          | dead x =>
            cases hw
            have m1 : (Atm.dead m).stand S = ("hangs" : Str) := by rw [Jx, hb, hg.2]; rfl
            have m2 : (Atm.dead m).stand (S.step (.death m)) = ("met" : Str) := by rw [Jx, show has (S.step (.death m)).bs m = true from hb, e0']; rfl
            exact .inr (now_of m1 (by rw [m2]; exact ne_hm) (ZY m2 (by rw [mt_dead, e0]; rfl)) (Int.le_refl _) (Int.le_refl _) (.inl rfl))
          | age x a =>
            cases hw
            obtain ⟨y, hy⟩ := Jg hb
            have e1 := Xs (S := S) (a := a) hy
            have e2 := Xs (S := S.step (.death m)) (a := a) hy
            have a1 : XV S m y = S.y - y := by unfold XV; rw [hdn]; rfl
            have a2 : XV (S.step (.death m)) m y = S.y - y := by unfold XV; rw [e0]; rfl
            by_cases c1 : a ≤ S.y - y
            · have m1 : (Atm.age m a).stand S = ("met" : Str) := by rw [e1]; exact if_pos (by rw [a1]; exact c1)
              have m2 : (Atm.age m a).stand (S.step (.death m)) = ("met" : Str) := by rw [e2]; exact if_pos (by rw [a2]; exact c1)
              exact .inl ⟨by rw [m1, m2], by rw [ZY m1 rfl, ZY m2 rfl]; rfl⟩
            · have m1 : (Atm.age m a).stand S = ("hangs" : Str) := by rw [e1]; unfold YE; rw [if_neg (by rw [a1]; exact c1), hg.2]; rfl
              have m2 : (Atm.age m a).stand (S.step (.death m)) = ("failed" : Str) := by rw [e2]; unfold YE; rw [if_neg (by rw [a2]; exact c1), e0']; rfl
              refine .inr (now_of m1 (by rw [m2]; exact ne_hf) ((since_failed (n := m) m2 rfl).trans ?_) (Int.le_refl _) (Int.le_refl _) (.inl rfl))
              rw [show nr (S.step (.death m)).bs m = m from nn, e0]; rfl
        · refine .inl (XG (S' := S.step (.death m)) hw rfl (ne n c) rfl (by rw [nn]; exact ne n c) rfl (fun y a hy _ => stAge_eq rfl (ne n c)))
  | birth m =>
    have hc := W.no_kid m
    have fw := W.few m
    have lb := O.lb
    have e0 : yr (S.step (.birth m)).bs (kid m (nk S.bs m)) = some S.y := yr_app_new hc
    have e0' : has (S.step (.birth m)).bs (kid m (nk S.bs m)) = true := by unfold has; rw [e0]; rfl
    have nd : has S.ds (kid m (nk S.bs m)) = false := by
      cases e : has S.ds (kid m (nk S.bs m)) with
      | false => rfl
      | true => rw [W.sub _ e] at hc; cases hc
    have mp := ZZ (W.wrt m hg.1)
    cases hw : t.who with
    | none => exact .inl (kept_plain hw rfl (fun v e => rfl))
    | some n =>
      have on := Atm.ok_who ok hw
      by_cases c : kid m (nk S.bs m) = n
      · subst c
        have nm : nr S.bs (kid m (nk S.bs m)) = m := by rw [nr_kid, hc]; exact Yd mp hg.1
        have h1 : t.stand S = ("hangs" : Str) := by rw [Atm.stand_none hw hc]; unfold Z9 al; rw [nm, hg.1, hg.2.1]; rfl
        cases t with
        | year y => cases hw
        | comes y => cases hw
        | born x =>
          cases hw
          have m2 : (Atm.born (kid m (nk S.bs m))).stand (S.step (.birth m)) = ("met" : Str) := if_pos e0'
          exact .inr (now_of h1 (by rw [m2]; exact ne_hm) (ZY m2 (by rw [mt_born, e0]; rfl)) (Int.le_refl _) (Int.le_refl _) (.inl rfl))
        | dead x =>
          cases hw
          exact .inl (J1 h1 (by rw [Jx, e0', show has (S.step (.birth m)).ds (kid m (nk S.bs m)) = false from nd]; rfl))
        | age x a =>
          cases hw
          have e2 := Xs (S := S.step (.birth m)) (a := a) e0
          have a2 : XV (S.step (.birth m)) (kid m (nk S.bs m)) S.y = 0 := by
            unfold XV
            rw [show (S.step (.birth m)).ds = S.ds from rfl, none_has nd]
            show S.y - S.y = 0
            omega
          by_cases c1 : a ≤ 0
          · have m2 : (Atm.age (kid m (nk S.bs m)) a).stand (S.step (.birth m)) = ("met" : Str) := by rw [e2]; exact if_pos (by rw [a2]; exact c1)
            have a0 : a = 0 := by have := ok.2.1; omega
            refine .inr (now_of h1 (by rw [m2]; exact ne_hm) (ZY m2 (by rw [mt_age, e0]; rfl)) (by omega) (by show S.y + a ≤ S.y; omega) (.inl rfl))
          · refine .inl (J1 h1 ?_)
            rw [e2]; unfold YE; rw [if_neg (by rw [a2]; exact c1), show has (S.step (.birth m)).ds (kid m (nk S.bs m)) = false from nd]; rfl
      · have yn : yr (S.step (.birth m)).bs n = yr S.bs n := JH c
        rcases nr_birth (y := S.y) W hg.1 hc n.length n (Nat.le_refl _) on.1 on.2 with h | ⟨h, h2⟩
        · refine .inl (XG (S' := S.step (.birth m)) hw yn rfl h rfl ?_ (fun _ _ _ _ => rfl))
          refine has_eq (JH (fun e => ?_))
          have nb := nr_book on
          rw [← e, hc] at nb
          cases nb
        · have hb : has S.bs n = false := by
            cases e : has S.bs n with
            | false => rfl
            | true =>
              exfalso
              have z := Yd (bs := (S.step (.birth m)).bs) (ZZ on.1) (by rw [has_eq yn]; exact e)
              exact c (h.symm.trans z)
          have hb' : has (S.step (.birth m)).bs n = false := by rw [has_eq yn]; exact hb
          refine .inl (J1 ?_ ?_)
          · rw [Atm.stand_none hw hb]; unfold Z9 al; rw [h2, hg.1, hg.2.1]; rfl
          · rw [Atm.stand_none (S := S.step (.birth m)) hw hb']
            unfold Z9 al
            rw [show nr (S.step (.birth m)).bs n = kid m (nk S.bs m) from h, e0', show has (S.step (.birth m)).ds (kid m (nk S.bs m)) = false from nd]; rfl
end
end L2

set_option Elab.async false
set_option linter.all false
set_option maxRecDepth 100000
namespace L2
open PySem PySem.Spec
structure Wch where
  l : Addr
  ts : List Atm
  ps : List Addr
noncomputable def Wt (S : Mo) (day : Int) (ts : List Atm) (s : Str) (v : V) : Prop :=
  (∃ t, ts = [t] ∧ s = t.stand S ∧ v = t.since S) ∨ (ts.length ≠ 1 ∧ s = foldS (ts.map (Atm.stand S)) ∧ ((s = "hangs" ∧ v = .non) ∨ ∃ M, v = .int M ∧ Sinc S ts day M))
section
variable {S S' : Mo} {day : Int} {ts : List Atm} {s s' : Str} {v v' : V}
end
structure WatAt (H : Hp) (lw : Addr) (ws : List Wch) : Prop where
  lst : H lw = some (.lst (ws.map fun w => V.ref w.l))
  at_ : ∀ w ∈ ws, AtmsAt H w.l w.ts w.ps
  ne : ∀ w ∈ ws, w.l ≠ lw
noncomputable def wrg (lw : Addr) (ws : List Wch) : List Addr := lw :: ws.map (·.l) ++ ws.flatMap (·.ps)
section
variable {H H' : Hp} {lw : Addr} {ws : List Wch} {X : List Addr}
end
noncomputable abbrev Tv := List (Str × V)
noncomputable def tvs (tv : Tv) : List (List V) := tv.map fun p => [.str p.1, p.2]
structure WX (H : Hp) (lw lt : Addr) (day : Int) (S : Mo) (xs : List Wch × Tv) (RX : List Addr) : Prop where
  ex : ∃ tp, WatAt H lw xs.1 ∧ TupsAt H lt (tvs xs.2) tp ∧ RX = wrg lw xs.1 ++ (lt :: tp)
  ltw : lt ∉ wrg lw xs.1
  ok : ∀ w ∈ xs.1, ∀ t ∈ w.ts, t.ok S
  sz : ∀ w ∈ xs.1, w.ts ≠ [] ∧ w.ts.length ≤ 4
  few : xs.1.length ≤ 21
  tl : xs.2.length ≤ xs.1.length
  good : ∀ (k : Nat) (s : Str) (v : V) (w : Wch), xs.2[k]? = some (s, v) → xs.1[k]? = some w → s = "hangs" ∨ Wt S day w.ts s v
  dat : Dated S
section
variable {H H' : Hp} {lw lt : Addr} {day : Int} {S : Mo} {xs : List Wch × Tv} {RX X : List Addr}
end
noncomputable def vD : V → PyData
  | .int i => .int i
  | _ => .none
theorem three_ok {s : Str} (h : Three s) : PyData.strOk s = true := by
  rcases h with rfl | rfl | rfl <;> decide +kernel
section
variable {H : Hp} {lt p : Addr} {vss : List (List V)} {ps : List Addr} {vs : List V} {i : Nat}
end
theorem ixN_nat {n i : Nat} (h : i < n) : ixN n (i : Int) = some i := by
  unfold ixN
  rw [if_pos (by omega), if_pos (by omega)]
  rfl
end L2
namespace L2
open PySem PySem.Spec
section
variable {H H' : Hp} {lw lt l : Addr} {day : Int} {S : Mo} {xs : List Wch × Tv} {RX : List Addr} {ts : List Atm} {ps : List Addr}
end
end L2

set_option Elab.async false
set_option linter.all false
set_option maxRecDepth 100000
namespace L2
open PySem PySem.Spec
noncomputable def hgs (S : Mo) (t : Atm) : Bool := decide (t.stand S = ("hangs" : Str))
noncomputable def hgL (S : Mo) (ts : List Atm) : List V := ts.map fun t => V.bl (hgs S t)
noncomputable def Deed.short : Deed → Prop
  | .years k => k = 1
  | _ => True
theorem Mo.Ok.years {S : Mo} {k : Nat} {j : Int} (O : S.Ok k) : (S.step (.years j)).Ok k := ⟨O.wf, O.cw, O.lb, O.ld, O.lc⟩
noncomputable def Singles (d : Deed) (ds : List Deed) : Prop := (∃ k : Nat, d = .years k ∧ ds = List.replicate k (.years 1)) ∨ ((∀ k, d ≠ .years k) ∧ ds = [d])
structure HX (H : Hp) (lw lh : Addr) (S : Mo) (xs : List Atm × List Addr) (RX : List Addr) : Prop where
  at_ : AtmsAt H lw xs.1 xs.2
  hg : H lh = some (.lst (hgL S xs.1))
  ne : lh ≠ lw
  ok : ∀ t ∈ xs.1, t.ok S
  few : xs.1.length ≤ 6
  rx : RX = lw :: lh :: xs.2
  dat : Dated S
section
variable {H H' : Hp} {lw lh : Addr} {S : Mo} {xs : List Atm × List Addr} {RX X : List Addr}
end
end L2
namespace L2
open PySem PySem.Spec
noncomputable def wl (k : Nat) : Nat := if k = 0 then 0 else if k ≤ 7 then 4 else 6
theorem DeedsAt.at' {H : Hp} {l : Addr} {ds : List Deed} {ps : List Addr} (D : DeedsAt H l ds ps) {i : Nat} {v : V} (h : (ps.map V.ref)[i]? = some v) : ∃ p d, v = .ref p ∧ ds[i]? = some d ∧ H p = some (.tup d.vals) := by
  rw [List.getElem?_map] at h
  cases e : ps[i]? with
  | none => rw [e] at h; cases h
  | some p =>
    rw [e] at h
    cases h
    have hi : i < ds.length := by rw [← D.len]; exact (List.getElem?_eq_some_iff.mp e).1
    exact ⟨p, ds[i], rfl, List.getElem?_eq_getElem hi, D.at_ i p _ e (List.getElem?_eq_getElem hi)⟩
section
variable {H H' : Hp} {lw lh : Addr} {S : Mo} {xs : List Atm × List Addr} {RX X R R' RM : List Addr}
theorem XU (h : Dj RX R) (L : Live H R) (gr : Y5 H RX X) : Dj X R := fun a ha hb => (gr a ha).elim (fun z => h a z hb) fun z => by obtain ⟨o, e⟩ := L a hb; rw [z] at e; cases e
end
end L2

set_option Elab.async false
set_option linter.all false
set_option maxRecDepth 100000
namespace L2
open PySem PySem.Spec
section
variable {S : Mo} {n c : Str} {a : Int} {os : List Str}
theorem age_met (W : Wf S.bs S.ds) (hk : has S.bs c = true) : (Atm.age c a).stand S = ("met" : Str) ↔ a ≤ JG S c := by
  obtain ⟨y, hy⟩ := Jg hk
  rw [Xs hy]
  have ea : XV S c y = JG S c := age_yr hy
  unfold YE
  rw [ea]
  constructor
  · intro h
    by_cases z : a ≤ JG S c
    · exact z
    · rw [if_neg z] at h
      split at h
      · exact absurd h (by decide +kernel)
      · exact absurd h (by decide +kernel)
  · intro h; rw [if_pos h]
theorem dead_near (on : okN S n) (h : al S.bs S.ds (nr S.bs n) = false) : (Atm.dead n).stand S ≠ ("hangs" : Str) ∧ (Atm.dead n).since S = ((yr S.ds (nr S.bs n)).map V.int).getD .non := by
  have nk := nr_book on
  have hd : has S.ds (nr S.bs n) = true := by
    rw [al_known nk] at h
    cases e : has S.ds (nr S.bs n) with
    | true => rfl
    | false => rw [e] at h; cases h
  cases hk : has S.bs n with
  | true =>
    have e := Yd (ZZ on.1) hk
    rw [e] at hd ⊢
    have hs : (Atm.dead n).stand S = ("met" : Str) := by rw [Jx, if_pos hk, if_pos hd]
    have hn : (Atm.dead n).stand S ≠ ("hangs" : Str) := by rw [hs]; exact ne_hm
    exact ⟨hn, since_dead hk hn⟩
  | false =>
    have hs : (Atm.dead n).stand S = ("failed" : Str) := by
      rw [Jx, hk, if_neg (by decide)]
      unfold Z9
      rw [h]
      rfl
    have hn : (Atm.dead n).stand S ≠ ("hangs" : Str) := by rw [hs]; exact ne_hf
    exact ⟨hn, since_none rfl hk hn⟩
theorem near_dead_of (on : okN S n) (h : (Atm.dead n).stand S ≠ ("hangs" : Str)) : al S.bs S.ds (nr S.bs n) = false := by
  cases hk : has S.bs n with
  | true =>
    rw [Yd (ZZ on.1) hk, al_known hk]
    rw [Jx, if_pos hk] at h
    cases e : has S.ds n with
    | true => rfl
    | false => rw [e] at h; exact absurd rfl h
  | false =>
    rw [Jx, hk, if_neg (by decide)] at h
    unfold Z9 at h
    cases e : al S.bs S.ds (nr S.bs n) with
    | false => rfl
    | true => rw [e] at h; exact absurd rfl h
end
theorem class_keep {S : Mo} {n : Str} {a : Int} {os : List Str} {far : Int} {d : Deed} {k : Nat} (O : S.Ok k) (D : Dated S) (hk : k < 98) (hg : S.good far d) (on : okN S n) (h0 : 0 ≤ a) (h1 : a ≤ 120) (hs : clS S n a os ≠ "hangs") :
    clS (S.step d) n a os = clS S n a os ∧ XQ (S.step d) n a os = XQ S n a os ∧ ∀ day M, Csin S n a os day M → Csin (S.step d) n a os day M := by
  have W := O.wf
  have W' := (O.step hg hk).wf
  have on' := on.step W d
  obtain ⟨hal, hwt⟩ := cl_settled hs
  have nd := near_dead on hs
  have ek : ZQ (S.step d) n = ZQ S n := by
    unfold ZQ
    cases d with
    | arrive w b => rw [show nk (S.step (.arrive w b)).bs n = nk S.bs n from nk_word hg.1 n]
    | birth m =>
      rw [show nk (S.step (.birth m)).bs n = _ from nk_born W (by have := O.lb; omega) n, if_neg]
      rintro rfl
      have e := Yd (ZZ on.1) hg.1
      rw [e, hg.2.1] at nd
      cases nd.2
    | death m => rfl
    | comes w => rfl
    | years j => rfl
  have em : YZ (S.step d) n os = YZ S n os := by unfold YZ; rw [ek]
  have km : ∀ c ∈ YZ S n os, Kept S (S.step d) (.age c a) := fun c hc => (step_atm (t := .age c a) O D hk hg ⟨mem_okN W (Ye W (Y4 hc)), h0, h1⟩).resolve_right fun z => mem_settled W hs hc z.1
  have ag : ∀ c ∈ YZ S n os, decide (a ≤ JG (S.step d) c) = decide (a ≤ JG S c) := fun c hc => by
    have k1 := Ye W (Y4 hc)
    have m1 := age_met (a := a) W k1
    have m2 := age_met (a := a) W' (S.step_bs d c k1)
    rw [(km c hc).1] at m2
    exact decide_eq_decide.mpr (m2.symm.trans m1)
  obtain ⟨dn, ds⟩ := dead_near on hal
  have kd := (step_atm (t := .dead n) O D hk hg on).resolve_right fun z => dn z.1
  have dn' : (Atm.dead n).stand (S.step d) ≠ ("hangs" : Str) := by rw [kd.1]; exact dn
  have hal' := near_dead_of on' dn'
  obtain ⟨_, ds'⟩ := dead_near on' hal'
  have ey : yr (S.step d).ds (nr (S.step d).bs n) = yr S.ds (nr S.bs n) := by
    have e := ds'.symm.trans (kd.2.trans ds)
    obtain ⟨y, hy⟩ := Jg nd.2
    rw [hy] at e ⊢
    cases z : yr (S.step d).ds (nr (S.step d).bs n) with
    | none => rw [z] at e; cases e
    | some y' => rw [z] at e; have e' : V.int y' = V.int y := e; injection e' with e'; rw [e']
  have es : XQ (S.step d) n a os = XQ S n a os := by
    unfold XQ
    rw [em]
    exact List.filter_congr ag
  have eh : Jf (S.step d) n a os = Jf S n a os := by rw [seat_ne, seat_ne, es]
  have ew : Xg (S.step d) n a os = [] := by
    unfold Xg
    rw [em, List.filter_eq_nil_iff]
    intro c hc e
    have k1 := S.step_bs d c (Ye W (Y4 hc))
    obtain ⟨y, hy⟩ := Jg k1
    have z := stAge_hangs (a := a) hy
    rw [e] at z
    have hh : YE (S.step d) c y a = "hangs" := by
      have := of_decide_eq_true z
      injection this
    have st : (Atm.age c a).stand (S.step d) = ("hangs" : Str) := by rw [Xs hy]; exact hh
    rw [(km c hc).1] at st
    exact mem_settled W hs hc st
  have ec : clS (S.step d) n a os = clS S n a os := by
    unfold clS
    rw [hal', ew, hal, hwt, eh]
  refine ⟨ec, es, fun day M h => ?_⟩
  have ecy : cyL (S.step d) n a os day = cyL S n a os day := by
    unfold cyL
    rw [ey, em]
    congr 2
    refine List.map_congr_left fun c hc => ?_
    unfold sy
    rw [(km c hc).2]
  refine ⟨by rw [ec]; exact h.1, ?_, ?_⟩
  · rw [ecy]; exact h.2.1
  · rw [ecy]; exact h.2.2
end L2
namespace L2
open PySem PySem.Spec
noncomputable def Wc (S : Mo) (c : Cl) (s : Str) (v : V) (ss : List Str) : Prop := s = clS S c.n c.a c.os ∧ ss = XQ S c.n c.a c.os ∧ ((s = "hangs" ∧ v = .non) ∨ (s ≠ "hangs" ∧ ∃ M, v = .int M ∧ Csin S c.n c.a c.os 0 M))
section
variable {S : Mo} {c : Cl} {s s' : Str} {v v' : V} {ss ss' : List Str}
theorem Wc.uniq (h : Wc S c s v ss) (h' : Wc S c s' v' ss') : s = s' ∧ v = v' ∧ ss = ss' := by
  obtain ⟨rfl, rfl, h⟩ := h
  obtain ⟨rfl, rfl, h'⟩ := h'
  refine ⟨rfl, ?_, rfl⟩
  rcases h with ⟨a, rfl⟩ | ⟨a, M, rfl, m⟩
  · rcases h' with ⟨_, rfl⟩ | ⟨b, _⟩
    · rfl
    · exact absurd a b
  · rcases h' with ⟨b, _⟩ | ⟨_, N, rfl, n⟩
    · exact absurd b a
    · rw [m.uniq n]
theorem clS_three (S : Mo) (n : Str) (a : Int) (os : List Str) : Three (clS S n a os) := by
  unfold clS Three
  split
  · simp
  · split <;> simp
theorem Wc.keep {far : Int} {d : Deed} {k : Nat} (O : S.Ok k) (D : Dated S) (hk : k < 98) (hg : S.good far d) (ok : c.ok S) (h : Wc S c s v ss) (hs : s ≠ "hangs") : Wc (S.step d) c s v ss := by
  obtain ⟨rfl, rfl, h⟩ := h
  obtain ⟨e1, e2, e3⟩ := class_keep O D hk hg ok.1 ok.2.1 ok.2.2.1 hs
  refine ⟨e1.symm, e2.symm, ?_⟩
  rcases h with ⟨a, _⟩ | ⟨a, M, rfl, m⟩
  · exact absurd a hs
  · exact .inr ⟨a, M, rfl, e3 0 M m⟩
theorem ne_trip {K : PySem.W.Frag} {H : Hp} {p q l1 l2 : Addr} {s : Str} {v : V} {ss : List Str} {Q : VK} (hp : H p = some (.tup [.str s, v, .ref l1])) (hq : H q = some (.tup [.str s, v, .ref l2])) (h1 : H l1 = some (.lst (ss.map V.str))) (h2 : H l2 = some (.lst (ss.map V.str))) (hs : PyData.strOk s = true) (hv : v = .non ∨ ∃ M, v = .int M) (hss : ∀ c ∈ ss, PyData.strOk c = true) (k : Q (.bl false) H) : rEqD K true (.ref p) (.ref q) H Q := by
  have rv : Rds K H v (vD v) := by
    rcases hv with rfl | ⟨M, rfl⟩
    · exact .non
    · exact .int M
  obtain ⟨a1, a2⟩ := strs_lay hss
  have sh : SeqAt.shaped (.tuple [.str s, vD v, strD ss]) = true := by
    unfold SeqAt.shaped
    rw [Bool.and_eq_true]
    rcases hv with rfl | ⟨M, rfl⟩
    · refine ⟨?_, decide_eq_true (by show PyData.depthAll [_, _, _] + 1 ≤ 64; simp [PyData.depthAll, PyData.depth, vD, strD, a2])⟩
      simp only [vD, strD, PyData.canLay0, PyData.canLayAll0]
      rw [hs, a1]; rfl
    · refine ⟨?_, decide_eq_true (by show PyData.depthAll [_, _, _] + 1 ≤ 64; simp [PyData.depthAll, PyData.depth, vD, strD, a2])⟩
      simp only [vD, strD, PyData.canLay0, PyData.canLayAll0]
      rw [hs, a1]; rfl
  exact ⟨_, _, .tuple (SqT.of hp) (.cons (.str _) (.cons rv (.cons (rds_strD (SqL.of h1)) .nil))), .tuple (SqT.of hq) (.cons (.str _) (.cons rv (.cons (rds_strD (SqL.of h2)) .nil))), sh, sh, by rw [SeqAt.eqv_refl _ (SeqAt.canLay_of_shaped sh)]; exact k⟩
end
structure Td where
  s : Str
  v : V
  ss : List Str
  p : Addr
  l : Addr
structure ToldAt (H : Hp) (lt : Addr) (td : List Td) : Prop where
  lst : H lt = some (.lst (td.map fun t => V.ref t.p))
  at_ : ∀ t ∈ td, H t.p = some (.tup [.str t.s, t.v, .ref t.l]) ∧ H t.l = some (.lst (t.ss.map V.str))
  ne : ∀ t ∈ td, t.l ≠ lt
noncomputable def trg (lt : Addr) (td : List Td) : List Addr := lt :: td.map (·.p) ++ td.map (·.l)
section
variable {H H' : Hp} {lt : Addr} {td : List Td} {t : Td} {i : Nat} {X : List Addr}
theorem trg_p (h : t ∈ td) : t.p ∈ trg lt td := by unfold trg; simp only [List.cons_append, List.mem_cons, List.mem_append]; exact .inr (.inl (List.mem_map.mpr ⟨t, h, rfl⟩))
theorem trg_l (h : t ∈ td) : t.l ∈ trg lt td := by unfold trg; simp only [List.cons_append, List.mem_cons, List.mem_append]; exact .inr (.inr (List.mem_map.mpr ⟨t, h, rfl⟩))
theorem trg_of {x : Addr} (h : x ∈ trg lt td) : x = lt ∨ ∃ t ∈ td, x = t.p ∨ x = t.l := by
  unfold trg at h
  simp only [List.cons_append, List.mem_cons, List.mem_append, List.mem_map] at h
  rcases h with rfl | ⟨t, ht, rfl⟩ | ⟨t, ht, rfl⟩
  · exact .inl rfl
  · exact .inr ⟨t, ht, .inl rfl⟩
  · exact .inr ⟨t, ht, .inr rfl⟩
theorem ToldAt.mv (T : ToldAt H lt td) (h : ∀ a ∈ trg lt td, ∀ o, H a = some o → H' a = some o) : ToldAt H' lt td :=
  ⟨h _ (by simp [trg]) _ T.lst, fun t ht => ⟨h _ (trg_p ht) _ (T.at_ t ht).1, h _ (trg_l ht) _ (T.at_ t ht).2⟩, T.ne⟩
theorem ToldAt.same (T : ToldAt H lt td) (s : Zo H H') : ToldAt H' lt td := T.mv fun a _ o e => s a o e
theorem ToldAt.keep (T : ToldAt H lt td) (k : ZD X H H') (d : Dj (trg lt td) X) : ToldAt H' lt td := T.mv fun a ha o e => k.1 a o (d a ha) e
theorem ToldAt.live (T : ToldAt H lt td) : Live H (trg lt td) := fun a ha => by
  rcases trg_of ha with rfl | ⟨t, ht, rfl | rfl⟩
  · exact ⟨_, T.lst⟩
  · exact ⟨_, (T.at_ t ht).1⟩
  · exact ⟨_, (T.at_ t ht).2⟩
theorem ToldAt.upd_ (T : ToldAt H lt td) (hp : H t.p = some (.tup [.str t.s, t.v, .ref t.l])) (hl : H t.l = some (.lst (t.ss.map V.str))) (nl : t.l ≠ lt) (td' : List Td) (sub : ∀ u ∈ td', u ∈ td ∨ u = t) : ToldAt (upd H lt (.lst (td'.map fun t => V.ref t.p))) lt td' := by
  have np : ∀ u ∈ td', u.p ≠ lt := fun u hu z => by
    rcases sub u hu with h | rfl
    · have e := (T.at_ u h).1; rw [z, T.lst] at e; cases e
    · rw [z, T.lst] at hp; cases hp
  have nl' : ∀ u ∈ td', u.l ≠ lt := fun u hu => by
    rcases sub u hu with h | rfl
    · exact T.ne u h
    · exact nl
  refine ⟨Zc, fun u hu => ?_, nl'⟩
  rw [Zg (np u hu), Zg (nl' u hu)]
  rcases sub u hu with h | rfl
  · exact T.at_ u h
  · exact ⟨hp, hl⟩
end
noncomputable def deaD (n : Str) : PyData := .tuple [.str "death", .str n]
theorem rds_dea {K : PySem.W.Frag} {H : Hp} {p : Addr} {n : Str} (h : H p = some (.tup (Deed.vals (.death n)))) : Rds K H (.ref p) (deaD n) := .tuple (SqT.of h) (.cons (.str _) (.cons (.str _) .nil))
theorem lay_dea {n : Str} (h : PyData.strOk n = true) : (deaD n).canLay0 = true ∧ (deaD n).depth ≤ 60 := by
  refine ⟨?_, by show 1 ≤ 60; decide⟩
  unfold deaD
  simp only [PyData.canLay0, PyData.canLayAll0]
  rw [h, show PyData.strOk ("death" : Str) = true by decide +kernel]
  rfl
theorem eqv_dea (a b : Str) : PyData.eqv (deaD a) (deaD b) = decide (a = b) := by
  unfold deaD
  simp only [PyData.eqv, PyData.eqvAll]
  rw [show ((("death" : Str)) == "death") = true from beq_self_eq_true _, Bool.true_and, Bool.and_true]
  by_cases c : a = b
  · rw [decide_eq_true c, c]; exact beq_self_eq_true _
  · rw [decide_eq_false c]; exact beq_eq_false_iff_ne.mpr c
theorem rds_deas {K : PySem.W.Frag} {H : Hp} {l : Addr} {dl : List Str} {ps : List Addr} (D : DeedsAt H l (dl.map Deed.death) ps) : Rds K H (.ref l) (.list (dl.map deaD)) := by
  refine .list (SqL.of D.lst) ?_
  have len := D.len
  have at_ := D.at_
  clear D
  induction ps generalizing dl with
  | nil =>
    cases dl with
    | nil => exact .nil
    | cons x r => simp at len
  | cons p ps ih =>
    cases dl with
    | nil => simp at len
    | cons x r =>
      refine .cons (rds_dea (at_ 0 p (.death x) rfl rfl)) (ih (dl := r) (by simpa using len) fun i q d e1 e2 => at_ (i + 1) q d (by simpa using e1) (by simpa using e2))
theorem lay_deas {dl : List Str} (h : ∀ n ∈ dl, PyData.strOk n = true) : PyData.canLayAll0 (dl.map deaD) = true := by
  induction dl with
  | nil => rfl
  | cons x r ih =>
    rw [List.map_cons]
    simp only [PyData.canLayAll0]
    rw [(lay_dea (h x (by simp))).1, ih (fun n hn => h n (by simp [hn]))]
    rfl
theorem any_deas (dl : List Str) (n : Str) : ((dl.map deaD).any fun y => PyData.eqv y (deaD n)) = decide (n ∈ dl) := by
  induction dl with
  | nil => rfl
  | cons x r ih =>
    rw [List.map_cons, List.any_cons, ih, eqv_dea]
    by_cases c : x = n
    · rw [decide_eq_true c, Bool.true_or, decide_eq_true (by simp [c])]
    · rw [decide_eq_false c, Bool.false_or]
      exact decide_eq_decide.mpr ⟨fun z => List.mem_cons_of_mem _ z, fun z => (List.mem_cons.mp z).resolve_left (fun e => c e.symm)⟩
end L2
namespace L2
open PySem PySem.Spec
structure TX (H : Hp) (lm lt : Addr) (S : Mo) (i : Nat) (xs : List Cl × List Td) (RX : List Addr) : Prop where
  ex : ∃ qs, MadeAt (fun _ => []) H lm xs.1 qs ∧ RX = rgn lm qs ++ trg lt xs.2 ∧ lt ∉ rgn lm qs ∧ lm ∉ trg lt xs.2
  td : ToldAt H lt xs.2
  ok : ∀ c ∈ xs.1, c.ok S
  few : xs.1.length ≤ 2 * i
  le : xs.2.length ≤ xs.1.length
  good : ∀ (k : Nat) (t : Td) (c : Cl), xs.2[k]? = some t → xs.1[k]? = some c → t.s = "hangs" ∨ Wc S c t.s t.v t.ss
  dat : Dated S
  nod : (S.ds.map (·.1)).Nodup
section
variable {H H' : Hp} {lm lt : Addr} {S : Mo} {i : Nat} {xs : List Cl × List Td} {RX X : List Addr}
theorem TX.mv (E : TX H lm lt S i xs RX) (h : ∀ a ∈ RX, ∀ o, H a = some o → H' a = some o) : TX H' lm lt S i xs RX := by
  obtain ⟨qs, A, rfl, n1, n2⟩ := E.ex
  exact ⟨⟨qs, A.mv fun a ha o e => h a (List.mem_append_left _ ha) o e, rfl, n1, n2⟩, E.td.mv fun a ha o e => h a (List.mem_append_right _ ha) o e, E.ok, E.few, E.le, E.good, E.dat, E.nod⟩
theorem TX.same (E : TX H lm lt S i xs RX) (s : Zo H H') : TX H' lm lt S i xs RX := E.mv fun a _ o e => s a o e
theorem TX.keep (E : TX H lm lt S i xs RX) (k : ZD X H H') (d : Dj RX X) : TX H' lm lt S i xs RX := E.mv fun a ha o e => k.1 a o (d a ha) e
theorem TX.live (E : TX H lm lt S i xs RX) : Live H RX := by
  obtain ⟨qs, A, rfl, _⟩ := E.ex
  intro a ha
  rcases List.mem_append.mp ha with ha | ha
  · exact A.live a ha
  · exact E.td.live a ha
theorem TX.step {far : Int} {d : Deed} {j : Nat} (E : TX H lm lt S i xs RX) (hg : S.good far d) (O : S.Ok j) (hj : j < 98) : TX H lm lt (S.step d) i xs RX := by
  refine ⟨E.ex, E.td, fun c hc => ?_, E.few, E.le, fun k t c e1 e2 => ?_, E.dat.step hg, ds_nod E.nod hg⟩
  · have z := E.ok c hc
    exact ⟨z.1.step O.wf d, z.2⟩
  · rcases E.good k t c e1 e2 with z | z
    · exact .inl z
    · by_cases c1 : t.s = "hangs"
      · exact .inl c1
      · exact .inr (z.keep O E.dat hj hg (E.ok c (List.mem_of_getElem? e2)) c1)
theorem TX.mono {j : Nat} (E : TX H lm lt S i xs RX) (h : i ≤ j) : TX H lm lt S j xs RX := ⟨E.ex, E.td, E.ok, by have := E.few; omega, E.le, E.good, E.dat, E.nod⟩
theorem TX.zero (D : Dated S) (hd : (S.ds.map (·.1)).Nodup) (h1 : H lm = some (.lst [])) (h2 : H lt = some (.lst [])) (ne : lt ≠ lm) : TX H lm lt S 0 ([], []) [lm, lt] := by
  have n2 : lm ∉ trg lt [] := fun z => ne (by have z' : lm = lt := by simpa [trg] using z
                                              exact z'.symm)
  exact ⟨⟨[], ⟨h1, rfl, (fun i q c e => by cases e), (fun _ h => nomatch h)⟩, rfl, (fun z => ne (by simpa [rgn] using z)), n2⟩, ⟨h2, (fun _ h => nomatch h), (fun _ h => nomatch h)⟩, (fun _ h => nomatch h), Nat.le_refl _, Nat.le_refl _, (fun k t c e => by cases e), D, hd⟩
theorem TX.more {p o : Addr} {c : Cl} (E : TX H lm lt S i xs RX) (ho : H o = none) (hp : H p = none) (s : Zo H H') (h1 : H' o = some (.lst (c.os.map V.str))) (h2 : H' p = some (.tup [.str c.n, .int c.a, .ref o])) (ok : c.ok S) (few : xs.1.length < 2 * i) (H2 : Hp) (k : ZD [lm] H' H2)
    {qs : List (Addr × Addr)} (hR : RX = rgn lm qs ++ trg lt xs.2) (n1 : lt ∉ rgn lm qs) (n2 : lm ∉ trg lt xs.2) (A2 : MadeAt (fun _ => []) H2 lm (xs.1 ++ [c]) (qs ++ [(p, o)])) : ∃ RX', TX H2 lm lt S i (xs.1 ++ [c], xs.2) RX' ∧ Y5 H RX RX' := by
  subst hR
  have lv := E.td.lst
  refine ⟨rgn lm (qs ++ [(p, o)]) ++ trg lt xs.2, ⟨⟨_, A2, rfl, ?_, n2⟩, ?_, ?_, ?_, ?_, ?_, E.dat, E.nod⟩, ?_⟩
  · intro z
    unfold rgn at z n1
    simp only [List.map_append, List.map_cons, List.map_nil, List.cons_append, List.mem_cons, List.mem_append, List.mem_nil_iff, or_false] at z n1
    rcases z with z | (z | z) | (z | z)
    · exact n1 (.inl z)
    · exact n1 (.inr (.inl z))
    · rw [z, hp] at lv; cases lv
    · exact n1 (.inr (.inr z))
    · rw [z, ho] at lv; cases lv
  · exact (E.td.same s).keep k (fun a ha hb => n2 (by rw [← List.mem_singleton.mp hb]; exact ha))
  · intro d hd
    rcases List.mem_append.mp hd with h | h
    · exact E.ok d h
    · rw [List.mem_singleton.mp h]; exact ok
  · show (xs.1 ++ [c]).length ≤ _
    rw [List.length_append, List.length_singleton]; omega
  · show xs.2.length ≤ (xs.1 ++ [c]).length
    rw [List.length_append]; have := E.le; omega
  · intro k t d e1 e2
    have e1' : xs.2[k]? = some t := e1
    have hk : k < xs.1.length := by have := (List.getElem?_eq_some_iff.mp e1').1; have := E.le; omega
    have e2' : (xs.1 ++ [c])[k]? = some d := e2
    rw [List.getElem?_append_left hk] at e2'
    exact E.good k t d e1 e2'
  · intro x hx
    rcases List.mem_append.mp hx with hx | hx
    · unfold rgn at hx ⊢
      simp only [List.map_append, List.map_cons, List.map_nil, List.cons_append, List.mem_cons, List.mem_append, List.mem_nil_iff, or_false] at hx ⊢
      rcases hx with z | (z | z) | (z | z)
      · exact .inl (.inl z)
      · exact .inl (.inr (.inl (.inl z)))
      · exact .inr (by rw [z]; exact hp)
      · exact .inl (.inr (.inl (.inr z)))
      · exact .inr (by rw [z]; exact ho)
    · exact .inl (List.mem_append_right _ hx)
theorem TX.push {p o : Addr} {c : Cl} (E : TX H lm lt S i xs RX) (ho : H o = none) (hp : H p = none) (s : Zo H H') (h1 : H' o = some (.lst (c.os.map V.str))) (h2 : H' p = some (.tup [.str c.n, .int c.a, .ref o])) (ok : c.ok S) (few : xs.1.length < 2 * i) :
    ∃ vs RX', H' lm = some (.lst vs) ∧ vs.length = xs.1.length ∧ TX (upd H' lm (.lst (vs ++ [.ref p]))) lm lt S i (xs.1 ++ [c], xs.2) RX' ∧ ZD RX H (upd H' lm (.lst (vs ++ [.ref p]))) ∧ Y5 H RX RX' := by
  obtain ⟨qs, A, hR, n1, n2⟩ := E.ex
  obtain ⟨A2, K2, _⟩ := A.app ho hp s h1 h2
  obtain ⟨RX', E', G'⟩ := E.more ho hp s h1 h2 ok few _ YG hR n1 n2 A2
  exact ⟨_, RX', s _ _ A.lst, by rw [List.length_map, A.len], E', K2.wide (fun x hx => by rw [hR]; exact List.mem_append_left _ hx), G'⟩
theorem TX.told {qs : List (Addr × Addr)} {td' : List Td} (E : TX H lm lt S i xs RX) (A : MadeAt (fun _ => []) H lm xs.1 qs) (hR : RX = rgn lm qs ++ trg lt xs.2) (n1 : lt ∉ rgn lm qs) (n2 : lm ∉ trg lt xs.2) (k : ZD [lt] H H') (T : ToldAt H' lt td') (fr : ∀ x ∈ trg lt td', x ∈ trg lt xs.2 ∨ H x = none) (len : td'.length = xs.1.length)
    (gd : ∀ (k : Nat) (t : Td) (c : Cl), td'[k]? = some t → xs.1[k]? = some c → Wc S c t.s t.v t.ss) : TX H' lm lt S i (xs.1, td') (rgn lm qs ++ trg lt td') ∧ ZD RX H H' ∧ Y5 H RX (rgn lm qs ++ trg lt td') := by
  have lv := A.lst
  refine ⟨⟨⟨qs, A.keep k (fun a ha hb => n1 (by rw [← List.mem_singleton.mp hb]; exact ha)), rfl, n1, fun z => ?_⟩, T, E.ok, E.few, Nat.le_of_eq len, fun k t c e1 e2 => .inr (gd k t c e1 e2), E.dat, E.nod⟩, k.wide (fun x hx => ?_), fun x hx => ?_⟩
  · rcases fr lm z with z | z
    · exact n2 z
    · rw [z] at lv; cases lv
  · rw [hR, List.mem_singleton.mp hx]; exact List.mem_append_right _ (by simp [trg])
  · rw [hR]
    rcases List.mem_append.mp hx with hx | hx
    · exact .inl (List.mem_append_left _ hx)
    · exact (fr x hx).imp (List.mem_append_right _) id
end
end L2

set_option maxHeartbeats 0
namespace L2
open PySem PySem.W
theorem us0 (us : List Value) (h : us.length = 0) : us = [] := List.eq_nil_of_length_eq_zero h
theorem us1 (us : List Value) (h : us.length = 1) : ∃ a0, us = [a0] := by
  cases us with
  | nil => cases h
  | cons a0 us => exact ⟨a0, by rw [us0 us (Nat.succ.inj h)]⟩
theorem us2 (us : List Value) (h : us.length = 2) : ∃ a0 a1, us = [a0, a1] := by
  cases us with
  | nil => cases h
  | cons a0 us =>
    obtain ⟨a1, e⟩ := us1 us (Nat.succ.inj h)
    exact ⟨a0, a1, by rw [e]⟩
theorem us3 (us : List Value) (h : us.length = 3) : ∃ a0 a1 a2, us = [a0, a1, a2] := by
  cases us with
  | nil => cases h
  | cons a0 us =>
    obtain ⟨a1, a2, e⟩ := us2 us (Nat.succ.inj h)
    exact ⟨a0, a1, a2, by rw [e]⟩
theorem us4 (us : List Value) (h : us.length = 4) : ∃ a0 a1 a2 a3, us = [a0, a1, a2, a3] := by
  cases us with
  | nil => cases h
  | cons a0 us =>
    obtain ⟨a1, a2, a3, e⟩ := us3 us (Nat.succ.inj h)
    exact ⟨a0, a1, a2, a3, by rw [e]⟩
theorem us5 (us : List Value) (h : us.length = 5) : ∃ a0 a1 a2 a3 a4, us = [a0, a1, a2, a3, a4] := by
  cases us with
  | nil => cases h
  | cons a0 us =>
    obtain ⟨a1, a2, a3, a4, e⟩ := us4 us (Nat.succ.inj h)
    exact ⟨a0, a1, a2, a3, a4, by rw [e]⟩
theorem walkX_of {q : Program} {loose : List Str} {XP : (Str → Option Value) → Heap → Prop} {K : Params → Frag} {as : List Addr} {n t : Nat} {r : RowW} {d : DefRec} {kwd : List (Str × Expr)} {run : Value → List Value → Sem Value} (e : ∀ P, as = (K P).map (·.1))
    (h : WalkO q loose XP (fun w h => (K w.params).In h) r d kwd run) : WalkX q loose XP (X.obsZ as) (X.valZ K n t) r d kwd run :=
  fun w s₀ s₁ mg mb G y a o pm cd doc dV kV h1 h2 h3 h4 h5 h6 args vals as' L hpre hlay hrd hwl hlo =>
    h w s₀ s₁ mg mb G (InK.keeps w _ _ (X.z_facts e y).2.1 L.keeps) a o pm cd doc dV kV h1 h2 h3 h4 h5 h6 args vals as' hpre hlay hrd hwl hlo
end L2
namespace My
open PySem L2
noncomputable def top (i : Nat) : Stmt := PySem.Challenge.pw_deadhand_k17_class_settles.main.body.getD i (.Pass ⟨0, 0, 0, 0⟩)
noncomputable def YH (s : Stmt) (j : Nat) : Stmt := match s with
  | .ClassDef _ _ _ body _ _ _ _ _ _ _ => body.getD j (.Pass ⟨0, 0, 0, 0⟩)
  | _ => .Pass ⟨0, 0, 0, 0⟩
noncomputable def forBody (s : Stmt) : List Stmt := match s with
  | .For _ _ b _ _ => b
  | .While _ b _ _ => b
  | .If _ b _ _ => b
  | _ => []
noncomputable abbrev s_within : Stmt := top 34
theorem sc_within : FnScope ["text", "low", "high", "sign"] ["text", "low", "high"] (Zb s_within) := ⟨rfl, rfl, rfl, by decide +kernel, rfl, by decide +kernel, by decide +kernel⟩
noncomputable abbrev XC : Stmt := top 35
theorem sc_good_word : FnScope ["word"] ["word"] (Zb XC) := ⟨rfl, rfl, rfl, by decide +kernel, rfl, by decide +kernel, by decide +kernel⟩
noncomputable abbrev YK : Stmt := top 37
theorem sc_good_number : FnScope ["text"] ["text"] (Zb YK) := ⟨rfl, rfl, rfl, by decide +kernel, rfl, by decide +kernel, by decide +kernel⟩
noncomputable abbrev s_parts : Stmt := top 38
theorem sc_parts : FnScope ["name", "word", "numbers", "number"] ["name"] (Zb s_parts) := ⟨rfl, rfl, rfl, by decide +kernel, rfl, by decide +kernel, by decide +kernel⟩
noncomputable abbrev Xw : Stmt := top 39
theorem sc_shortened : FnScope ["name"] ["name"] (Zb Xw) := ⟨rfl, rfl, rfl, by decide +kernel, rfl, by decide +kernel, by decide +kernel⟩
noncomputable abbrev Yi : Stmt := YH (top 40) 16
theorem X0 : FnScope ["self", "name", "beginning"] ["self", "name"] (Zb Yi) := ⟨rfl, rfl, rfl, by decide +kernel, rfl, by decide +kernel, by decide +kernel⟩
noncomputable abbrev Yg : Stmt := top 13
theorem sc_nearest_named : FnScope ["world", "name", "found"] ["world", "name"] (Zb Yg) := ⟨rfl, rfl, rfl, by decide +kernel, rfl, by decide +kernel, by decide +kernel⟩
noncomputable abbrev YT : Stmt := YH (top 40) 8
theorem sc_Lives_known : FnScope ["self", "name"] ["self", "name"] (Zb YT) := ⟨rfl, rfl, rfl, by decide +kernel, rfl, by decide +kernel, by decide +kernel⟩
noncomputable abbrev ZU : Stmt := YH (top 40) 3
theorem sc_Lives_want_known : FnScope ["self", "name"] ["self", "name"] (Zb ZU) := ⟨rfl, rfl, rfl, by decide +kernel, rfl, by decide +kernel, by decide +kernel⟩
noncomputable abbrev Yw : Stmt := YH (top 40) 12
theorem sc_Lives_age_in : FnScope ["self", "name", "year"] ["self", "name", "year"] (Zb Yw) := ⟨rfl, rfl, rfl, by decide +kernel, rfl, by decide +kernel, by decide +kernel⟩
noncomputable abbrev XE : Stmt := YH (top 46) 8
theorem sc_World_age : FnScope ["self", "name"] ["self", "name"] (Zb XE) := ⟨rfl, rfl, rfl, by decide +kernel, rfl, by decide +kernel, by decide +kernel⟩
noncomputable abbrev YX : Stmt := YH (top 40) 9
theorem sc_Lives_alive : FnScope ["self", "name"] ["self", "name"] (Zb YX) := ⟨rfl, rfl, rfl, by decide +kernel, rfl, by decide +kernel, by decide +kernel⟩
noncomputable abbrev XD : Stmt := top 14
theorem sc_age_stand : FnScope ["world", "name", "age"] ["world", "name", "age"] (Zb XD) := ⟨rfl, rfl, rfl, by decide +kernel, rfl, by decide +kernel, by decide +kernel⟩
noncomputable abbrev Ys : Stmt := top 15
theorem sc_person_stand : FnScope ["world", "atom", "kind", "name"] ["world", "atom"] (Zb Ys) := ⟨rfl, rfl, rfl, by decide +kernel, rfl, by decide +kernel, by decide +kernel⟩
noncomputable abbrev Yh : Stmt := YH (top 46) 7
theorem sc_World_came_in : FnScope ["self", "word"] ["self", "word"] (Zb Yh) := ⟨rfl, rfl, rfl, by decide +kernel, rfl, by decide +kernel, by decide +kernel⟩
noncomputable abbrev Xd : Stmt := top 16
theorem sc_atom_stand : FnScope ["world", "atom", "kind"] ["world", "atom"] (Zb Xd) := ⟨rfl, rfl, rfl, by decide +kernel, rfl, by decide +kernel, by decide +kernel⟩
noncomputable abbrev Yj : Stmt := YH (top 40) 11
theorem sc_Lives_died_in : FnScope ["self", "name"] ["self", "name"] (Zb Yj) := ⟨rfl, rfl, rfl, by decide +kernel, rfl, by decide +kernel, by decide +kernel⟩
noncomputable abbrev Xc : Stmt := top 17
theorem sc_last_death : FnScope ["world", "name"] ["world", "name"] (Zb Xc) := ⟨rfl, rfl, rfl, by decide +kernel, rfl, by decide +kernel, by decide +kernel⟩
noncomputable abbrev Yk : Stmt := YH (top 40) 10
theorem sc_Lives_born_in : FnScope ["self", "name"] ["self", "name"] (Zb Yk) := ⟨rfl, rfl, rfl, by decide +kernel, rfl, by decide +kernel, by decide +kernel⟩
noncomputable abbrev Xx : Stmt := top 18
theorem sc_met_since : FnScope ["world", "atom", "kind", "born"] ["world", "atom"] (Zb Xx) := ⟨rfl, rfl, rfl, by decide +kernel, rfl, by decide +kernel, by decide +kernel⟩
noncomputable abbrev Xe : Stmt := top 19
theorem sc_atom_since : FnScope ["world", "atom", "how"] ["world", "atom"] (Zb Xe) := ⟨rfl, rfl, rfl, by decide +kernel, rfl, by decide +kernel, by decide +kernel⟩
noncomputable abbrev Z7 : Stmt := YH (top 40) 13
theorem sc_Lives_children : FnScope ["self", "name"] ["self", "name"] (Zb Z7) := ⟨rfl, rfl, rfl, by decide +kernel, rfl, by decide +kernel, by decide +kernel⟩
noncomputable abbrev s_brood : Stmt := top 21
theorem sc_brood : FnScope ["world", "name"] ["world", "name"] (Zb s_brood) := ⟨rfl, rfl, rfl, by decide +kernel, rfl, by decide +kernel, by decide +kernel⟩
noncomputable abbrev JJ : Stmt := top 22
theorem sc_members : FnScope ["world", "name", "out"] ["world", "name", "out"] (Zb JJ) := ⟨rfl, rfl, rfl, by decide +kernel, rfl, by decide +kernel, by decide +kernel⟩
noncomputable abbrev s_seats : Stmt := top 23
theorem sc_seats : FnScope ["world", "name", "age", "out", "lives", "year"] ["world", "name", "age", "out"] (Zb s_seats) := ⟨rfl, rfl, rfl, by decide +kernel, rfl, by decide +kernel, by decide +kernel⟩
noncomputable abbrev X9 : Stmt := top 24
theorem sc_has_seat : FnScope ["world", "name", "age", "out", "child"] ["world", "name", "age", "out"] (Zb X9) := ⟨rfl, rfl, rfl, by decide +kernel, rfl, by decide +kernel, by decide +kernel⟩
noncomputable abbrev JI : Stmt := top 25
theorem sc_waiting : FnScope ["world", "name", "age", "out"] ["world", "name", "age", "out"] (Zb JI) := ⟨rfl, rfl, rfl, by decide +kernel, rfl, by decide +kernel, by decide +kernel⟩
noncomputable abbrev X1 : Stmt := top 26
theorem sc_may_grow : FnScope ["world", "name"] ["world", "name"] (Zb X1) := ⟨rfl, rfl, rfl, by decide +kernel, rfl, by decide +kernel, by decide +kernel⟩
noncomputable abbrev YL : Stmt := top 27
theorem sc_class_stand : FnScope ["world", "name", "age", "out"] ["world", "name", "age", "out"] (Zb YL) := ⟨rfl, rfl, rfl, by decide +kernel, rfl, by decide +kernel, by decide +kernel⟩
noncomputable abbrev YM : Stmt := top 28
theorem sc_class_since : FnScope ["world", "name", "age", "out", "day", "years"] ["world", "name", "age", "out", "day"] (Zb YM) := ⟨rfl, rfl, rfl, by decide +kernel, rfl, by decide +kernel, by decide +kernel⟩
noncomputable abbrev Xv : Stmt := top 36
theorem sc_want_word : FnScope ["word"] ["word"] (Zb Xv) := ⟨rfl, rfl, rfl, by decide +kernel, rfl, by decide +kernel, by decide +kernel⟩
noncomputable abbrev Z8 : Stmt := YH (top 40) 0
theorem sc_Lives___init__ : FnScope ["self"] ["self"] (Zb Z8) := ⟨rfl, rfl, rfl, by decide +kernel, rfl, by decide +kernel, by decide +kernel⟩
noncomputable abbrev YU : Stmt := YH (top 40) 2
theorem sc_Lives_enter : FnScope ["self", "name", "year"] ["self", "name", "year"] (Zb YU) := ⟨rfl, rfl, rfl, by decide +kernel, rfl, by decide +kernel, by decide +kernel⟩
noncomputable abbrev ZV : Stmt := YH (top 40) 4
theorem sc_Lives_want_alive : FnScope ["self", "name"] ["self", "name"] (Zb ZV) := ⟨rfl, rfl, rfl, by decide +kernel, rfl, by decide +kernel, by decide +kernel⟩
noncomputable abbrev Yv : Stmt := YH (top 40) 5
theorem sc_Lives_arrive : FnScope ["self", "word", "born"] ["self", "word", "born"] (Zb Yv) := ⟨rfl, rfl, rfl, by decide +kernel, rfl, by decide +kernel, by decide +kernel⟩
noncomputable abbrev YW : Stmt := YH (top 40) 6
theorem sc_Lives_birth : FnScope ["self", "name", "year", "child"] ["self", "name", "year"] (Zb YW) := ⟨rfl, rfl, rfl, by decide +kernel, rfl, by decide +kernel, by decide +kernel⟩
noncomputable abbrev YV : Stmt := YH (top 40) 7
theorem sc_Lives_death : FnScope ["self", "name", "year"] ["self", "name", "year"] (Zb YV) := ⟨rfl, rfl, rfl, by decide +kernel, rfl, by decide +kernel, by decide +kernel⟩
noncomputable abbrev YS : Stmt := YH (top 40) 14
theorem sc_Lives_names : FnScope ["self"] ["self"] (Zb YS) := ⟨rfl, rfl, rfl, by decide +kernel, rfl, by decide +kernel, by decide +kernel⟩
noncomputable abbrev Yu : Stmt := YH (top 40) 15
theorem sc_Lives_living : FnScope ["self"] ["self"] (Zb Yu) := ⟨rfl, rfl, rfl, by decide +kernel, rfl, by decide +kernel, by decide +kernel⟩
noncomputable abbrev YR : Stmt := YH (top 40) 17
theorem sc_Lives_never : FnScope ["self", "name"] ["self", "name"] (Zb YR) := ⟨rfl, rfl, rfl, by decide +kernel, rfl, by decide +kernel, by decide +kernel⟩
noncomputable abbrev Yr : Stmt := top 45
theorem sc_want_between : FnScope ["number", "low", "high"] ["number", "low", "high"] (Zb Yr) := ⟨rfl, rfl, rfl, by decide +kernel, rfl, by decide +kernel, by decide +kernel⟩
noncomputable abbrev Z6 : Stmt := YH (top 46) 0
theorem sc_World___init__ : FnScope ["self", "year"] ["self", "year"] (Zb Z6) := ⟨rfl, rfl, rfl, by decide +kernel, rfl, by decide +kernel, by decide +kernel⟩
noncomputable abbrev ZT : Stmt := YH (top 46) 2
theorem sc_World_pass_years : FnScope ["self", "many"] ["self", "many"] (Zb ZT) := ⟨rfl, rfl, rfl, by decide +kernel, rfl, by decide +kernel, by decide +kernel⟩
noncomputable abbrev Yt : Stmt := YH (top 46) 3
theorem sc_World_arrive : FnScope ["self", "word", "age"] ["self", "word", "age"] (Zb Yt) := ⟨rfl, rfl, rfl, by decide +kernel, rfl, by decide +kernel, by decide +kernel⟩
noncomputable abbrev YQ : Stmt := YH (top 46) 4
theorem sc_World_birth : FnScope ["self", "name"] ["self", "name"] (Zb YQ) := ⟨rfl, rfl, rfl, by decide +kernel, rfl, by decide +kernel, by decide +kernel⟩
noncomputable abbrev YN : Stmt := YH (top 46) 5
theorem sc_World_death : FnScope ["self", "name"] ["self", "name"] (Zb YN) := ⟨rfl, rfl, rfl, by decide +kernel, rfl, by decide +kernel, by decide +kernel⟩
noncomputable abbrev YO : Stmt := YH (top 46) 6
theorem sc_World_comes : FnScope ["self", "word"] ["self", "word"] (Zb YO) := ⟨rfl, rfl, rfl, by decide +kernel, rfl, by decide +kernel, by decide +kernel⟩
noncomputable abbrev JK : Stmt := top 48
theorem sc_law_num : FnScope ["_law_found"] ["_law_found"] (Zb JK) := ⟨rfl, rfl, rfl, by decide +kernel, rfl, by decide +kernel, by decide +kernel⟩
noncomputable abbrev YJ : Stmt := top 49
theorem sc_law_cell_at : FnScope ["_law_script", "_law_k"] ["_law_script", "_law_k"] (Zb YJ) := ⟨rfl, rfl, rfl, by decide +kernel, rfl, by decide +kernel, by decide +kernel⟩
noncomputable abbrev X3 : Stmt := top 50
theorem sc_law_rich : FnScope ["_law_cell", "_law_place", "_law_one", "_law_two"] ["_law_cell", "_law_place"] (Zb X3) := ⟨rfl, rfl, rfl, by decide +kernel, rfl, by decide +kernel, by decide +kernel⟩
noncomputable abbrev X2 : Stmt := top 51
theorem Y0 : FnScope ["_law_n", "_law_size", "_law_word_here", "_law_k"] ["_law_n"] (Zb X2) := ⟨rfl, rfl, rfl, by decide +kernel, rfl, by decide +kernel, by decide +kernel⟩
noncomputable abbrev XA : Stmt := top 52
theorem sc_law_model : FnScope ["_law_year"] ["_law_year"] (Zb XA) := ⟨rfl, rfl, rfl, by decide +kernel, rfl, by decide +kernel, by decide +kernel⟩
noncomputable abbrev X8 : Stmt := top 53
theorem sc_law_kids : FnScope ["_law_model_here", "_law_name", "_law_found"] ["_law_model_here", "_law_name"] (Zb X8) := ⟨rfl, rfl, rfl, by decide +kernel, rfl, by decide +kernel, by decide +kernel⟩
noncomputable abbrev Xb : Stmt := top 54
theorem sc_law_living : FnScope ["_law_model_here"] ["_law_model_here"] (Zb Xb) := ⟨rfl, rfl, rfl, by decide +kernel, rfl, by decide +kernel, by decide +kernel⟩
noncomputable abbrev X4 : Stmt := top 55
theorem Jj : FnScope ["_law_model_here", "_law_deed", "_law_clock", "_law_born", "_law_dead", "_law_came"] ["_law_model_here", "_law_deed"] (Zb X4) := ⟨rfl, rfl, rfl, by decide +kernel, rfl, by decide +kernel, by decide +kernel⟩
noncomputable abbrev Zw : Stmt := top 56
theorem ZS : FnScope ["_law_model_here", "_law_n", "_law_far", "_law_some", "_law_kind", "_law_word_here", "_law_name"] ["_law_model_here", "_law_n", "_law_far"] (Zb Zw) := ⟨rfl, rfl, rfl, by decide +kernel, rfl, by decide +kernel, by decide +kernel⟩
noncomputable abbrev Xz : Stmt := top 57
theorem Y9 : FnScope ["_law_n", "_law_deeds", "_law_words", "_law_k", "_law_word_here"] ["_law_n"] (Zb Xz) := ⟨rfl, rfl, rfl, by decide +kernel, rfl, by decide +kernel, by decide +kernel⟩
noncomputable abbrev s_law_do : Stmt := top 58
theorem sc_law_do : FnScope ["_law_world", "_law_deed"] ["_law_world", "_law_deed"] (Zb s_law_do) := ⟨rfl, rfl, rfl, by decide +kernel, rfl, by decide +kernel, by decide +kernel⟩
noncomputable abbrev X5 : Stmt := top 59
theorem Y1 : FnScope ["_law_model_here", "_law_n", "_law_names", "_law_name", "_law_k"] ["_law_model_here", "_law_n"] (Zb X5) := ⟨rfl, rfl, rfl, by decide +kernel, rfl, by decide +kernel, by decide +kernel⟩
noncomputable abbrev X6 : Stmt := top 60
theorem sc_law_near : FnScope ["_law_model_here", "_law_name"] ["_law_model_here", "_law_name"] (Zb X6) := ⟨rfl, rfl, rfl, by decide +kernel, rfl, by decide +kernel, by decide +kernel⟩
noncomputable abbrev JL : Stmt := top 61
theorem sc_law_age : FnScope ["_law_model_here", "_law_name"] ["_law_model_here", "_law_name"] (Zb JL) := ⟨rfl, rfl, rfl, by decide +kernel, rfl, by decide +kernel, by decide +kernel⟩
noncomputable abbrev YI : Stmt := top 62
theorem sc_law_members : FnScope ["_law_model_here", "_law_name", "_law_out"] ["_law_model_here", "_law_name", "_law_out"] (Zb YI) := ⟨rfl, rfl, rfl, by decide +kernel, rfl, by decide +kernel, by decide +kernel⟩
noncomputable abbrev Xy : Stmt := top 63
theorem sc_law_young : FnScope ["_law_model_here", "_law_name", "_law_age_here", "_law_out", "_law_some"] ["_law_model_here", "_law_name", "_law_age_here", "_law_out"] (Zb Xy) := ⟨rfl, rfl, rfl, by decide +kernel, rfl, by decide +kernel, by decide +kernel⟩
noncomputable abbrev Xa : Stmt := top 64
theorem sc_law_seated : FnScope ["_law_model_here", "_law_name", "_law_age_here", "_law_out"] ["_law_model_here", "_law_name", "_law_age_here", "_law_out"] (Zb Xa) := ⟨rfl, rfl, rfl, by decide +kernel, rfl, by decide +kernel, by decide +kernel⟩
noncomputable abbrev XB : Stmt := top 65
theorem sc_law_class : FnScope ["_law_model_here", "_law_name", "_law_age_here", "_law_out", "_law_near_here"] ["_law_model_here", "_law_name", "_law_age_here", "_law_out"] (Zb XB) := ⟨rfl, rfl, rfl, by decide +kernel, rfl, by decide +kernel, by decide +kernel⟩
noncomputable abbrev Yn : Stmt := top 66
theorem Y2 : FnScope ["_law_model_here", "_law_n", "_law_name", "_law_age_here", "_law_out"] ["_law_model_here", "_law_n"] (Zb Yn) := ⟨rfl, rfl, rfl, by decide +kernel, rfl, by decide +kernel, by decide +kernel⟩
noncomputable abbrev Z1 : Stmt := top 67
theorem Yl : FnScope ["_law_world", "_law_model_here", "_law_made_here", "_law_told", "_law_k", "_law_name", "_law_age_here", "_law_out", "_law_given", "_law_now", "_law_year", "_law_state"] ["_law_world", "_law_model_here", "_law_made_here", "_law_told"] (Zb Z1) := ⟨rfl, rfl, rfl, by decide +kernel, rfl, by decide +kernel, by decide +kernel⟩
noncomputable abbrev X7 : Stmt := top 68
theorem Xu : FnScope ["_law_model_here", "_law_made_here", "_law_found", "_law_name", "_law_age_here", "_law_out", "_law_one"] ["_law_model_here", "_law_made_here"] (Zb X7) := ⟨rfl, rfl, rfl, by decide +kernel, rfl, by decide +kernel, by decide +kernel⟩
noncomputable abbrev Jk : Stmt := top 69
theorem Jt : FnScope ["_law_script", "_law_made_here", "_law_told", "_law_n", "_law_model_here", "_law_world", "_law_deeds", "_law_k", "_law_m", "_law_deed"] ["_law_script"] (Zb Jk) := ⟨rfl, rfl, rfl, by decide +kernel, rfl, by decide +kernel, by decide +kernel⟩
structure Txt (K : PySem.W.Frag) (g : Ga) (mg : Str → Option Value) : Prop where
  z_isinstance : mg "isinstance" = none
  z_int : mg "int" = none
  z_bool : mg "bool" = none
  z_len : mg "len" = none
  z_range : mg "range" = none
  z_list : mg "list" = none
  z_str : mg "str" = none
  z_min : mg "min" = none
  z_max : mg "max" = none
  z_enumerate : mg "enumerate" = none
  z_ValueError : mg "ValueError" = none
  m_LandError : mg "LandError" = some (.ref g.LandError)
  m_NoText : mg "NoText" = some (.ref g.NoText)
  m_OutOfBound : mg "OutOfBound" = some (.ref g.OutOfBound)
  m_Taken : mg "Taken" = some (.ref g.Taken)
  m_NoPerson : mg "NoPerson" = some (.ref g.NoPerson)
  m_Gone : mg "Gone" = some (.ref g.Gone)
  m_TooDeep : mg "TooDeep" = some (.ref g.TooDeep)
  x_Gone : XAt K g.Gone
  x_NoPerson : XAt K g.NoPerson
  x_NoText : XAt K g.NoText
  x_OutOfBound : XAt K g.OutOfBound
  x_Taken : XAt K g.Taken
  x_TooDeep : XAt K g.TooDeep
  m_Lives : mg "Lives" = some (.ref g.Lives)
  cl_Lives : Cls K g.Lives
  n_Lives_births : Jc K g.Lives "births"
  n_Lives_deaths : Jc K g.Lives "deaths"
  n_Lives_broods : Jc K g.Lives "broods"
  m_World : mg "World" = some (.ref g.World)
  cl_World : Cls K g.World
  n_World_year : Jc K g.World "year"
  n_World_lives : Jc K g.World "lives"
  n_World_happened : Jc K g.World "happened"
  m_MET : mg "MET" = some (.str "met" g.MET)
  m_FAILED : mg "FAILED" = some (.str "failed" g.FAILED)
  m_HANGS : mg "HANGS" = some (.str "hangs" g.HANGS)
  m_LONGEST_WORD : mg "LONGEST_WORD" = some (.int 8 g.LONGEST_WORD)
  m_LONGEST_NUMBER : mg "LONGEST_NUMBER" = some (.int 2 g.LONGEST_NUMBER)
  m_MOST_NUMBERS : mg "MOST_NUMBERS" = some (.int 5 g.MOST_NUMBERS)
  m_BARRED : mg "BARRED" = some (.ref g.BARRED)
  s_BARRED : ∀ H, SqT K H g.BARRED [.str "crown", .str "kids"]
  m_LAST_FIRST_YEAR : mg "LAST_FIRST_YEAR" = some (.int 9999 g.LAST_FIRST_YEAR)
  m_MOST_YEARS : mg "MOST_YEARS" = some (.int 60 g.MOST_YEARS)
  m_OLDEST : mg "OLDEST" = some (.int 120 g.OLDEST)
-- MAC
local macro_rules | `(tactic| walk_at "ss") => `(tactic| first | exact rfl | assumption | exact ZM (Nat.le_of_ble_eq_true rfl) | (show (0 : Int) < _; decide) | exact ⟨by decide, by decide⟩ | exact .inl ⟨by decide, by decide⟩ | exact .inr ⟨by decide, by decide⟩ | exact Yp.k (k := Sum.inr _) (by assumption) | exact SqL.of (by assumption) | exact SqL.of Zc | exact SqT.of Zc | exact SqT.of (by assumption) | exact .inl (SqL.of (by assumption)) | exact .inr (SqT.of (by assumption)) | exact .inl ⟨_, SqL.of (by assumption), rfl⟩ | exact ⟨_, SqL.of (by assumption)⟩ | exact ⟨_, SqL.of Zc⟩ | exact .inl ⟨rfl, _, SqL.of (by assumption)⟩ | exact Txt.cl_Lives (by assumption) | exact Txt.n_Lives_births (by assumption) | exact Txt.n_Lives_deaths (by assumption) | exact Txt.n_Lives_broods (by assumption) | exact Txt.cl_World (by assumption) | exact Txt.n_World_year (by assumption) | exact Txt.n_World_lives (by assumption) | exact Txt.n_World_happened (by assumption) | exact Txt.s_BARRED (by assumption) | decide)
local macro_rules | `(tactic| walk_at "rd") => `(tactic| repeat (first | (apply And.intro; · walk_at "ss") | apply Exists.intro))
local macro_rules | `(tactic| walk_at "go") => `(tactic| repeat (first | (apply And.intro; · walk_at "ss") | ((fail_if_success (show ∃ _ : Nat → Nat → St → Hp → Prop, _)); (fail_if_success (show ∃ _ : Nat → St → Hp → Prop, _)); apply Exists.intro)))
local macro_rules | `(tactic| walk_at "v") => `(tactic| first | exact Or.inl rfl | exact Or.inr (Or.inl rfl) | exact Or.inr (Or.inr rfl))
local macro_rules | `(tactic| walk_at "u") => `(tactic| first | exact .inl rfl | exact .inr rfl | assumption)
local macro_rules | `(tactic| walk_at "n") => `(tactic| first | exact nobehind _ (by decide) (by decide) | rfl)
local macro_rules | `(tactic| walk_at "w") => `(tactic| exact ⟨by rfl, by walk_at "v", by decide, by decide⟩)
-- ENDMAC
theorem qv {X : Cx} (i : Nat) {x : Str} {pos : Pos} (h : X.N[i]? = some x ∧ Vis X.env.scope x ∧ (x == ("__debug__" : Str)) = false ∧ (x == ("__classdict__" : Str)) = false) : PE X (.Name x pos) (tVar i) := @pv X i x pos h.1 h.2.1 h.2.2.1 h.2.2.2

noncomputable def sp_within (K : PySem.W.Frag) (g : Ga) : Sp := fun vs H Q E => ∃ (x : Str) (a b : Nat), vs = [.str x, .str ⟨#[a]⟩, .str ⟨#[b]⟩] ∧ Q (.bl (x.cps.toList.all (inR a b))) H
noncomputable def Jz (K : PySem.W.Frag) (g : Ga) : Sp := fun vs H Q E => ∃ x : Str, vs = [.str x] ∧ x.length ≤ 200 ∧ Q (.bl (gw x)) H
noncomputable def JO (K : PySem.W.Frag) (g : Ga) : Sp := fun vs H Q E => ∃ x : Str, vs = [.str x] ∧ x.length ≤ 200 ∧ Q (.bl (gn x)) H
noncomputable def sp_parts (K : PySem.W.Frag) (g : Ga) : Sp := fun vs H Q E => ∃ x : Str, vs = [.str x] ∧ x.length ≤ 200 ∧ (pok x = false → ∀ H', Zo H H' → E (.ref g.NoText) none H') ∧ (pok x = true → ∀ l H', Zo H H' → H l = none → H' l = some (.lst (pvl x)) → Q (.ref l) H')
noncomputable def sp_shortened (K : PySem.W.Frag) (g : Ga) : Sp := fun vs H Q E => ∃ x : Str, vs = [.str x] ∧ x.length ≤ 200 ∧ ∀ H', Zo H H' → Q (.str (up x)) H'
noncomputable def Z5 (K : PySem.W.Frag) (g : Ga) : Sp := fun vs H Q E => ∃ (b : Addr) (bs ds : List (Str × Int)) (R : List Addr) (n : Str), vs = [.ref b, .str n] ∧ LivesAt g.Lives H b bs ds R ∧ n.length ≤ 200 ∧ (pok n = false → ∀ H', Zo H H' → E (.ref g.NoText) none H') ∧ (pok n = true → ∀ H', Zo H H' → Q (.str (nr bs n)) H')
noncomputable def XW (K : PySem.W.Frag) (g : Ga) : Sp := fun vs H Q E => ∃ (w : Addr) (S : Mo) (R : List Addr) (n : Str), vs = [.ref w, .str n] ∧ WorldAt g H w S R ∧ n.length ≤ 200 ∧ (pok n = false → ∀ H', Zo H H' → E (.ref g.NoText) none H') ∧ (pok n = true → nr S.bs n = ("" : Str) → ∀ H', Zo H H' → E (.ref g.NoPerson) none H') ∧ (pok n = true → nr S.bs n ≠ ("" : Str) → ∀ H', Zo H H' → Q (.str (nr S.bs n)) H')
noncomputable def Ya (K : PySem.W.Frag) (g : Ga) : Sp := fun vs H Q E => ∃ (b : Addr) (bs ds : List (Str × Int)) (R : List Addr) (n : Str), vs = [.ref b, .str n] ∧ LivesAt g.Lives H b bs ds R ∧ Q (.bl (has bs n)) H
noncomputable def ZK (K : PySem.W.Frag) (g : Ga) : Sp := fun vs H Q E => ∃ (b : Addr) (bs ds : List (Str × Int)) (R : List Addr) (n : Str), vs = [.ref b, .str n] ∧ LivesAt g.Lives H b bs ds R ∧ (has bs n = false → E (.ref g.NoPerson) none H) ∧ (has bs n = true → Q .non H)
noncomputable def Xo (K : PySem.W.Frag) (g : Ga) : Sp := fun vs H Q E => ∃ (b : Addr) (bs ds : List (Str × Int)) (R : List Addr) (n : Str) (t : Int), vs = [.ref b, .str n, .int t] ∧ LivesAt g.Lives H b bs ds R ∧ (has bs n = false → E (.ref g.NoPerson) none H) ∧ (∀ y, yr bs n = some y → Q (.int ((yr ds n).getD t - y)) H)
noncomputable def JB (K : PySem.W.Frag) (g : Ga) : Sp := fun vs H Q E => ∃ (w : Addr) (S : Mo) (R : List Addr) (n : Str), vs = [.ref w, .str n] ∧ WorldAt g H w S R ∧ (has S.bs n = false → E (.ref g.NoPerson) none H) ∧ (∀ y, yr S.bs n = some y → Q (.int ((yr S.ds n).getD S.y - y)) H)
noncomputable def Yb (K : PySem.W.Frag) (g : Ga) : Sp := fun vs H Q E => ∃ (b : Addr) (bs ds : List (Str × Int)) (R : List Addr) (n : Str), vs = [.ref b, .str n] ∧ LivesAt g.Lives H b bs ds R ∧ Q (.bl (al bs ds n)) H
noncomputable def JA (K : PySem.W.Frag) (g : Ga) : Sp := fun vs H Q E => ∃ (w : Addr) (S : Mo) (R : List Addr) (n : Str) (a y : Int), vs = [.ref w, .str n, .int a] ∧ WorldAt g H w S R ∧ has S.bs n = true ∧ yr S.bs n = some y ∧ Q (.str (YE S n y a)) H
noncomputable def Jq (K : PySem.W.Frag) (g : Ga) : Sp := fun vs H Q E => ∃ (w : Addr) (S : Mo) (R : List Addr) (p : Addr) (t : Atm) (n : Str), vs = [.ref w, .ref p] ∧ WorldAt g H w S R ∧ H p = some (.tup t.vals) ∧ t.who = some n ∧ n.length ≤ 200 ∧ (∀ e, t.bad S = some e → ∀ H', Zo H H' → E (.ref (e.ad g)) none H') ∧ (t.bad S = none → ∀ H', Zo H H' → Q (.str (t.stand S)) H')
noncomputable def Y7 (K : PySem.W.Frag) (g : Ga) : Sp := fun vs H Q E => ∃ (w : Addr) (S : Mo) (R : List Addr) (n : Str), vs = [.ref w, .str n] ∧ WorldAt g H w S R ∧ Q (((yr S.cs n).map V.int).getD .non) H
noncomputable def J7 (K : PySem.W.Frag) (g : Ga) : Sp := fun vs H Q E => ∃ (w : Addr) (S : Mo) (R : List Addr) (p : Addr) (t : Atm), vs = [.ref w, .ref p] ∧ WorldAt g H w S R ∧ H p = some (.tup t.vals) ∧ (∀ n, t.who = some n → n.length ≤ 200) ∧ (∀ e, t.bad S = some e → ∀ H', Zo H H' → E (.ref (e.ad g)) none H') ∧ (t.bad S = none → ∀ H', Zo H H' → Q (.str (t.stand S)) H')
noncomputable def Y8 (K : PySem.W.Frag) (g : Ga) : Sp := fun vs H Q E => ∃ (b : Addr) (bs ds : List (Str × Int)) (R : List Addr) (n : Str), vs = [.ref b, .str n] ∧ LivesAt g.Lives H b bs ds R ∧ (has bs n = false → E (.ref g.NoPerson) none H) ∧ (has bs n = true → Q (((yr ds n).map V.int).getD .non) H)
noncomputable def Jd (K : PySem.W.Frag) (g : Ga) : Sp := fun vs H Q E => ∃ (w : Addr) (S : Mo) (R : List Addr) (n : Str), vs = [.ref w, .str n] ∧ WorldAt g H w S R ∧ n.length ≤ 200 ∧ pok n = true ∧ has S.bs (nr S.bs n) = true ∧ ∀ H', Zo H H' → Q (((yr S.ds (nr S.bs n)).map V.int).getD .non) H'
noncomputable def XZ (K : PySem.W.Frag) (g : Ga) : Sp := fun vs H Q E => ∃ (b : Addr) (bs ds : List (Str × Int)) (R : List Addr) (n : Str), vs = [.ref b, .str n] ∧ LivesAt g.Lives H b bs ds R ∧ (has bs n = false → E (.ref g.NoPerson) none H) ∧ (∀ y, yr bs n = some y → Q (.int y) H)
noncomputable def sp_met_since (K : PySem.W.Frag) (g : Ga) : Sp := fun vs H Q E => ∃ (w : Addr) (S : Mo) (R : List Addr) (p : Addr) (t : Atm), vs = [.ref w, .ref p] ∧ WorldAt g H w S R ∧ H p = some (.tup t.vals) ∧ (∀ n, t.who = some n → has S.bs n = true) ∧ Q (t.met S) H
noncomputable def J8 (K : PySem.W.Frag) (g : Ga) : Sp := fun vs H Q E => ∃ (w : Addr) (S : Mo) (R : List Addr) (p : Addr) (t : Atm), vs = [.ref w, .ref p] ∧ WorldAt g H w S R ∧ H p = some (.tup t.vals) ∧ (∀ n, t.who = some n → n.length ≤ 200) ∧ (∀ e, t.bad S = some e → ∀ H', Zo H H' → E (.ref (e.ad g)) none H') ∧ (t.bad S = none → ∀ H', Zo H H' → Q (t.since S) H')
noncomputable def XM (K : PySem.W.Frag) (g : Ga) : Sp := fun vs H Q E => ∃ (b : Addr) (bs ds : List (Str × Int)) (R : List Addr) (n : Str), vs = [.ref b, .str n] ∧ LivesAt g.Lives H b bs ds R ∧ (has bs n = false → E (.ref g.NoPerson) none H) ∧ (has bs n = true → ∀ l H', Zo H H' → H l = none → H' l = some (.lst (Jo n (nk bs n))) → Q (.ref l) H')
noncomputable def sp_brood (K : PySem.W.Frag) (g : Ga) : Sp := fun vs H Q E => ∃ (w : Addr) (S : Mo) (R : List Addr) (n : Str), vs = [.ref w, .str n] ∧ WorldAt g H w S R ∧ ∀ l H', Zo H H' → H l = none → H' l = some (.lst ((ZQ S n).map V.str)) → Q (.ref l) H'
noncomputable def XX (K : PySem.W.Frag) (g : Ga) : Sp := fun vs H Q E => ∃ (w : Addr) (S : Mo) (R : List Addr) (n : Str) (o : Addr) (os : List Str), vs = [.ref w, .str n, .ref o] ∧ WorldAt g H w S R ∧ SqL K H o (os.map V.str) ∧ S.bs.length ≤ 900 ∧ ∀ l H', Zo H H' → H l = none → H' l = some (.lst ((YZ S n os).map V.str)) → Q (.ref l) H'
noncomputable def sp_seats (K : PySem.W.Frag) (g : Ga) : Sp := fun vs H Q E => ∃ (w : Addr) (S : Mo) (R : List Addr) (n : Str) (a : Int) (o : Addr) (os : List Str), vs = [.ref w, .str n, .int a, .ref o] ∧ WorldAt g H w S R ∧ SqL K H o (os.map V.str) ∧ S.bs.length ≤ 900 ∧ ∀ l H', Zo H H' → H l = none → H' l = some (.lst ((XQ S n a os).map V.str)) → Q (.ref l) H'
noncomputable def sp_has_seat (K : PySem.W.Frag) (g : Ga) : Sp := fun vs H Q E => ∃ (w : Addr) (S : Mo) (R : List Addr) (n : Str) (a : Int) (o : Addr) (os : List Str), vs = [.ref w, .str n, .int a, .ref o] ∧ WorldAt g H w S R ∧ SqL K H o (os.map V.str) ∧ S.bs.length ≤ 900 ∧ ∀ H', Zo H H' → Q (.bl (Jf S n a os)) H'
noncomputable def sp_waiting (K : PySem.W.Frag) (g : Ga) : Sp := fun vs H Q E => ∃ (w : Addr) (S : Mo) (R : List Addr) (n : Str) (a : Int) (o : Addr) (os : List Str), vs = [.ref w, .str n, .int a, .ref o] ∧ WorldAt g H w S R ∧ SqL K H o (os.map V.str) ∧ S.bs.length ≤ 900 ∧ ∀ l H', Zo H H' → H l = none → H' l = some (.lst ((Xg S n a os).map V.str)) → Q (.ref l) H'
noncomputable def sp_may_grow (K : PySem.W.Frag) (g : Ga) : Sp := fun vs H Q E => ∃ (w : Addr) (S : Mo) (R : List Addr) (n : Str), vs = [.ref w, .str n] ∧ WorldAt g H w S R ∧ pok n = true ∧ ∀ H', Zo H H' → Q (.bl (al S.bs S.ds (nr S.bs n))) H'
noncomputable def XI (K : PySem.W.Frag) (g : Ga) : Sp := fun vs H Q E => ∃ (w : Addr) (S : Mo) (R : List Addr) (n : Str) (a : Int) (o : Addr) (os : List Str), vs = [.ref w, .str n, .int a, .ref o] ∧ WorldAt g H w S R ∧ SqL K H o (os.map V.str) ∧ S.bs.length ≤ 900 ∧ pok n = true ∧ ∀ H', Zo H H' → Q (.str (clS S n a os)) H'
noncomputable def JP (K : PySem.W.Frag) (g : Ga) : Sp := fun vs H Q E => ∃ (w : Addr) (S : Mo) (R : List Addr) (n : Str) (a : Int) (o : Addr) (os : List Str) (day : Int), vs = [.ref w, .str n, .int a, .ref o, .int day] ∧ WorldAt g H w S R ∧ SqL K H o (os.map V.str) ∧ S.bs.length ≤ 98 ∧ okN S n ∧ 0 ≤ a ∧ a ≤ 120 ∧ (clS S n a os = "hangs" → ∀ H', Zo H H' → Q .non H') ∧ (∀ M H', Csin S n a os day M → Zo H H' → Q (.int M) H')
noncomputable def Jy (K : PySem.W.Frag) (g : Ga) : Sp := fun vs H Q E => ∃ x : Str, vs = [.str x] ∧ x.length ≤ 200 ∧ (gw x = false → E (.ref g.NoText) none H) ∧ (gw x = true → Q .non H)
noncomputable def XN (K : PySem.W.Frag) (g : Ga) : Sp := fun vs H Q E => ∃ (b dx : Addr), vs = [.ref b] ∧ H b = some (.ins g.Lives dx []) ∧ ∀ R H', ZD [b] H H' → (∀ a ∈ R, a = b ∨ H a = none) → LivesAt g.Lives H' b [] [] R → Q .non H'
noncomputable def XL (K : PySem.W.Frag) (g : Ga) : Sp := fun vs H Q E => ∃ (b d1 d2 d3 : Addr) (bs ds : List (Str × Int)) (ws : List (Str × Addr × Nat)) (n : Str) (y : Int), vs = [.ref b, .str n, .int y] ∧ Book g.Lives H b d1 d2 d3 bs ds ws ∧ has bs n = false ∧ Y6 (brs ws) (Sum.inr n : Key) = none ∧ bs.length ≤ 900 ∧ ws.length ≤ 900 ∧ ∀ l H', H l = none → ZD [d1, d3] H H' → Book g.Lives H' b d1 d2 d3 (bs ++ [(n, y)]) ds (ws ++ [(n, l, 0)]) → Q .non H'
noncomputable def Yq (K : PySem.W.Frag) (g : Ga) : Sp := fun vs H Q E => ∃ (b : Addr) (bs ds : List (Str × Int)) (R : List Addr) (n : Str), vs = [.ref b, .str n] ∧ LivesAt g.Lives H b bs ds R ∧ (has bs n = false → E (.ref g.NoPerson) none H) ∧ (has bs n = true → has ds n = true → E (.ref g.Gone) none H) ∧ (has bs n = true → has ds n = false → Q .non H)
noncomputable def Js (K : PySem.W.Frag) (g : Ga) : Sp := fun vs H Q E => ∃ (b : Addr) (bs ds : List (Str × Int)) (R : List Addr) (n : Str) (y : Int), vs = [.ref b, .str n, .int y] ∧ LivesAt g.Lives H b bs ds R ∧ n.length ≤ 200 ∧ bs.length < 800 ∧ (gw n = false → E (.ref g.NoText) none H) ∧ (gw n = true → has bs n = true → E (.ref g.Taken) none H) ∧ (gw n = true → has bs n = false → ∀ R' H', ZD R H H' → Y5 H R R' → LivesAt g.Lives H' b (bs ++ [(n, y)]) ds R' → Q .non H')
noncomputable def JU (K : PySem.W.Frag) (g : Ga) : Sp := fun vs H Q E => ∃ (b : Addr) (bs ds : List (Str × Int)) (R : List Addr) (n : Str) (y : Int), vs = [.ref b, .str n, .int y] ∧ LivesAt g.Lives H b bs ds R ∧ bs.length < 800 ∧ nk bs n < 99 ∧ (has bs n = false → E (.ref g.NoPerson) none H) ∧ (has bs n = true → has ds n = true → E (.ref g.Gone) none H) ∧ (has bs n = true → has ds n = false → 5 ≤ dots n → E (.ref g.TooDeep) none H) ∧ (has bs n = true → has ds n = false → dots n < 5 → ∀ R' H', ZD R H H' → Y5 H R R' → LivesAt g.Lives H' b (bs ++ [(kid n (nk bs n), y)]) ds R' → Q (.str (kid n (nk bs n))) H')
noncomputable def JT (K : PySem.W.Frag) (g : Ga) : Sp := fun vs H Q E => ∃ (b : Addr) (bs ds : List (Str × Int)) (R : List Addr) (n : Str) (y : Int), vs = [.ref b, .str n, .int y] ∧ LivesAt g.Lives H b bs ds R ∧ ds.length < 800 ∧ (has bs n = false → E (.ref g.NoPerson) none H) ∧ (has bs n = true → has ds n = true → E (.ref g.Gone) none H) ∧ (has bs n = true → has ds n = false → ∀ H', ZD R H H' → LivesAt g.Lives H' b bs (ds ++ [(n, y)]) R → Q .non H')
noncomputable def sp_Lives_names (K : PySem.W.Frag) (g : Ga) : Sp := fun vs H Q E => ∃ (b : Addr) (bs ds : List (Str × Int)) (R : List Addr), vs = [.ref b] ∧ LivesAt g.Lives H b bs ds R ∧ ∀ l H', Zo H H' → H l = none → H' l = some (.lst (bs.map fun p => V.str p.1)) → Q (.ref l) H'
noncomputable def sp_Lives_living (K : PySem.W.Frag) (g : Ga) : Sp := fun vs H Q E => ∃ (b : Addr) (bs ds : List (Str × Int)) (R : List Addr), vs = [.ref b] ∧ LivesAt g.Lives H b bs ds R ∧ ∀ l H', Zo H H' → H l = none → H' l = some (.lst ((bs.filter fun p => !has ds p.1).map fun p => V.str p.1)) → Q (.ref l) H'
noncomputable def sp_Lives_never (K : PySem.W.Frag) (g : Ga) : Sp := fun vs H Q E => ∃ (b : Addr) (bs ds : List (Str × Int)) (R : List Addr) (n : Str), vs = [.ref b, .str n] ∧ LivesAt g.Lives H b bs ds R ∧ n.length ≤ 200 ∧ (has bs n = false → pok n = false → ∀ H', Zo H H' → E (.ref g.NoText) none H') ∧ (pok n = true → ∀ H', Zo H H' → Q (.bl (nv8 bs ds n)) H')
noncomputable def YF (K : PySem.W.Frag) (g : Ga) : Sp := fun vs H Q E => ∃ n lo hi : Int, vs = [.int n, .int lo, .int hi] ∧ (¬ (lo ≤ n ∧ n ≤ hi) → E (.ref g.OutOfBound) none H) ∧ (lo ≤ n ∧ n ≤ hi → Q .non H)
noncomputable def XJ (K : PySem.W.Frag) (g : Ga) : Sp := fun vs H Q E => ∃ (w dx : Addr) (y : Int), vs = [.ref w, .int y] ∧ H w = some (.ins g.World dx []) ∧ (¬ (0 ≤ y ∧ y ≤ 9999) → E (.ref g.OutOfBound) none H) ∧ (0 ≤ y ∧ y ≤ 9999 → ∀ R H', ZD [w] H H' → (∀ a ∈ R, a = w ∨ H a = none) → WorldAt g H' w (mo0 y) R → Q .non H')
noncomputable def Xi (K : PySem.W.Frag) (g : Ga) : Sp := fun vs H Q E => ∃ (w : Addr) (S : Mo) (R : List Addr) (k : Int), vs = [.ref w, .int k] ∧ WorldAt g H w S R ∧ (¬ (1 ≤ k ∧ k ≤ 60) → E (.ref g.OutOfBound) none H) ∧ (1 ≤ k ∧ k ≤ 60 → ∀ H', ZD R H H' → WorldAt g H' w { S with y := S.y + k } R → Q .non H')
noncomputable def Jr (K : PySem.W.Frag) (g : Ga) : Sp := fun vs H Q E => ∃ (w : Addr) (S : Mo) (R : List Addr) (n : Str) (a : Int), vs = [.ref w, .str n, .int a] ∧ WorldAt g H w S R ∧ n.length ≤ 200 ∧ S.bs.length < 800 ∧ (¬ (0 ≤ a ∧ a ≤ 120) → E (.ref g.OutOfBound) none H) ∧ (0 ≤ a ∧ a ≤ 120 → gw n = false → E (.ref g.NoText) none H) ∧ (0 ≤ a ∧ a ≤ 120 → gw n = true → has S.bs n = true → E (.ref g.Taken) none H) ∧ (0 ≤ a ∧ a ≤ 120 → gw n = true → has S.bs n = false → ∀ R' H', ZD R H H' → Y5 H R R' → WorldAt g H' w (S.step (.arrive n a)) R' → Q .non H')
noncomputable def JS (K : PySem.W.Frag) (g : Ga) : Sp := fun vs H Q E => ∃ (w : Addr) (S : Mo) (R : List Addr) (n : Str), vs = [.ref w, .str n] ∧ WorldAt g H w S R ∧ S.bs.length < 800 ∧ nk S.bs n < 99 ∧ (has S.bs n = false → E (.ref g.NoPerson) none H) ∧ (has S.bs n = true → has S.ds n = true → E (.ref g.Gone) none H) ∧ (has S.bs n = true → has S.ds n = false → 5 ≤ dots n → E (.ref g.TooDeep) none H) ∧ (has S.bs n = true → has S.ds n = false → dots n < 5 → ∀ R' H', ZD R H H' → Y5 H R R' → WorldAt g H' w (S.step (.birth n)) R' → Q (.str (kid n (nk S.bs n))) H')
noncomputable def JQ (K : PySem.W.Frag) (g : Ga) : Sp := fun vs H Q E => ∃ (w : Addr) (S : Mo) (R : List Addr) (n : Str), vs = [.ref w, .str n] ∧ WorldAt g H w S R ∧ S.ds.length < 800 ∧ (has S.bs n = false → E (.ref g.NoPerson) none H) ∧ (has S.bs n = true → has S.ds n = true → E (.ref g.Gone) none H) ∧ (has S.bs n = true → has S.ds n = false → ∀ H', ZD R H H' → WorldAt g H' w (S.step (.death n)) R → Q .non H')
noncomputable def JR (K : PySem.W.Frag) (g : Ga) : Sp := fun vs H Q E => ∃ (w : Addr) (S : Mo) (R : List Addr) (n : Str), vs = [.ref w, .str n] ∧ WorldAt g H w S R ∧ n.length ≤ 200 ∧ S.cs.length < 800 ∧ (gw n = false → E (.ref g.NoText) none H) ∧ (gw n = true → has S.cs n = true → E (.ref g.Taken) none H) ∧ (gw n = true → has S.cs n = false → ∀ H', ZD R H H' → WorldAt g H' w (S.step (.comes n)) R → Q .non H')
noncomputable def sp_law_num (K : PySem.W.Frag) (g : Ga) : Sp := fun vs H Q E => ∃ i : Int, vs = [.int i] ∧ Q (.bl true) H
noncomputable def JN (K : PySem.W.Frag) (g : Ga) : Sp := fun vs H Q E => ∃ (a : Addr) (ns : List Int) (k : Int), vs = [.ref a, .int k] ∧ SqL K H a (ns.map V.int) ∧ 0 ≤ k ∧ ∀ c : Int, Q (.int c) H
noncomputable def sp_law_rich (K : PySem.W.Frag) (g : Ga) : Sp := fun vs H Q E => ∃ c p : Int, vs = [.int c, .int p] ∧ ∀ r : Int, Q (.int r) H
noncomputable def J3 (K : PySem.W.Frag) (g : Ga) : Sp := fun vs H Q E => ∃ n : Int, vs = [.int n] ∧ ∀ z : Str, gw z = true → Q (.str z) H
noncomputable def sp_law_model (K : PySem.W.Frag) (g : Ga) : Sp := fun vs H Q E => ∃ y : Int, vs = [.int y] ∧ ∀ m R H', Zo H H' → (∀ a ∈ R, H a = none) → YD H' m (mo0 y) R → Q (.ref m) H'
noncomputable def Xt (K : PySem.W.Frag) (g : Ga) : Sp := fun vs H Q E => ∃ (m : Addr) (S : Mo) (R : List Addr) (n : Str), vs = [.ref m, .str n] ∧ YD H m S R ∧ Wf S.bs S.ds ∧ n.length ≤ 200 ∧ nk S.bs n ≤ 100 ∧ ∀ l H', Zo H H' → H l = none → H' l = some (.lst (Jo n (nk S.bs n))) → Q (.ref l) H'
noncomputable def J6 (K : PySem.W.Frag) (g : Ga) : Sp := fun vs H Q E => ∃ (m : Addr) (S : Mo) (R : List Addr), vs = [.ref m] ∧ YD H m S R ∧ S.bs.length ≤ 900 ∧ ∀ l H', Zo H H' → H l = none → H' l = some (.lst (livV S.bs S.ds)) → Q (.ref l) H'
noncomputable def sp_law_play (K : PySem.W.Frag) (g : Ga) : Sp := fun vs H Q E => ∃ (m : Addr) (S : Mo) (R : List Addr) (p : Addr) (d : Deed) (far : Int) (k : Nat), vs = [.ref m, .ref p] ∧ YD H m S R ∧ H p = some (.tup d.vals) ∧ S.Ok k ∧ k < 98 ∧ S.good far d ∧ ∀ H', ZD R H H' → YD H' m (S.step d) R → Q .non H'
noncomputable def XY (K : PySem.W.Frag) (g : Ga) : Sp := fun vs H Q E => ∃ (m : Addr) (S : Mo) (R : List Addr) (n far : Int), vs = [.ref m, .int n, .int far] ∧ YD H m S R ∧ S.bs.length ≤ 900 ∧ 0 < far ∧ (∀ d p H', S.good far d → Zo H H' → H p = none → H' p = some (.tup d.vals) → Q (.ref p) H')
noncomputable def sp_law_start (K : PySem.W.Frag) (g : Ga) : Sp := fun vs H Q E => ∃ n : Int, vs = [.int n] ∧ ∀ l was ps H', Zo H H' → (∀ a ∈ l :: ps, H a = none) → First was → was ≠ [] → DeedsAt H' l (was.map arr) ps → Q (.ref l) H'
noncomputable def sp_law_do (K : PySem.W.Frag) (g : Ga) : Sp := fun vs H Q E => ∃ (w : Addr) (S : Mo) (R : List Addr) (p : Addr) (d : Deed) (far : Int) (k : Nat), vs = [.ref w, .ref p] ∧ WorldAt g H w S R ∧ H p = some (.tup d.vals) ∧ S.Ok k ∧ k < 98 ∧ S.good far d ∧ far ≤ 60 ∧ ∀ v R' H', ZD R H H' → Y5 H R R' → WorldAt g H' w (S.step d) R' → Q v H'
noncomputable def sp_law_path (K : PySem.W.Frag) (g : Ga) : Sp := fun vs H Q E => ∃ (m : Addr) (S : Mo) (R : List Addr) (n : Int), vs = [.ref m, .int n] ∧ YD H m S R ∧ Wf S.bs S.ds ∧ S.bs.length ≤ 98 ∧ Root S ∧ ∀ z H', Zo H H' → pok z = true → nr S.bs z ≠ Str.empty → Q (.str z) H'
noncomputable def sp_law_near (K : PySem.W.Frag) (g : Ga) : Sp := fun vs H Q E => ∃ (m : Addr) (S : Mo) (RM : List Addr) (n : Str), vs = [.ref m, .str n] ∧ YD H m S RM ∧ n.length ≤ 200 ∧ Q (.str (nr S.bs n)) H
noncomputable def sp_law_age (K : PySem.W.Frag) (g : Ga) : Sp := fun vs H Q E => ∃ (m : Addr) (S : Mo) (R : List Addr) (n : Str) (y : Int), vs = [.ref m, .str n] ∧ YD H m S R ∧ yr S.bs n = some y ∧ Q (.int ((yr S.ds n).getD S.y - y)) H
noncomputable def XH (K : PySem.W.Frag) (g : Ga) : Sp := fun vs H Q E => ∃ (m : Addr) (S : Mo) (R : List Addr) (n : Str) (o : Addr) (os : List Str), vs = [.ref m, .str n, .ref o] ∧ YD H m S R ∧ SqL K H o (os.map V.str) ∧ Wf S.bs S.ds ∧ S.bs.length ≤ 98 ∧ n.length ≤ 200 ∧ ∀ l H', Zo H H' → H l = none → H' l = some (.lst ((YZ S n os).map V.str)) → Q (.ref l) H'
noncomputable def sp_law_young (K : PySem.W.Frag) (g : Ga) : Sp := fun vs H Q E => ∃ (m : Addr) (S : Mo) (R : List Addr) (n : Str) (a : Int) (o : Addr) (os : List Str), vs = [.ref m, .str n, .int a, .ref o] ∧ YD H m S R ∧ SqL K H o (os.map V.str) ∧ Wf S.bs S.ds ∧ S.bs.length ≤ 98 ∧ n.length ≤ 200 ∧ ∀ l H', Zo H H' → H l = none → H' l = some (.lst ((Xg S n a os).map V.str)) → Q (.ref l) H'
noncomputable def J5 (K : PySem.W.Frag) (g : Ga) : Sp := fun vs H Q E => ∃ (m : Addr) (S : Mo) (R : List Addr) (n : Str) (a : Int) (o : Addr) (os : List Str), vs = [.ref m, .str n, .int a, .ref o] ∧ YD H m S R ∧ SqL K H o (os.map V.str) ∧ Wf S.bs S.ds ∧ S.bs.length ≤ 98 ∧ n.length ≤ 200 ∧ ∀ l H', Zo H H' → H l = none → H' l = some (.lst ((XQ S n a os).map V.str)) → Q (.ref l) H'
noncomputable def sp_law_class (K : PySem.W.Frag) (g : Ga) : Sp := fun vs H Q E => ∃ (m : Addr) (S : Mo) (R : List Addr) (n : Str) (a : Int) (o : Addr) (os : List Str), vs = [.ref m, .str n, .int a, .ref o] ∧ YD H m S R ∧ SqL K H o (os.map V.str) ∧ Wf S.bs S.ds ∧ S.bs.length ≤ 98 ∧ okN S n ∧ ∀ H', Zo H H' → Q (.str (clS S n a os)) H'
noncomputable def sp_law_made (K : PySem.W.Frag) (g : Ga) : Sp := fun vs H Q E => ∃ (m : Addr) (S : Mo) (R : List Addr) (n : Int), vs = [.ref m, .int n] ∧ YD H m S R ∧ Wf S.bs S.ds ∧ S.bs.length ≤ 98 ∧ Root S ∧ ∀ x a o p H', Zo H H' → H o = none → H p = none → Cl.ok S ⟨x, a, outL S x, 0⟩ → H' o = some (.lst ((outL S x).map V.str)) → H' p = some (.tup [.str x, .int a, .ref o]) → Q (.ref p) H'
noncomputable def sp_law_fits (K : PySem.W.Frag) (g : Ga) : Sp := fun vs H Q E => ∃ (w m : Addr) (S : Mo) (R RM : List Addr) (lm lt : Addr) (cs : List Cl) (qs : List (Addr × Addr)) (td : List Td), vs = [.ref w, .ref m, .ref lm, .ref lt] ∧ WorldAt g H w S R ∧ YD H m S RM ∧ S.bs.length ≤ 98 ∧ MadeAt (fun _ => []) H lm cs qs ∧ (∀ c ∈ cs, c.ok S) ∧ cs.length ≤ 200 ∧ ToldAt H lt td ∧ lt ∉ R ∧ lt ∉ RM ∧ lt ∉ rgn lm qs ∧ td.length ≤ cs.length ∧ (∀ (k : Nat) (t : Td) (c : Cl), td[k]? = some t → cs[k]? = some c → t.s = "hangs" ∨ Wc S c t.s t.v t.ss) ∧ ∀ (td' : List Td) H', ZD [lt] H H' → ToldAt H' lt td' → (∀ x ∈ trg lt td', x ∈ trg lt td ∨ H x = none) → td'.length = cs.length → (∀ (k : Nat) (t : Td) (c : Cl), td'[k]? = some t → cs[k]? = some c → Wc S c t.s t.v t.ss) → Q (.bl true) H'
noncomputable def sp_law_last (K : PySem.W.Frag) (g : Ga) : Sp := fun vs H Q E => ∃ (m : Addr) (S : Mo) (R : List Addr) (lm : Addr) (cs : List Cl) (qs : List (Addr × Addr)), vs = [.ref m, .ref lm] ∧ YD H m S R ∧ Wf S.bs S.ds ∧ S.bs.length ≤ 98 ∧ MadeAt (fun _ => []) H lm cs qs ∧ (∀ c ∈ cs, c.ok S) ∧ cs.length ≤ 200 ∧ ∀ (l : Addr) (dl : List Str) (ps : List Addr) H', Zo H H' → (∀ a ∈ l :: ps, H a = none) → (dl.Nodup ∧ ∀ n ∈ dl, has S.bs n = true ∧ has S.ds n = false) → DeedsAt H' l (dl.map Deed.death ++ [.years 60, .years 60]) ps → Q (.ref l) H'
noncomputable def sp_law (K : PySem.W.Frag) (g : Ga) : Sp := fun vs H Q E => ∃ (a : Addr) (ns : List Int), vs = [.ref a] ∧ SqL K H a (ns.map V.int) ∧ ns.length ≤ 63 ∧ ∀ H', Q (.bl true) H'
section
variable {P : Program} {w0 : World} {K : PySem.W.Frag} {g : Ga} {mg : Str → Option Value} {base : Heap}
theorem ok_within {f : Addr} {fd : FuncData} (F : Fun K "within" "within" s_within f fd) (T : Txt K g mg)  : FnOk P w0 K mg base CX0 1 f fd ["text", "low", "high"] (sp_within K g) := by
  refine F.ok sc_within (fun vs H Q E h => ?_) (fun cdv A outer s H vs Q E hr h => ?_)
  · obtain ⟨x, a, b, rfl, _⟩ := h
    rfl
  obtain ⟨x, a, b, rfl, q⟩ := h
  refine ⟨_, (
(@Ze _ _ _ _ _ (@JW _ _ _ _ _ _ _ _ PassesOwn.never rfl (@pi_str _ _ _ _ (@qv _ 0 _ _ (by walk_at "w"))) (@ZP _ _ (3) _ sc_within.nd rfl (Or.inl rfl) (by walk_at "u")) (@Zf _ _ _ (@ZA _ _ _ _ _ _ _ _ (@PW.pt _ _ _ (@pw_or _ _ _ _ _ _ _ (@Zl _ _ _ _ _ _ _ _ (@op_lt_str _) (@qv _ 3 _ _ (by walk_at "w")) (@qv _ 1 _ _ (by walk_at "w")) (Zr _)) (@pw_or1 _ _ _ _ (@Zl _ _ _ _ _ _ _ _ (@op_gt_str _) (@qv _ 3 _ _ (by walk_at "w")) (@qv _ 2 _ _ (by walk_at "w")) (Zr _))))) (@Zf _ _ _ (@Zk _ _ _ _ (@pe_bl _ _ _ _))) (@Zp _))) (by intro _ ; rfl)) (@Zf _ _ _ (@Zk _ _ _ _ (@pe_bl _ _ _ _))))), ?_⟩
  have fin : ∀ v, v = x.cps.toList.all (inR a b) → Q (.bl v) H := fun v hv => by rw [hv]; exact q
  refine ⟨_, rfl, x, rfl, for_str (fun i σ H2 => H2 = H ∧ (x.cps.toList.take i).all (inR a b) = true ∧ ∃ v, σ = [some (.str x), some (.str ⟨#[a]⟩), some (.str ⟨#[b]⟩), v]) ⟨rfl, rfl, _, rfl⟩ ?_ ?_⟩
  · rintro i c σ H2 hc ⟨rfl, ha, v, rfl⟩
    refine ⟨_, rfl, _, rfl, _, _, rfl, rfl, _, rfl, ?_⟩
    refine YA (fun e => YY ?_) (fun e => ?_)
    · have e' : c < a := (lt_one c a).mp (of_decide_eq_true e)
      exact fin _ (all_not hc (by unfold inR; rw [decide_eq_false (by omega)]; rfl)).symm
    · have e' : ¬ c < a := fun z => e (decide_eq_true ((lt_one c a).mpr z))
      refine ⟨_, rfl, _, rfl, _, _, rfl, rfl, _, rfl, ?_⟩
      refine YA (fun f => ?_) (fun f => ?_)
      · have f' : b < c := (lt_one b c).mp (of_decide_eq_true f)
        exact fin _ (all_not hc (by unfold inR; rw [decide_eq_false (show ¬ c ≤ b by omega), Bool.and_false])).symm
      · have f' : ¬ b < c := fun z => f (decide_eq_true ((lt_one b c).mpr z))
        exact ⟨rfl, all_take ha hc (by unfold inR; rw [decide_eq_true (show a ≤ c by omega), decide_eq_true (show c ≤ b by omega)]; rfl), _, rfl⟩
  · rintro σ H2 ⟨rfl, ha, v, rfl⟩
    rw [List.take_length] at ha
    exact fin _ ha.symm
theorem ok_good_word {f : Addr} {fd : FuncData} (F : Fun K "good_word" "good_word" XC f fd) (T : Txt K g mg) (D_within : Dn P w0 K mg base 1 "within" ["text", "low", "high"] (sp_within K g)) : FnOk P w0 K mg base CX0 2 f fd ["word"] (Jz K g) := by
  refine F.ok sc_good_word (fun vs H Q E h => ?_) (fun cdv A outer s H vs Q E hr h => ?_)
  · obtain ⟨x, rfl, _⟩ := h
    rfl
  obtain ⟨x, rfl, hx, q⟩ := h
  refine ⟨_, (
(@Zf _ _ _ (@Zk _ _ _ _ (@pe_and _ _ _ _ _ _ _ (@pe_chain _ _ _ _ _ _ _ _ _ _ _ _ (@op_le _) (@op_le _) (@Zh _ _ _ _) (@ZC _ _ _ _ _ _ _ _ _ (@ZJ _) rfl T.z_len PySem.boot_len (@Za _ _ _ _ _ (@qv _ 0 _ _ (by walk_at "w")) (@Zd _) (by rfl)) (by decide) (by decide) (by rfl) (by rfl)) (@ZL _ _ (.int 8) _ _ rfl T.m_LONGEST_WORD ⟨_, rfl⟩ (by decide)) (by with_unfolding_all rfl)) (@pe_and _ _ _ _ _ _ _ (@Zy _ _ _ _ _ _ _ _ _ _ D_within (hr.mono (by decide)) (@Za _ _ _ _ _ (@qv _ 0 _ _ (by walk_at "w")) (@Za _ _ _ _ _ (@Zn _ _ _ _) (@Za _ _ _ _ _ (@Zn _ _ _ _) (@Zd _) (by rfl)) (by rfl)) (by rfl)) (by rfl) (by decide) (by rfl) (by rfl)) (@pe_one _ _ _ _ _ (@pe_cmpR _ _ _ _ _ _ _ _ (@op_notIn_seq _) (@qv _ 0 _ _ (by walk_at "w")) (@ZL _ _ (.ref g.BARRED) _ _ rfl T.m_BARRED rfl (by decide)) rfl))))))), ?_⟩
  have fin : ∀ v, v = gw x → Q (.bl v) H := fun v hv => by rw [hv]; exact q
  refine ⟨_, rfl, _, _, rfl, ⟨ZM (by omega), rfl⟩, _, _, rfl, rfl, _, rfl, ?_⟩
  refine YA (fun c => ?_) (fun c => ?_)
  · have c' : 1 ≤ x.length := by have := of_decide_eq_true c; omega
    refine ⟨_, _, rfl, rfl, _, rfl, ?_⟩
    refine YA (fun d => ?_) (fun d => ?_)
    · have d' : x.length ≤ 8 := by have := of_decide_eq_true d; omega
      refine ⟨_, rfl, x, 97, 122, rfl, _, rfl, ?_⟩
      refine YA (fun e => ?_) (fun e => ?_)
      · refine ⟨_, rfl, g.BARRED, _, rfl, .inr (T.s_BARRED _), rfl, rfl, fin _ ?_⟩
        unfold gw
        rw [decide_eq_true c', decide_eq_true d', e]
        show (!(eqV (.str "crown") (.str x) || (eqV (.str "kids") (.str x) || false))) = _
        show (!(("crown" : Str) == x || (("kids" : Str) == x || false))) = (!(decide (x = "crown") || decide (x = "kids")))
        rw [Bool.or_false, beq_dec, beq_dec]
      · refine fin _ ?_
        unfold gw
        rw [Bool.eq_false_iff.mpr e, Bool.and_false]
        rfl
    · refine fin _ ?_
      unfold gw
      rw [decide_eq_false (show ¬ x.length ≤ 8 from fun z => d (decide_eq_true (by omega))), Bool.and_false]
      rfl
  · refine ⟨_, rfl, Yf ?_⟩
    refine fin _ ?_
    unfold gw
    rw [decide_eq_false (show ¬ 1 ≤ x.length from fun z => c (decide_eq_true (by omega)))]
    rfl
theorem ok_good_number {f : Addr} {fd : FuncData} (F : Fun K "good_number" "good_number" YK f fd) (T : Txt K g mg) (D_within : Dn P w0 K mg base 1 "within" ["text", "low", "high"] (sp_within K g)) : FnOk P w0 K mg base CX0 2 f fd ["text"] (JO K g) := by
  refine F.ok sc_good_number (fun vs H Q E h => ?_) (fun cdv A outer s H vs Q E hr h => ?_)
  · obtain ⟨x, rfl, _⟩ := h
    rfl
  obtain ⟨x, rfl, hx, q⟩ := h
  refine ⟨_, (
(@Zf _ _ _ (@Zk _ _ _ _ (@pe_and _ _ _ _ _ _ _ (@pe_chain _ _ _ _ _ _ _ _ _ _ _ _ (@op_le _) (@op_le _) (@Zh _ _ _ _) (@ZC _ _ _ _ _ _ _ _ _ (@ZJ _) rfl T.z_len PySem.boot_len (@Za _ _ _ _ _ (@qv _ 0 _ _ (by walk_at "w")) (@Zd _) (by rfl)) (by decide) (by decide) (by rfl) (by rfl)) (@ZL _ _ (.int 2) _ _ rfl T.m_LONGEST_NUMBER ⟨_, rfl⟩ (by decide)) (by with_unfolding_all rfl)) (@pe_and _ _ _ _ _ _ _ (@Zy _ _ _ _ _ _ _ _ _ _ D_within (hr.mono (by decide)) (@Za _ _ _ _ _ (@qv _ 0 _ _ (by walk_at "w")) (@Za _ _ _ _ _ (@Zn _ _ _ _) (@Za _ _ _ _ _ (@Zn _ _ _ _) (@Zd _) (by rfl)) (by rfl)) (by rfl)) (by rfl) (by decide) (by rfl) (by rfl)) (@pe_one _ _ _ _ _ (@pe_cmpR _ _ _ _ _ _ _ _ (@op_ne _) (@Zt _ _ _ _ _ _ _ (@ix_str _) (@qv _ 0 _ _ (by walk_at "w")) (@Zh _ _ _ _) (fun _ _ => rfl)) (@Zn _ _ _ _) (Zr _)))))))), ?_⟩
  have fin : ∀ v, v = gn x → Q (.bl v) H := fun v hv => by rw [hv]; exact q
  refine ⟨_, rfl, _, _, rfl, ⟨ZM (by omega), rfl⟩, _, _, rfl, rfl, _, rfl, ?_⟩
  refine YA (fun c => ?_) (fun c => ?_)
  · have c' : 1 ≤ x.length := by have := of_decide_eq_true c; omega
    refine ⟨_, _, rfl, rfl, _, rfl, ?_⟩
    refine YA (fun d => ?_) (fun d => ?_)
    · have d' : x.length ≤ 2 := by have := of_decide_eq_true d; omega
      refine ⟨_, rfl, x, 48, 57, rfl, _, rfl, ?_⟩
      refine YA (fun e => ?_) (fun e => ?_)
      · have hl : x.cps.toList.length = x.length := Array.length_toList
        obtain ⟨c0, hc0⟩ : ∃ c0, x.cps.toList[0]? = some c0 := ⟨_, List.getElem?_eq_getElem (by omega)⟩
        have hat : atI x.cps.toList ((0 : Nat) : Int) = some c0 := atI_nat hc0
        refine ⟨_, rfl, x, _, c0, rfl, rfl, ZM (by omega), hat, rfl, fin _ ?_⟩
        unfold gn
        rw [decide_eq_true c', decide_eq_true d', e]
        show (!decide (V.str ⟨#[c0]⟩ = V.str "0")) = (!decide (x.cps.toList.head? = some 48))
        have z : (V.str ⟨#[c0]⟩ = V.str "0") ↔ c0 = 48 := by
          rw [show ("0" : Str) = ⟨#[48]⟩ by decide +kernel]
          constructor
          · intro w
            injection w with w
            injection w with w
            simpa using w
          · rintro rfl; rfl
        rw [List.head?_eq_getElem?, hc0]
        congr 1
        rw [Bool.eq_iff_iff, decide_eq_true_iff, decide_eq_true_iff, z]
        simp
      · refine fin _ ?_
        unfold gn
        rw [Bool.eq_false_iff.mpr e, Bool.and_false]
        rfl
    · refine fin _ ?_
      unfold gn
      rw [decide_eq_false (show ¬ x.length ≤ 2 from fun z => d (decide_eq_true (by omega))), Bool.and_false]
      rfl
  · refine ⟨_, rfl, Yf ?_⟩
    refine fin _ ?_
    unfold gn
    rw [decide_eq_false (show ¬ 1 ≤ x.length from fun z => c (decide_eq_true (by omega)))]
    rfl
theorem ok_parts {f : Addr} {fd : FuncData} (F : Fun K "parts" "parts" s_parts f fd) (T : Txt K g mg) (D_good_word : Dn P w0 K mg base 2 "good_word" ["word"] (Jz K g)) (D_good_number : Dn P w0 K mg base 2 "good_number" ["text"] (JO K g)) : FnOk P w0 K mg base (CXR P w0 base) 3 f fd ["name"] (sp_parts K g) := by
  refine F.okX sc_parts (fun vs H Q E h => ?_) (fun cdv A outer s H vs Q E hr h => ?_)
  · obtain ⟨x, rfl, _⟩ := h
    rfl
  obtain ⟨x, rfl, hx, qe, q⟩ := h
  refine ⟨_, (
(@Ze _ _ _ _ _ (@ps_asg _ _ _ _ _ _ (@JX _ _ _ _ _ _ _ _ _ _ _ _ PySem.F.plainAttrs_str PySem.F.slot_str_split PySem.F.type_str_split (@mt_split _) (@qv _ 0 _ _ (by walk_at "w")) (@Za _ _ _ _ _ (@Zn _ _ _ _) (@Zd _) (by rfl)) (by rfl) (by rfl) (by rfl) (by rfl) (by rfl)) (@pg_star _ _ _ _ _ _ _ rfl (@Z2 _ _ _ _ _ (@ZP _ _ (1) _ sc_parts.nd rfl (Or.inl rfl) (by walk_at "u")) (@Z2 _ _ _ _ _ (@ZP _ _ (2) _ sc_parts.nd rfl (Or.inl rfl) (by walk_at "u")) (@pgs_nil _) (by rfl)) (by rfl)) (by rfl) (by rfl) (by rfl)) (by rfl) (by rfl) (by rfl)) (@Ze _ _ _ _ _ (@ZA _ _ _ _ _ _ _ _ (@PW.pt _ _ _ (@pw_or _ _ _ _ _ _ _ (@pt_not _ _ _ _ (@Xj _ _ _ (@Zy _ _ _ _ _ _ _ _ _ _ D_good_word (hr.mono (by decide)) (@Za _ _ _ _ _ (@qv _ 1 _ _ (by walk_at "w")) (@Zd _) (by rfl)) (by rfl) (by decide) (by rfl) (by rfl)) (by intro _ ; rfl))) (@pw_or1 _ _ _ _ (@Zl _ _ _ _ _ _ _ _ (@op_gt _) (@ZC _ _ _ _ _ _ _ _ _ (@ZJ _) rfl T.z_len PySem.boot_len (@Za _ _ _ _ _ (@qv _ 2 _ _ (by walk_at "w")) (@Zd _) (by rfl)) (by decide) (by decide) (by rfl) (by rfl)) (@ZL _ _ (.int 5) _ _ rfl T.m_MOST_NUMBERS ⟨_, rfl⟩ (by decide)) (Zr _))))) (@Zf _ _ _ (@Xk _ _ _ _ _ _ _ _ _ _ _ _ _ _ _ _ _ _ _ _ _ _ T.x_NoText.x T.m_NoText (@Zn _ _ _ _) (by rfl) (by rfl) (by decide))) (@Zp _)) (@Ze _ _ _ _ _ (@JW _ _ _ _ _ _ _ _ PassesOwn.leaving rfl (@YB _ _ _ _ (@qv _ 2 _ _ (by walk_at "w"))) (@ZP _ _ (3) _ sc_parts.nd rfl (Or.inl rfl) (by walk_at "u")) (@Zf _ _ _ (@ZA _ _ _ _ _ _ _ _ (@pt_not _ _ _ _ (@Xj _ _ _ (@Zy _ _ _ _ _ _ _ _ _ _ D_good_number (hr.mono (by decide)) (@Za _ _ _ _ _ (@qv _ 3 _ _ (by walk_at "w")) (@Zd _) (by rfl)) (by rfl) (by decide) (by rfl) (by rfl)) (by intro _ ; rfl))) (@Zf _ _ _ (@Xk _ _ _ _ _ _ _ _ _ _ _ _ _ _ _ _ _ _ _ _ _ _ T.x_NoText.x T.m_NoText (@Zn _ _ _ _) (by rfl) (by rfl) (by decide))) (@Zp _))) (by intro _ ; rfl)) (@Zf _ _ _ (@Zk _ _ _ _ (@Zs _ _ _ _ _ _ _ _ (@op_cat _) (@Xr _ _ _ _ (@Za _ _ _ _ _ (@qv _ 1 _ _ (by walk_at "w")) (@Zd _) (by rfl))) (@pe_lc _ _ _ ("number") _ _ _ ([]) _ ([]) _ _ _ rfl (@YB _ _ _ _ (@qv _ 2 _ _ (by walk_at "w"))) (fun _ _ _ _ _ => (@pifs_nil _)) (fun _ _ _ _ _ => (@Yx _ _ _ _ _ _ _ _ _ (@call_int_text _) rfl T.z_int PyProof.Rows.boot_int (@Za _ _ _ _ _ (@qv _ 0 _ _ (by walk_at "w")) (@Zd _) (by rfl)) (by decide) (by decide) (by rfl) (by rfl))) rfl (by decide +kernel) rfl (by decide +kernel) rfl (fun _ _ h => nomatch h) (Ju rfl) (fun p hp => nomatch hp) (by decide +kernel) (by intro _ ; rfl))))))))), ?_⟩
  have h2 : (Builtin.Str.partsBetween x (Builtin.Str.occurrences x dot 0 x.length (x.length + 1)) dot.length).length ≤ sizeLine := by
    rw [PyProof.Rows.len_partsBetween]
    have := StrLaws.occ_length_le x dot 0 x.length (x.length + 1)
    exact ZM (by omega)
  have nl := nms_len x
  refine ⟨_, rfl, rfl, x, dot, rfl, rfl, by decide +kernel, ZM (by omega), h2, fun l hl => ?_⟩
  have s1 := Zm hl (.lst ((Txt.split x dot).map V.str))
  have pe : (Txt.split x dot).map V.str = .str (wd x) :: (nms x).map V.str := by rw [show Txt.split x dot = wd x :: nms x from XT x]; rfl
  refine ⟨l, .str (wd x), (nms x).map V.str, rfl, SqL.of (by rw [Zc, pe]), by rw [List.length_map]; omega, fun D hD => ?_⟩
  have s2 := s1.trans (Zm hD (.lst ((nms x).map V.str)))
  have hD2 : upd (upd H l (.lst ((Txt.split x dot).map V.str))) D (.lst ((nms x).map V.str)) D = some (.lst ((nms x).map V.str)) := Zc
  generalize upd (upd H l (.lst ((Txt.split x dot).map V.str))) D (.lst ((nms x).map V.str)) = H2 at *
  have wl : (wd x).length ≤ 200 := Nat.le_trans (pc_len (x := x) (by rw [XT]; exact List.mem_cons_self ..)) hx
  have pl : ∀ p ∈ nms x, p.length ≤ 200 := fun p hp => Nat.le_trans (pc_len (x := x) (by rw [XT]; exact List.mem_cons_of_mem _ hp)) hx
  refine ⟨_, _, rfl, _, _, rfl, rfl, ?_⟩
  refine ⟨_, rfl, wd x, rfl, wl, _, rfl, ?_⟩
  cases g1 : gw (wd x) with
  | false =>
    refine YY ?_
    refine YY ⟨rfl, qe (by unfold pok; rw [g1]; rfl) H2 s2⟩
  | true =>
    refine Yf ?_
    refine ⟨_, rfl, _, _, rfl, .inl ⟨_, SqL.of hD2, rfl⟩, _, _, rfl, rfl, _, rfl, ?_⟩
    refine YA (fun c => ?_) (fun c => ?_)
    · have c' : ¬ (nms x).length ≤ 5 := by have := of_decide_eq_true c; rw [List.length_map] at this; omega
      exact ⟨rfl, qe (by unfold pok; rw [g1, decide_eq_false c']; rfl) H2 s2⟩
    · have c' : (nms x).length ≤ 5 := by
        have c2 : ¬ ((5 : Int) < (((nms x).map V.str).length : Nat)) := fun z => c (decide_eq_true z)
        rw [List.length_map] at c2
        omega
      refine ⟨_, rfl, D, rfl, ⟨_, SqL.of hD2⟩, for_list (xs := (nms x).map V.str) (fun i σ H3 => H3 = H2 ∧ ((nms x).take i).all gn = true ∧ ∃ v, σ = [some (.str x), some (.str (wd x)), some (.ref D), v]) ⟨rfl, rfl, _, rfl⟩ ?_ ?_ ?_⟩
      · rintro i σ H3 _ ⟨rfl, _⟩
        exact SqL.of hD2
      · rintro i v σ H3 hv ⟨rfl, ha, w, rfl⟩
        rw [List.getElem?_map] at hv
        have ci : i < (nms x).length := by
          cases z : (nms x)[i]? with
          | none => rw [z] at hv; cases hv
          | some y => exact (List.getElem?_eq_some_iff.mp z).1
        rw [List.getElem?_eq_getElem ci] at hv
        cases hv
        refine ⟨_, rfl, (nms x)[i], rfl, pl _ (List.getElem_mem ci), _, rfl, ?_⟩
        cases g2 : gn (nms x)[i] with
        | false =>
          refine YY ⟨rfl, qe ?_ H3 s2⟩
          unfold pok
          have z : (nms x).all gn = false := by
            cases e : (nms x).all gn with
            | false => rfl
            | true =>
              have := List.all_eq_true.mp e _ (List.getElem_mem ci)
              rw [g2] at this
              cases this
          rw [z, Bool.and_false]
        | true =>
          refine Yf ⟨rfl, ?_, _, rfl⟩
          rw [List.take_succ, List.getElem?_eq_getElem ci, List.all_append, ha]
          simp [g2]
      · rintro σ H3 ⟨rfl, ha, w, rfl⟩
        rw [List.length_map, List.take_length] at ha
        have pk : pok x = true := by unfold pok; rw [g1, decide_eq_true c', ha]; rfl
        refine ⟨_, rfl, (by show 1 ≤ sizeLine; decide), fun b1 hb1 => ?_⟩
        have s3 := Zm hb1 (.lst [V.str (wd x)])
        have hb1' : upd H3 b1 (.lst [V.str (wd x)]) b1 = some (.lst [V.str (wd x)]) := Zc
        have hD3 := s3 _ _ hD2
        generalize upd H3 b1 (.lst [V.str (wd x)]) = H4 at *
        refine ⟨_, rfl, D, rfl, ⟨_, SqL.of hD3⟩, fun E1 hE1 => ⟨fun i m H5 => i ≤ (nms x).length ∧ m = (nms x).length - i ∧ Zo H4 H5 ∧ H5 E1 = some (.lst (((nms x).take i).map fun p => V.int (iv p))), ⟨(nms x).length, Nat.zero_le _, rfl, Zm hE1 _, Zc⟩, ?_⟩⟩
        rintro i m H5 ⟨hi, rfl, s5, hE5⟩
        by_cases ci : i < (nms x).length
        · refine .inr ⟨⟨_, .str (nms x)[i], s5.seq (SqL.of hD3), by simp [ci]⟩, fun v H' ⟨e, ev⟩ => ?_⟩
          subst e
          have ev' := ev _ (s5.seq (SqL.of hD3))
          rw [List.getElem?_map, List.getElem?_eq_getElem ci] at ev'
          cases ev'
          refine tAll_T ?_
          have g3 := List.all_eq_true.mp ha _ (List.getElem_mem ci)
          refine ⟨_, rfl, (nms x)[i], _, rfl, (iv_gn g3).1, by have := pl _ (List.getElem_mem ci); omega, _, (nms x).length - (i + 1), hE5, ZB (by rw [List.length_map, List.length_take]; omega), by omega, ci, rfl, same_put1 s5 hE1, ?_⟩
          rw [Zc, ← take_next ci, List.map_append]
          rfl
        · have e : i = (nms x).length := by omega
          subst e
          rw [List.take_length] at hE5
          refine .inl ⟨⟨_, s5.seq (SqL.of hD3), by rw [List.length_map]; exact Nat.le_refl _⟩, ?_⟩
          refine ⟨b1, E1, _, _, rfl, rfl, s5 _ _ hb1', hE5, Nat.le_of_lt (ZB (by rw [List.length_map]; show 1 + (nms x).length ≤ 1000; omega)), fun R hR => ?_⟩
          have s6 := (s2.trans s3).trans s5
          exact q pk R _ (s6.trans (Zm hR _)) (s6.free hR) Zc
theorem ok_shortened {f : Addr} {fd : FuncData} (F : Fun K "shortened" "shortened" Xw f fd) (T : Txt K g mg)  : FnOk P w0 K mg base CX0 1 f fd ["name"] (sp_shortened K g) := by
  refine F.ok sc_shortened (fun vs H Q E h => ?_) (fun cdv A outer s H vs Q E hr h => ?_)
  · obtain ⟨x, rfl, _⟩ := h
    rfl
  obtain ⟨x, rfl, hx, q⟩ := h
  refine ⟨_, (
(@Zf _ _ _ (@Zk _ _ _ _ (@Zt _ _ _ _ _ _ _ (@Zv _) (@JX _ _ _ _ _ _ _ _ _ _ _ _ PySem.F.plainAttrs_str PySem.F.slot_str_rpartition PySem.F.type_str_rpartition (@mt_rpart _) (@qv _ 0 _ _ (by walk_at "w")) (@Za _ _ _ _ _ (@Zn _ _ _ _) (@Zd _) (by rfl)) (by rfl) (by rfl) (by rfl) (by rfl) (by rfl)) (@Zh _ _ _ _) (fun _ _ => rfl))))), ?_⟩
  refine ⟨_, rfl, rfl, x, dot, rfl, rfl, by decide +kernel, ZM (by omega), fun l hl => ?_⟩
  have s1 := Zm hl
  cases e : Builtin.Str.lastOccurrence x dot 0 x.length with
  | some i =>
    have u : up x = Builtin.Str.strSub x 0 i := by unfold up; rw [e]
    refine ⟨l, _, _, _, rfl, rfl, SqT.of Zc, rfl, ?_⟩
    rw [← u]
    exact q _ (s1 _)
  | none =>
    have u : up x = Str.empty := by unfold up; rw [e]
    refine ⟨l, _, _, _, rfl, rfl, SqT.of Zc, rfl, ?_⟩
    rw [← u]
    exact q _ (s1 _)
theorem ok_Lives_nearest {f : Addr} {fd : FuncData} (F : Fun K "nearest" "Lives.nearest" Yi f fd) (T : Txt K g mg) (D_parts : Dx P w0 K mg base 3 "parts" ["name"] (sp_parts K g)) (D_shortened : Dn P w0 K mg base 1 "shortened" ["name"] (sp_shortened K g)) : FnOk P w0 K mg base (CXR P w0 base) 4 f fd ["self", "name"] (Z5 K g) := by
  refine F.okX X0 (fun vs H Q E h => ?_) (fun cdv A outer s H vs Q E hr h => ?_)
  · obtain ⟨b, bs, ds, R, n, rfl, _⟩ := h
    rfl
  obtain ⟨b, bs, ds, R, n, rfl, L, hx, q1, q⟩ := h
  refine ⟨_, (
(@Ze _ _ _ _ _ (@ZG _ _ _ _ (@J9 _ _ _ _ _ _ _ _ _ _ _ Xh D_parts (hr.mono (by decide)) (@Za _ _ _ _ _ (@qv _ 1 _ _ (by walk_at "w")) (@Zd _) (by rfl)) (by rfl) (by decide) (by rfl) (by rfl)) (by rfl)) (@Ze _ _ _ _ _ (@Zu _ _ (2) _ _ _ _ X0.nd rfl (Or.inl rfl) (@qv _ 1 _ _ (by walk_at "w")) (by rfl) (by walk_at "u")) (@Ze _ _ _ _ _ (@ps_while _ _ _ _ _ _ PassesOwn.leaving (@PW.pt _ _ _ (@JV _ _ _ _ _ _ _ (@pt_truth _ _ _ (@qv _ 2 _ _ (by walk_at "w")) (fun _ => rfl)) (@J4 _ _ _ _ (@XS _ _ _ _ _ _ (@Yy _ _ _ _ _ (ZW hr) (@qv _ 2 _ _ (by walk_at "w")) (@Zz _ _ _ _ _ (@qv _ 0 _ _ (by walk_at "w")) rfl)) (by walk_at "n"))))) (@Zf _ _ _ (@Zu _ _ (2) _ _ _ _ X0.nd rfl (Or.inl rfl) (@Zy _ _ _ _ _ _ _ _ _ _ D_shortened (hr.mono (by decide)) (@Za _ _ _ _ _ (@qv _ 2 _ _ (by walk_at "w")) (@Zd _) (by rfl)) (by rfl) (by decide) (by rfl) (by rfl)) (by rfl) (by walk_at "u")))) (@Zf _ _ _ (@Zk _ _ _ _ (@qv _ 2 _ _ (by walk_at "w")))))))), ?_⟩
  refine ⟨_, rfl, n, rfl, hx, q1, fun hp l H1 s1 _ _ => ?_⟩
  refine ⟨_, rfl, fun mm σ H2 => ∃ z : Str, mm = z.length ∧ σ = [some (.ref b), some (.str n), some (.str z)] ∧ z.length ≤ 200 ∧ nr bs z = nr bs n ∧ Zo H H2, ⟨_, n, rfl, rfl, hx, rfl, s1⟩, ?_⟩
  rintro mm σ H2 ⟨z, rfl, rfl, hz, hnr, s2⟩
  have L2 := L.same s2
  obtain ⟨d1, d2, d3, ws, B, k1, k2, eR⟩ := id L2.ex
  obtain ⟨dx, hb⟩ := B.obj
  by_cases h0 : z.length = 0
  · refine ⟨_, rfl, false, ⟨ZM (by omega), by rw [h0]; rfl⟩, Yf ?_⟩
    refine Yf ⟨_, rfl, ?_⟩
    have e : nr bs n = z := by rw [← hnr, len0 h0, nr_nil]
    rw [← e]
    exact q hp H2 s2
  · refine ⟨_, rfl, true, ⟨ZM (by omega), ?_⟩, YY ?_⟩
    · have h1 : ((z.length : Nat) : Int) ≠ 0 := by omega
      exact (bne_iff_ne.mpr h1).symm
    refine ⟨_, rfl, _, rfl, b, _, dx, _, _, rfl, hb, T.cl_Lives, T.n_Lives_births, rfl, d1, _, rfl, B.births z, _, rfl, ?_⟩
    rw [ZR]
    cases hh : has bs z with
    | true =>
      refine Yf ⟨_, rfl, ?_⟩
      have e : nr bs n = z := by rw [← hnr, Yd h0 hh]
      rw [← e]
      exact q hp H2 s2
    | false =>
      have hu := up_len h0
      refine YY ⟨fun σ' H' => σ' = [some (.ref b), some (.str n), some (.str (up z))] ∧ Zo H H', fun σ' H' ⟨e1, e2⟩ => ⟨(up z).length, hu, up z, rfl, e1, by omega, by rw [← hnr, nr_up h0 hh], e2⟩, ?_⟩
      exact ⟨_, rfl, z, rfl, hz, fun H3 s3 => ⟨rfl, s2.trans s3⟩⟩
theorem ok_nearest_named {f : Addr} {fd : FuncData} (F : Fun K "nearest_named" "nearest_named" Yg f fd) (T : Txt K g mg) (D_Lives_nearest : Dm P w0 K mg base (CXR P w0 base) g.Lives 4 "nearest" ["self", "name"] (Z5 K g)) : FnOk P w0 K mg base (CXR P w0 base) 5 f fd ["world", "name"] (XW K g) := by
  refine F.okX sc_nearest_named (fun vs H Q E h => ?_) (fun cdv A outer s H vs Q E hr h => ?_)
  · obtain ⟨w, S, R, n, rfl, _⟩ := h
    rfl
  obtain ⟨w, S, R, n, rfl, W, hn, q1, q2, q⟩ := h
  refine ⟨_, (
(@Ze _ _ _ _ _ (@Zu _ _ (2) _ _ _ _ sc_nearest_named.nd rfl (Or.inl rfl) (@ZN _ _ _ _ _ _ _ _ _ _ _ _ _ _ _ _ Xh D_Lives_nearest (hr.mono (by decide)) (@Zz _ _ _ _ _ (@qv _ 0 _ _ (by walk_at "w")) rfl) (@Za _ _ _ _ _ (@qv _ 1 _ _ (by walk_at "w")) (@Zd _) (by rfl)) (by rfl) (by rfl) (by rfl)) (by rfl) (by walk_at "u")) (@Ze _ _ _ _ _ (@ZA _ _ _ _ _ _ _ _ (@Zl _ _ _ _ _ _ _ _ (@Yc _) (@qv _ 2 _ _ (by walk_at "w")) (@Zn _ _ _ _) (Zr _)) (@Zf _ _ _ (@Xk _ _ _ _ _ _ _ _ _ _ _ _ _ _ _ _ _ _ _ _ _ _ T.x_NoPerson.x T.m_NoPerson (@Zn _ _ _ _) (by rfl) (by rfl) (by decide))) (@Zp _)) (@Zf _ _ _ (@Zk _ _ _ _ (@qv _ 2 _ _ (by walk_at "w"))))))), ?_⟩
  obtain ⟨dx, b, hd, RL, hw, L, hh, eR, n1, n2⟩ := W.ex
  obtain ⟨dy, y1, y2, y3, hb⟩ := L.obj
  refine ⟨_, rfl, w, _, dx, _, _, rfl, hw, T.cl_World, T.n_World_lives, rfl, b, dy, _, rfl, hb, rfl, _, rfl, b, S.bs, S.ds, RL, n, rfl, L, hn, q1, fun hp H' s => ?_⟩
  by_cases e : nr S.bs n = ("" : Str)
  · rw [e]
    exact ⟨_, rfl, rfl, _, rfl, ifEq ⟨rfl, q2 hp e H' s⟩⟩
  · exact ⟨_, rfl, rfl, _, rfl, ZX (beq_eq_false_iff_ne.mpr e) ⟨_, rfl, q hp e H' s⟩⟩
theorem ok_Lives_known {f : Addr} {fd : FuncData} (F : Fun K "known" "Lives.known" YT f fd) (T : Txt K g mg)  : FnOk P w0 K mg base CX0 1 f fd ["self", "name"] (Ya K g) := by
  refine F.ok sc_Lives_known (fun vs H Q E h => ?_) (fun cdv A outer s H vs Q E hr h => ?_)
  · obtain ⟨b, bs, ds, R, n, rfl, _⟩ := h
    rfl
  obtain ⟨b, bs, ds, R, n, rfl, L, q⟩ := h
  refine ⟨_, (
(@Zf _ _ _ (@Zk _ _ _ _ (@pe_cmp _ _ _ _ _ _ (@pc_din _ _ _ _ _ (ZW hr) (@qv _ 1 _ _ (by walk_at "w")) (@Zz _ _ _ _ _ (@qv _ 0 _ _ (by walk_at "w")) rfl)) (by walk_at "n"))))), ?_⟩
  obtain ⟨d1, d2, d3, ws, B, k1, k2, eR⟩ := id L.ex
  obtain ⟨dx, hb⟩ := B.obj
  refine ⟨_, rfl, _, rfl, b, _, dx, _, _, rfl, hb, T.cl_Lives, T.n_Lives_births, rfl, d1, _, rfl, B.births n, ?_⟩
  rw [ZR]
  exact q
theorem ok_Lives_want_known {f : Addr} {fd : FuncData} (F : Fun K "want_known" "Lives.want_known" ZU f fd) (T : Txt K g mg) (D_Lives_known : Dm P w0 K mg base CX0 g.Lives 1 "known" ["self", "name"] (Ya K g)) : FnOk P w0 K mg base (CXR P w0 base) 2 f fd ["self", "name"] (ZK K g) := by
  refine F.okX sc_Lives_want_known (fun vs H Q E h => ?_) (fun cdv A outer s H vs Q E hr h => ?_)
  · obtain ⟨b, bs, ds, R, n, rfl, _⟩ := h
    rfl
  obtain ⟨b, bs, ds, R, n, rfl, L, qe, q⟩ := h
  refine ⟨_, (
(@Zf _ _ _ (@ZA _ _ _ _ _ _ _ _ (@pt_not _ _ _ _ (@Xj _ _ _ (@ZN _ _ _ _ _ _ _ _ _ _ _ _ _ _ _ _ Jn D_Lives_known (hr.mono (by decide)) (@qv _ 0 _ _ (by walk_at "w")) (@Za _ _ _ _ _ (@qv _ 1 _ _ (by walk_at "w")) (@Zd _) (by rfl)) (by rfl) (by rfl) (by rfl)) (by intro _ ; rfl))) (@Zf _ _ _ (@Xk _ _ _ _ _ _ _ _ _ _ _ _ _ _ _ _ _ _ _ _ _ _ T.x_NoPerson.x T.m_NoPerson (@Zn _ _ _ _) (by rfl) (by rfl) (by decide))) (@Zp _)))), ?_⟩
  obtain ⟨d1, d2, d3, ws, B, k1, k2, eR⟩ := id L.ex
  obtain ⟨dx, hb⟩ := B.obj
  refine ⟨_, rfl, b, dx, _, rfl, hb, rfl, _, rfl, b, bs, ds, R, n, rfl, L, _, rfl, ?_⟩
  cases e : has bs n with
  | false => exact YY ⟨rfl, qe e⟩
  | true => exact Yf (q e)
theorem ok_Lives_age_in {f : Addr} {fd : FuncData} (F : Fun K "age_in" "Lives.age_in" Yw f fd) (T : Txt K g mg) (D_Lives_want_known : Dm P w0 K mg base (CXR P w0 base) g.Lives 2 "want_known" ["self", "name"] (ZK K g)) : FnOk P w0 K mg base (CXR P w0 base) 3 f fd ["self", "name", "year"] (Xo K g) := by
  refine F.okX sc_Lives_age_in (fun vs H Q E h => ?_) (fun cdv A outer s H vs Q E hr h => ?_)
  · obtain ⟨b, bs, ds, R, n, t, rfl, _⟩ := h
    rfl
  obtain ⟨b, bs, ds, R, n, t, rfl, L, q1, q⟩ := h
  refine ⟨_, (
(@Ze _ _ _ _ _ (@ZG _ _ _ _ (@ZN _ _ _ _ _ _ _ _ _ _ _ _ _ _ _ _ Xh D_Lives_want_known (hr.mono (by decide)) (@qv _ 0 _ _ (by walk_at "w")) (@Za _ _ _ _ _ (@qv _ 1 _ _ (by walk_at "w")) (@Zd _) (by rfl)) (by rfl) (by rfl) (by rfl)) (by rfl)) (@Zf _ _ _ (@Zk _ _ _ _ (@Zs _ _ _ _ _ _ _ _ (@op_sub _) (@pe_dget2 _ _ _ _ _ _ _ _ _ (ZW hr) (@Zz _ _ _ _ _ (@qv _ 0 _ _ (by walk_at "w")) rfl) (@qv _ 1 _ _ (by walk_at "w")) (@qv _ 2 _ _ (by walk_at "w")) ⟨rfl, rfl, rfl, rfl⟩) (@pe_dget _ _ _ _ _ _ (ZW hr) (@Zz _ _ _ _ _ (@qv _ 0 _ _ (by walk_at "w")) rfl) (@qv _ 1 _ _ (by walk_at "w")) (fun _ _ => rfl))))))), ?_⟩
  obtain ⟨d1, d2, d3, ws, B, k1, k2, eR⟩ := id L.ex
  obtain ⟨dx, hb⟩ := B.obj
  refine ⟨_, rfl, b, dx, _, rfl, hb, rfl, _, rfl, b, bs, ds, R, n, rfl, L, q1, fun hn => ?_⟩
  have hn' := hn
  unfold has at hn'
  cases hy : yr bs n with
  | none => rw [hy] at hn'; cases hn'
  | some y =>
    have g0 := B.births n
    rw [Jh, hy] at g0
    have g1 := B.deaths n
    rw [Jh] at g1
    refine ⟨_, rfl, b, _, dx, _, _, rfl, hb, T.cl_Lives, T.n_Lives_deaths, rfl, d2, rfl, .inl ⟨_, .inl B.h2⟩, _, rfl, _, rfl, _, g1, _, rfl, b, _, dx, _, _, rfl, hb, T.cl_Lives, T.n_Lives_births, rfl, _, rfl, d1, _, rfl, g0, (yr ds n).getD t, y, ?_, rfl, q y hy⟩
    cases yr ds n <;> rfl
theorem ok_World_age {f : Addr} {fd : FuncData} (F : Fun K "age" "World.age" XE f fd) (T : Txt K g mg) (D_Lives_age_in : Dm P w0 K mg base (CXR P w0 base) g.Lives 3 "age_in" ["self", "name", "year"] (Xo K g)) : FnOk P w0 K mg base (CXR P w0 base) 4 f fd ["self", "name"] (JB K g) := by
  refine F.okX sc_World_age (fun vs H Q E h => ?_) (fun cdv A outer s H vs Q E hr h => ?_)
  · obtain ⟨w, S, R, n, rfl, _⟩ := h
    rfl
  obtain ⟨w, S, R, n, rfl, W, q0, q⟩ := h
  refine ⟨_, (
(@Zf _ _ _ (@Zk _ _ _ _ (@ZN _ _ _ _ _ _ _ _ _ _ _ _ _ _ _ _ Xh D_Lives_age_in (hr.mono (by decide)) (@Zz _ _ _ _ _ (@qv _ 0 _ _ (by walk_at "w")) rfl) (@Za _ _ _ _ _ (@qv _ 1 _ _ (by walk_at "w")) (@Za _ _ _ _ _ (@Zz _ _ _ _ _ (@qv _ 0 _ _ (by walk_at "w")) rfl) (@Zd _) (by rfl)) (by rfl)) (by rfl) (by rfl) (by rfl))))), ?_⟩
  obtain ⟨dx, b, hd, RL, hw, L, hh, eR, n1, n2⟩ := W.ex
  obtain ⟨dy, y1, y2, y3, hb⟩ := L.obj
  exact ⟨_, rfl, w, _, dx, _, _, rfl, hw, T.cl_World, T.n_World_lives, rfl, b, dy, _, rfl, hb, rfl, _, rfl, _, rfl, w, _, dx, _, _, rfl, hw, T.cl_World, T.n_World_year, rfl, b, S.bs, S.ds, RL, n, _, rfl, L, q0, q⟩
theorem ok_Lives_alive {f : Addr} {fd : FuncData} (F : Fun K "alive" "Lives.alive" YX f fd) (T : Txt K g mg)  : FnOk P w0 K mg base CX0 1 f fd ["self", "name"] (Yb K g) := by
  refine F.ok sc_Lives_alive (fun vs H Q E h => ?_) (fun cdv A outer s H vs Q E hr h => ?_)
  · obtain ⟨b, bs, ds, R, n, rfl, _⟩ := h
    rfl
  obtain ⟨b, bs, ds, R, n, rfl, L, q⟩ := h
  refine ⟨_, (
(@Zf _ _ _ (@Zk _ _ _ _ (@pe_and _ _ _ _ _ _ _ (@pe_cmp _ _ _ _ _ _ (@pc_din _ _ _ _ _ (ZW hr) (@qv _ 1 _ _ (by walk_at "w")) (@Zz _ _ _ _ _ (@qv _ 0 _ _ (by walk_at "w")) rfl)) (by walk_at "n")) (@pe_one _ _ _ _ _ (@pe_cmp _ _ _ _ _ _ (@Yy _ _ _ _ _ (ZW hr) (@qv _ 1 _ _ (by walk_at "w")) (@Zz _ _ _ _ _ (@qv _ 0 _ _ (by walk_at "w")) rfl)) (by walk_at "n"))))))), ?_⟩
  obtain ⟨d1, d2, d3, ws, B, k1, k2, eR⟩ := id L.ex
  obtain ⟨dx, hb⟩ := B.obj
  refine ⟨_, rfl, _, rfl, b, _, dx, _, _, rfl, hb, T.cl_Lives, T.n_Lives_births, rfl, d1, _, rfl, B.births n, _, rfl, ?_⟩
  unfold al at q
  rw [ZR]
  cases e : has bs n with
  | false =>
    rw [e] at q
    exact Yf q
  | true =>
    rw [e] at q
    refine YY ⟨_, rfl, _, rfl, b, _, dx, _, _, rfl, hb, T.cl_Lives, T.n_Lives_deaths, rfl, d2, _, rfl, B.deaths n, ?_⟩
    rw [ZR]
    exact q
theorem ok_age_stand {f : Addr} {fd : FuncData} (F : Fun K "age_stand" "age_stand" XD f fd) (T : Txt K g mg) (D_World_age : Dm P w0 K mg base (CXR P w0 base) g.World 4 "age" ["self", "name"] (JB K g)) (D_Lives_alive : Dm P w0 K mg base CX0 g.Lives 1 "alive" ["self", "name"] (Yb K g)) : FnOk P w0 K mg base CX0 5 f fd ["world", "name", "age"] (JA K g) := by
  refine F.ok sc_age_stand (fun vs H Q E h => ?_) (fun cdv A outer s H vs Q E hr h => ?_)
  · obtain ⟨w, S, R, n, a, y, rfl, _⟩ := h
    rfl
  obtain ⟨w, S, R, n, a, y, rfl, W, hk, hy, q⟩ := h
  refine ⟨_, (
(@Ze _ _ _ _ _ (@ZA _ _ _ _ _ _ _ _ (@Zl _ _ _ _ _ _ _ _ (@op_ge _) (@ZN _ _ _ _ _ _ _ _ _ _ _ _ _ _ _ _ Jv D_World_age (hr.mono (by decide)) (@qv _ 0 _ _ (by walk_at "w")) (@Za _ _ _ _ _ (@qv _ 1 _ _ (by walk_at "w")) (@Zd _) (by rfl)) (by rfl) (by rfl) (by rfl)) (@qv _ 2 _ _ (by walk_at "w")) (Zr _)) (@Zf _ _ _ (@Zk _ _ _ _ (@ZL _ _ (.str "met") _ _ rfl T.m_MET ⟨_, rfl⟩ (by decide)))) (@Zp _)) (@Zf _ _ _ (@Zk _ _ _ _ (@Jl _ _ _ _ _ _ _ _ (@Xj _ _ _ (@ZN _ _ _ _ _ _ _ _ _ _ _ _ _ _ _ _ Jn D_Lives_alive (hr.mono (by decide)) (@Zz _ _ _ _ _ (@qv _ 0 _ _ (by walk_at "w")) rfl) (@Za _ _ _ _ _ (@qv _ 1 _ _ (by walk_at "w")) (@Zd _) (by rfl)) (by rfl) (by rfl) (by rfl)) (by intro _ ; rfl)) (@ZL _ _ (.str "hangs") _ _ rfl T.m_HANGS ⟨_, rfl⟩ (by decide)) (@ZL _ _ (.str "failed") _ _ rfl T.m_FAILED ⟨_, rfl⟩ (by decide))))))), ?_⟩
  obtain ⟨dx, b, hd, RL, hw, L, hh, eR, n1, n2⟩ := W.ex
  obtain ⟨dy, y1, y2, y3, hb⟩ := L.obj
  refine ⟨_, rfl, w, dx, _, rfl, hw, rfl, _, rfl, w, S, R, n, rfl, W, (fun e => by rw [hk] at e; cases e), fun y1 e1 => ?_⟩
  obtain rfl : y = y1 := Option.some.inj (hy.symm.trans e1)
  refine ⟨_, rfl, _, _, rfl, rfl, _, rfl, YA (fun c => ?_) (fun c => ?_)⟩
  · have c' : a ≤ XV S n y := of_decide_eq_true c
    unfold YE at q
    rw [if_pos c'] at q
    exact q
  · have c' : ¬ a ≤ XV S n y := fun z => c (decide_eq_true z)
    unfold YE at q
    rw [if_neg c'] at q
    refine ⟨_, rfl, w, _, dx, _, _, rfl, hw, T.cl_World, T.n_World_lives, rfl, b, dy, _, rfl, hb, rfl, _, rfl, b, S.bs, S.ds, RL, n, rfl, L, ?_⟩
    have e2 : al S.bs S.ds n = !has S.ds n := by unfold al; rw [hk]; rfl
    rw [e2]
    cases hx : has S.ds n with
    | true => rw [hx] at q; exact ⟨_, rfl, q⟩
    | false => rw [hx] at q; exact ⟨_, rfl, q⟩
theorem ok_person_stand {f : Addr} {fd : FuncData} (F : Fun K "person_stand" "person_stand" Ys f fd) (T : Txt K g mg) (D_Lives_known : Dm P w0 K mg base CX0 g.Lives 1 "known" ["self", "name"] (Ya K g)) (D_age_stand : Dn P w0 K mg base 5 "age_stand" ["world", "name", "age"] (JA K g)) (D_Lives_alive : Dm P w0 K mg base CX0 g.Lives 1 "alive" ["self", "name"] (Yb K g)) (D_nearest_named : Dx P w0 K mg base 5 "nearest_named" ["world", "name"] (XW K g)) : FnOk P w0 K mg base (CXR P w0 base) 6 f fd ["world", "atom"] (Jq K g) := by
  refine F.okX sc_person_stand (fun vs H Q E h => ?_) (fun cdv A outer s H vs Q E hr h => ?_)
  · obtain ⟨w, S, R, p, t, n, rfl, _⟩ := h
    rfl
  obtain ⟨w, S, R, p, t, n, rfl, W, hp, ht, hn, q1, q⟩ := h
  refine ⟨_, (
(@Ze _ _ _ _ _ (@ps_par _ _ (2) (3) _ _ _ _ _ _ _ _ _ _ _ rfl sc_person_stand.nd rfl rfl (by decide) rfl rfl (@Za _ _ _ _ _ (@Zt _ _ _ _ _ _ _ (@Zv _) (@qv _ 1 _ _ (by walk_at "w")) (@Zh _ _ _ _) (fun _ _ => rfl)) (@Za _ _ _ _ _ (@Zt _ _ _ _ _ _ _ (@Zv _) (@qv _ 1 _ _ (by walk_at "w")) (@Zh _ _ _ _) (fun _ _ => rfl)) (@Zd _) (by rfl)) (by rfl)) rfl (by rfl)) (@Ze _ _ _ _ _ (@ZA _ _ _ _ _ _ _ _ (@pt_not _ _ _ _ (@Xj _ _ _ (@ZN _ _ _ _ _ _ _ _ _ _ _ _ _ _ _ _ Jn D_Lives_known (hr.mono (by decide)) (@Zz _ _ _ _ _ (@qv _ 0 _ _ (by walk_at "w")) rfl) (@Za _ _ _ _ _ (@qv _ 3 _ _ (by walk_at "w")) (@Zd _) (by rfl)) (by rfl) (by rfl) (by rfl)) (by intro _ ; rfl))) (@Zf _ _ _ (@Zk _ _ _ _ (@Jl _ _ _ _ _ _ _ _ (@Xj _ _ _ (@ZN _ _ _ _ _ _ _ _ _ _ _ _ _ _ _ _ Jn D_Lives_alive (hr.mono (by decide)) (@Zz _ _ _ _ _ (@qv _ 0 _ _ (by walk_at "w")) rfl) (@Za _ _ _ _ _ (@J9 _ _ _ _ _ _ _ _ _ _ _ Xh D_nearest_named (hr.mono (by decide)) (@Za _ _ _ _ _ (@qv _ 0 _ _ (by walk_at "w")) (@Za _ _ _ _ _ (@qv _ 3 _ _ (by walk_at "w")) (@Zd _) (by rfl)) (by rfl)) (by rfl) (by decide) (by rfl) (by rfl)) (@Zd _) (by rfl)) (by rfl) (by rfl) (by rfl)) (by intro _ ; rfl)) (@ZL _ _ (.str "hangs") _ _ rfl T.m_HANGS ⟨_, rfl⟩ (by decide)) (@ZL _ _ (.str "failed") _ _ rfl T.m_FAILED ⟨_, rfl⟩ (by decide))))) (@Zp _)) (@Ze _ _ _ _ _ (@ZA _ _ _ _ _ _ _ _ (@Zl _ _ _ _ _ _ _ _ (@Yc _) (@qv _ 2 _ _ (by walk_at "w")) (@Zn _ _ _ _) (Zr _)) (@Zf _ _ _ (@Zk _ _ _ _ (@Zy _ _ _ _ _ _ _ _ _ _ D_age_stand (hr.mono (by decide)) (@Za _ _ _ _ _ (@qv _ 0 _ _ (by walk_at "w")) (@Za _ _ _ _ _ (@qv _ 3 _ _ (by walk_at "w")) (@Za _ _ _ _ _ (@Zt _ _ _ _ _ _ _ (@Zv _) (@qv _ 1 _ _ (by walk_at "w")) (@Zh _ _ _ _) (fun _ _ => rfl)) (@Zd _) (by rfl)) (by rfl)) (by rfl)) (by rfl) (by decide) (by rfl) (by rfl)))) (@Zp _)) (@Ze _ _ _ _ _ (@ZA _ _ _ _ _ _ _ _ (@PW.pt _ _ _ (@JV _ _ _ _ _ _ _ (@Zl _ _ _ _ _ _ _ _ (@Yc _) (@qv _ 2 _ _ (by walk_at "w")) (@Zn _ _ _ _) (Zr _)) (@J4 _ _ _ _ (@Xj _ _ _ (@ZN _ _ _ _ _ _ _ _ _ _ _ _ _ _ _ _ Jn D_Lives_alive (hr.mono (by decide)) (@Zz _ _ _ _ _ (@qv _ 0 _ _ (by walk_at "w")) rfl) (@Za _ _ _ _ _ (@qv _ 3 _ _ (by walk_at "w")) (@Zd _) (by rfl)) (by rfl) (by rfl) (by rfl)) (by intro _ ; rfl))))) (@Zf _ _ _ (@Zk _ _ _ _ (@ZL _ _ (.str "hangs") _ _ rfl T.m_HANGS ⟨_, rfl⟩ (by decide)))) (@Zp _)) (@Zf _ _ _ (@Zk _ _ _ _ (@ZL _ _ (.str "met") _ _ rfl T.m_MET ⟨_, rfl⟩ (by decide))))))))), ?_⟩
  obtain ⟨dx, b, hd, RL, hw, L, hh, eR, n1, n2⟩ := W.ex
  obtain ⟨dy, y1, y2, y3, hb⟩ := L.obj
  cases t with
  | year y => cases ht
  | comes y => cases ht
  | born m =>
    obtain rfl : m = n := Option.some.inj ht
    have hk2 := Atm.bad_known (S := S) ht
    refine ⟨_, rfl, p, _, _, _, rfl, rfl, SqT.of hp, rfl, _, rfl, p, _, _, _, rfl, rfl, SqT.of hp, rfl, _, _, rfl, _, rfl, w, _, dx, _, _, rfl, hw, T.cl_World, T.n_World_lives, rfl, b, dy, _, rfl, hb, rfl, _, rfl, b, S.bs, S.ds, RL, m, rfl, L, _, rfl, YA (fun c => ?_) (fun c => ?_)⟩
    · have hk : has S.bs m = false := by cases h : has S.bs m with | false => rfl | true => rw [h] at c; cases c
      refine ⟨_, rfl, w, _, dx, _, _, rfl, hw, T.cl_World, T.n_World_lives, rfl, b, dy, _, rfl, hb, rfl, _, rfl, _, rfl, w, S, R, m, rfl, W, hn, (fun e => q1 _ (Atm.bad_text ht hk e)), (fun e e2 => q1 _ (Atm.bad_lost ht hk e e2)), fun e e2 H' s => ?_⟩
      have z := q (Atm.bad_fine ht hk e e2) H' s
      rw [Atm.stand_none ht hk] at z
      unfold Z9 at z
      refine ⟨b, S.bs, S.ds, RL, _, rfl, L.same s, _, rfl, ?_⟩
      cases ha : al S.bs S.ds (nr S.bs m) with
      | true => rw [ha] at z; exact z
      | false => rw [ha] at z; exact z
    · have hk : has S.bs m = true := by cases h : has S.bs m with | true => rfl | false => rw [h] at c; exact absurd rfl c
      have z := q (hk2 hk)
      refine ⟨_, rfl, rfl, _, rfl, ZX (by decide +kernel) ⟨_, rfl, rfl, _, rfl, ZX (by decide +kernel) ?_⟩⟩
      have z1 := z H (Zo.refl _)
      rw [show (Atm.born m).stand S = ("met" : Str) from if_pos hk] at z1
      exact Yf z1
  | dead m =>
    obtain rfl : m = n := Option.some.inj ht
    have hk2 := Atm.bad_known (S := S) ht
    refine ⟨_, rfl, p, _, _, _, rfl, rfl, SqT.of hp, rfl, _, rfl, p, _, _, _, rfl, rfl, SqT.of hp, rfl, _, _, rfl, _, rfl, w, _, dx, _, _, rfl, hw, T.cl_World, T.n_World_lives, rfl, b, dy, _, rfl, hb, rfl, _, rfl, b, S.bs, S.ds, RL, m, rfl, L, _, rfl, YA (fun c => ?_) (fun c => ?_)⟩
    · have hk : has S.bs m = false := by cases h : has S.bs m with | false => rfl | true => rw [h] at c; cases c
      refine ⟨_, rfl, w, _, dx, _, _, rfl, hw, T.cl_World, T.n_World_lives, rfl, b, dy, _, rfl, hb, rfl, _, rfl, _, rfl, w, S, R, m, rfl, W, hn, (fun e => q1 _ (Atm.bad_text ht hk e)), (fun e e2 => q1 _ (Atm.bad_lost ht hk e e2)), fun e e2 H' s => ?_⟩
      have z := q (Atm.bad_fine ht hk e e2) H' s
      rw [Atm.stand_none ht hk] at z
      unfold Z9 at z
      refine ⟨b, S.bs, S.ds, RL, _, rfl, L.same s, _, rfl, ?_⟩
      cases ha : al S.bs S.ds (nr S.bs m) with
      | true => rw [ha] at z; exact z
      | false => rw [ha] at z; exact z
    · have hk : has S.bs m = true := by cases h : has S.bs m with | true => rfl | false => rw [h] at c; exact absurd rfl c
      have z := q (hk2 hk)
      refine ⟨_, rfl, rfl, _, rfl, ZX (by decide +kernel) ⟨_, rfl, rfl, _, rfl, ifEq ⟨_, rfl, w, _, dx, _, _, rfl, hw, T.cl_World, T.n_World_lives, rfl, b, dy, _, rfl, hb, rfl, _, rfl, b, S.bs, S.ds, RL, m, rfl, L, _, rfl, ?_⟩⟩⟩
      have z1 := z H (Zo.refl _)
      rw [show (Atm.dead m).stand S = (if has S.ds m = true then ("met" : Str) else "hangs") from if_pos hk] at z1
      have e2 : al S.bs S.ds m = !has S.ds m := by unfold al; rw [hk]; rfl
      rw [e2]
      cases hx : has S.ds m with
      | true => rw [hx] at z1; exact Yf z1
      | false => rw [hx] at z1; exact YY z1
  | age m a =>
    obtain rfl : m = n := Option.some.inj ht
    have hk2 := Atm.bad_known (S := S) ht
    refine ⟨_, rfl, p, _, _, _, rfl, rfl, SqT.of hp, rfl, _, rfl, p, _, _, _, rfl, rfl, SqT.of hp, rfl, _, _, rfl, _, rfl, w, _, dx, _, _, rfl, hw, T.cl_World, T.n_World_lives, rfl, b, dy, _, rfl, hb, rfl, _, rfl, b, S.bs, S.ds, RL, m, rfl, L, _, rfl, YA (fun c => ?_) (fun c => ?_)⟩
    · have hk : has S.bs m = false := by cases h : has S.bs m with | false => rfl | true => rw [h] at c; cases c
      refine ⟨_, rfl, w, _, dx, _, _, rfl, hw, T.cl_World, T.n_World_lives, rfl, b, dy, _, rfl, hb, rfl, _, rfl, _, rfl, w, S, R, m, rfl, W, hn, (fun e => q1 _ (Atm.bad_text ht hk e)), (fun e e2 => q1 _ (Atm.bad_lost ht hk e e2)), fun e e2 H' s => ?_⟩
      have z := q (Atm.bad_fine ht hk e e2) H' s
      rw [Atm.stand_none ht hk] at z
      unfold Z9 at z
      refine ⟨b, S.bs, S.ds, RL, _, rfl, L.same s, _, rfl, ?_⟩
      cases ha : al S.bs S.ds (nr S.bs m) with
      | true => rw [ha] at z; exact z
      | false => rw [ha] at z; exact z
    · have hk : has S.bs m = true := by cases h : has S.bs m with | true => rfl | false => rw [h] at c; exact absurd rfl c
      have z := q (hk2 hk)
      obtain ⟨y, hy⟩ := Jg hk
      refine ⟨_, rfl, rfl, _, rfl, ifEq ⟨_, rfl, _, rfl, _, rfl, p, _, _, _, rfl, rfl, SqT.of hp, rfl, w, S, R, m, a, y, rfl, W, hk, hy, ?_⟩⟩
      have z1 := z H (Zo.refl _)
      rw [show (Atm.age m a).stand S = YE S m y a from by show (match yr S.bs m with | some y => _ | none => _) = _; rw [hy]] at z1
      exact z1
theorem ok_World_came_in {f : Addr} {fd : FuncData} (F : Fun K "came_in" "World.came_in" Yh f fd) (T : Txt K g mg)  : FnOk P w0 K mg base CX0 1 f fd ["self", "word"] (Y7 K g) := by
  refine F.ok sc_World_came_in (fun vs H Q E h => ?_) (fun cdv A outer s H vs Q E hr h => ?_)
  · obtain ⟨w, S, R, n, rfl, _⟩ := h
    rfl
  obtain ⟨w, S, R, n, rfl, W, q⟩ := h
  refine ⟨_, (
(@Zf _ _ _ (@Zk _ _ _ _ (@pe_dget1 _ _ _ _ _ _ _ (ZW hr) (@Zz _ _ _ _ _ (@qv _ 0 _ _ (by walk_at "w")) rfl) (@qv _ 1 _ _ (by walk_at "w")) ⟨rfl, rfl, rfl, rfl⟩)))), ?_⟩
  obtain ⟨dx, b, hd, RL, hw, L, hh, eR, n1, n2⟩ := W.ex
  obtain ⟨dy, y1, y2, y3, hb⟩ := L.obj
  have g0 : Yp H hd (.str n) (Y6 (yrs S.cs) (Sum.inr n : Key)) := Yp.k (k := Sum.inr n) hh
  rw [Jh] at g0
  exact ⟨_, rfl, w, _, dx, _, _, rfl, hw, T.cl_World, T.n_World_happened, rfl, hd, rfl, .inl ⟨_, .inl hh⟩, _, rfl, _, g0, q⟩
theorem ok_atom_stand {f : Addr} {fd : FuncData} (F : Fun K "atom_stand" "atom_stand" Xd f fd) (T : Txt K g mg) (D_person_stand : Dx P w0 K mg base 6 "person_stand" ["world", "atom"] (Jq K g)) (D_World_came_in : Dm P w0 K mg base CX0 g.World 1 "came_in" ["self", "word"] (Y7 K g)) : FnOk P w0 K mg base (CXR P w0 base) 7 f fd ["world", "atom"] (J7 K g) := by
  refine F.okX sc_atom_stand (fun vs H Q E h => ?_) (fun cdv A outer s H vs Q E hr h => ?_)
  · obtain ⟨w, S, R, p, t, rfl, _⟩ := h
    rfl
  obtain ⟨w, S, R, p, t, rfl, W, hp, hn, q1, q⟩ := h
  refine ⟨_, (
(@Ze _ _ _ _ _ (@Zu _ _ (2) _ _ _ _ sc_atom_stand.nd rfl (Or.inl rfl) (@Zt _ _ _ _ _ _ _ (@Zv _) (@qv _ 1 _ _ (by walk_at "w")) (@Zh _ _ _ _) (fun _ _ => rfl)) (by rfl) (by walk_at "u")) (@Ze _ _ _ _ _ (@ZA _ _ _ _ _ _ _ _ (@Zl _ _ _ _ _ _ _ _ (@Yc _) (@qv _ 2 _ _ (by walk_at "w")) (@Zn _ _ _ _) (Zr _)) (@Zf _ _ _ (@Zk _ _ _ _ (@Jl _ _ _ _ _ _ _ _ (@Zl _ _ _ _ _ _ _ _ (@op_ge _) (@Zz _ _ _ _ _ (@qv _ 0 _ _ (by walk_at "w")) rfl) (@Zt _ _ _ _ _ _ _ (@Zv _) (@qv _ 1 _ _ (by walk_at "w")) (@Zh _ _ _ _) (fun _ _ => rfl)) (Zr _)) (@ZL _ _ (.str "met") _ _ rfl T.m_MET ⟨_, rfl⟩ (by decide)) (@ZL _ _ (.str "hangs") _ _ rfl T.m_HANGS ⟨_, rfl⟩ (by decide))))) (@Zp _)) (@Ze _ _ _ _ _ (@ZA _ _ _ _ _ _ _ _ (@Zl _ _ _ _ _ _ _ _ (@Yc _) (@qv _ 2 _ _ (by walk_at "w")) (@Zn _ _ _ _) (Zr _)) (@Zf _ _ _ (@Zk _ _ _ _ (@Jl _ _ _ _ _ _ _ _ (@Zl _ _ _ _ _ _ _ _ (@op_isN _) (@ZN _ _ _ _ _ _ _ _ _ _ _ _ _ _ _ _ Jn D_World_came_in (hr.mono (by decide)) (@qv _ 0 _ _ (by walk_at "w")) (@Za _ _ _ _ _ (@Zt _ _ _ _ _ _ _ (@Zv _) (@qv _ 1 _ _ (by walk_at "w")) (@Zh _ _ _ _) (fun _ _ => rfl)) (@Zd _) (by rfl)) (by rfl) (by rfl) (by rfl)) (@pe_non _ _ _) (Zr _)) (@ZL _ _ (.str "hangs") _ _ rfl T.m_HANGS ⟨_, rfl⟩ (by decide)) (@ZL _ _ (.str "met") _ _ rfl T.m_MET ⟨_, rfl⟩ (by decide))))) (@Zp _)) (@Zf _ _ _ (@Zk _ _ _ _ (@J9 _ _ _ _ _ _ _ _ _ _ _ Xh D_person_stand (hr.mono (by decide)) (@Za _ _ _ _ _ (@qv _ 0 _ _ (by walk_at "w")) (@Za _ _ _ _ _ (@qv _ 1 _ _ (by walk_at "w")) (@Zd _) (by rfl)) (by rfl)) (by rfl) (by decide) (by rfl) (by rfl)))))))), ?_⟩
  obtain ⟨dx, b, hd, RL, hw, L, hh, eR, n1, n2⟩ := W.ex
  obtain ⟨dy, y1, y2, y3, hb⟩ := L.obj
  cases t with
  | year y =>
    have z := q rfl H (Zo.refl _)
    refine ⟨_, rfl, p, _, _, _, rfl, rfl, SqT.of hp, rfl, _, rfl, rfl, _, rfl, ifEq ⟨_, rfl, w, _, dx, _, _, rfl, hw, T.cl_World, T.n_World_year, rfl, _, rfl, p, _, _, _, rfl, rfl, SqT.of hp, rfl, _, _, rfl, rfl, _, rfl, YA (fun c => ?_) (fun c => ?_)⟩⟩
    · rw [show (Atm.year y).stand S = ("met" : Str) from if_pos (of_decide_eq_true c)] at z
      exact z
    · rw [show (Atm.year y).stand S = ("hangs" : Str) from if_neg (fun e => c (decide_eq_true e))] at z
      exact z
  | comes v =>
    have z := q rfl H (Zo.refl _)
    refine ⟨_, rfl, p, _, _, _, rfl, rfl, SqT.of hp, rfl, _, rfl, rfl, _, rfl, ZX (by decide +kernel) ⟨_, rfl, rfl, _, rfl, ifEq ⟨_, rfl, w, dx, _, rfl, hw, rfl, _, rfl, p, _, _, _, rfl, rfl, SqT.of hp, rfl, w, S, R, v, rfl, W, rfl, _, rfl, ?_⟩⟩⟩
    cases hy : yr S.cs v with
    | none =>
      rw [show (Atm.comes v).stand S = ("hangs" : Str) from if_neg (by unfold has; rw [hy]; decide)] at z
      exact YY z
    | some y =>
      rw [show (Atm.comes v).stand S = ("met" : Str) from if_pos (by unfold has; rw [hy]; rfl)] at z
      exact Yf z
  | born m => exact ⟨_, rfl, p, _, _, _, rfl, rfl, SqT.of hp, rfl, _, rfl, rfl, _, rfl, ZX (by decide +kernel) ⟨_, rfl, rfl, _, rfl, ZX (by decide +kernel) ⟨_, rfl, _, rfl, w, S, R, p, _, m, rfl, W, hp, rfl, hn m rfl, q1, q⟩⟩⟩
  | dead m => exact ⟨_, rfl, p, _, _, _, rfl, rfl, SqT.of hp, rfl, _, rfl, rfl, _, rfl, ZX (by decide +kernel) ⟨_, rfl, rfl, _, rfl, ZX (by decide +kernel) ⟨_, rfl, _, rfl, w, S, R, p, _, m, rfl, W, hp, rfl, hn m rfl, q1, q⟩⟩⟩
  | age m a => exact ⟨_, rfl, p, _, _, _, rfl, rfl, SqT.of hp, rfl, _, rfl, rfl, _, rfl, ZX (by decide +kernel) ⟨_, rfl, rfl, _, rfl, ZX (by decide +kernel) ⟨_, rfl, _, rfl, w, S, R, p, _, m, rfl, W, hp, rfl, hn m rfl, q1, q⟩⟩⟩
theorem ok_Lives_died_in {f : Addr} {fd : FuncData} (F : Fun K "died_in" "Lives.died_in" Yj f fd) (T : Txt K g mg) (D_Lives_want_known : Dm P w0 K mg base (CXR P w0 base) g.Lives 2 "want_known" ["self", "name"] (ZK K g)) : FnOk P w0 K mg base (CXR P w0 base) 3 f fd ["self", "name"] (Y8 K g) := by
  refine F.okX sc_Lives_died_in (fun vs H Q E h => ?_) (fun cdv A outer s H vs Q E hr h => ?_)
  · obtain ⟨b, bs, ds, R, n, rfl, _⟩ := h
    rfl
  obtain ⟨b, bs, ds, R, n, rfl, L, q1, q⟩ := h
  refine ⟨_, (
(@Ze _ _ _ _ _ (@ZG _ _ _ _ (@ZN _ _ _ _ _ _ _ _ _ _ _ _ _ _ _ _ Xh D_Lives_want_known (hr.mono (by decide)) (@qv _ 0 _ _ (by walk_at "w")) (@Za _ _ _ _ _ (@qv _ 1 _ _ (by walk_at "w")) (@Zd _) (by rfl)) (by rfl) (by rfl) (by rfl)) (by rfl)) (@Zf _ _ _ (@Zk _ _ _ _ (@pe_dget1 _ _ _ _ _ _ _ (ZW hr) (@Zz _ _ _ _ _ (@qv _ 0 _ _ (by walk_at "w")) rfl) (@qv _ 1 _ _ (by walk_at "w")) ⟨rfl, rfl, rfl, rfl⟩))))), ?_⟩
  obtain ⟨d1, d2, d3, ws, B, k1, k2, eR⟩ := id L.ex
  obtain ⟨dx, hb⟩ := B.obj
  refine ⟨_, rfl, b, dx, _, rfl, hb, rfl, _, rfl, b, bs, ds, R, n, rfl, L, q1, fun hn => ?_⟩
  have g0 := B.deaths n
  rw [Jh] at g0
  exact ⟨_, rfl, b, _, dx, _, _, rfl, hb, T.cl_Lives, T.n_Lives_deaths, rfl, d2, rfl, .inl ⟨_, .inl B.h2⟩, _, rfl, _, g0, q hn⟩
theorem ok_last_death {f : Addr} {fd : FuncData} (F : Fun K "last_death" "last_death" Xc f fd) (T : Txt K g mg) (D_Lives_died_in : Dm P w0 K mg base (CXR P w0 base) g.Lives 3 "died_in" ["self", "name"] (Y8 K g)) (D_Lives_nearest : Dm P w0 K mg base (CXR P w0 base) g.Lives 4 "nearest" ["self", "name"] (Z5 K g)) : FnOk P w0 K mg base CX0 5 f fd ["world", "name"] (Jd K g) := by
  refine F.ok sc_last_death (fun vs H Q E h => ?_) (fun cdv A outer s H vs Q E hr h => ?_)
  · obtain ⟨w, S, R, n, rfl, _⟩ := h
    rfl
  obtain ⟨w, S, R, n, rfl, W, hn, hp, hk, q⟩ := h
  refine ⟨_, (
(@Zf _ _ _ (@Zk _ _ _ _ (@ZN _ _ _ _ _ _ _ _ _ _ _ _ _ _ _ _ Jv D_Lives_died_in (hr.mono (by decide)) (@Zz _ _ _ _ _ (@qv _ 0 _ _ (by walk_at "w")) rfl) (@Za _ _ _ _ _ (@ZN _ _ _ _ _ _ _ _ _ _ _ _ _ _ _ _ Jv D_Lives_nearest (hr.mono (by decide)) (@Zz _ _ _ _ _ (@qv _ 0 _ _ (by walk_at "w")) rfl) (@Za _ _ _ _ _ (@qv _ 1 _ _ (by walk_at "w")) (@Zd _) (by rfl)) (by rfl) (by rfl) (by rfl)) (@Zd _) (by rfl)) (by rfl) (by rfl) (by rfl))))), ?_⟩
  obtain ⟨dx, b, hd, RL, hw, L, hh, eR, n1, n2⟩ := W.ex
  obtain ⟨dy, y1, y2, y3, hb⟩ := L.obj
  refine ⟨_, rfl, w, _, dx, _, _, rfl, hw, T.cl_World, T.n_World_lives, rfl, b, dy, _, rfl, hb, rfl, _, rfl, w, _, dx, _, _, rfl, hw, T.cl_World, T.n_World_lives, rfl, b, dy, _, rfl, hb, rfl, _, rfl, b, S.bs, S.ds, RL, n, rfl, L, hn, (fun e => by rw [hp] at e; cases e), fun _ H' s => ?_⟩
  exact ⟨b, S.bs, S.ds, RL, _, rfl, L.same s, (fun e => by rw [hk] at e; cases e), fun _ => q H' s⟩
theorem ok_Lives_born_in {f : Addr} {fd : FuncData} (F : Fun K "born_in" "Lives.born_in" Yk f fd) (T : Txt K g mg) (D_Lives_want_known : Dm P w0 K mg base (CXR P w0 base) g.Lives 2 "want_known" ["self", "name"] (ZK K g)) : FnOk P w0 K mg base (CXR P w0 base) 3 f fd ["self", "name"] (XZ K g) := by
  refine F.okX sc_Lives_born_in (fun vs H Q E h => ?_) (fun cdv A outer s H vs Q E hr h => ?_)
  · obtain ⟨b, bs, ds, R, n, rfl, _⟩ := h
    rfl
  obtain ⟨b, bs, ds, R, n, rfl, L, q1, q⟩ := h
  refine ⟨_, (
(@Ze _ _ _ _ _ (@ZG _ _ _ _ (@ZN _ _ _ _ _ _ _ _ _ _ _ _ _ _ _ _ Xh D_Lives_want_known (hr.mono (by decide)) (@qv _ 0 _ _ (by walk_at "w")) (@Za _ _ _ _ _ (@qv _ 1 _ _ (by walk_at "w")) (@Zd _) (by rfl)) (by rfl) (by rfl) (by rfl)) (by rfl)) (@Zf _ _ _ (@Zk _ _ _ _ (@pe_dget _ _ _ _ _ _ (ZW hr) (@Zz _ _ _ _ _ (@qv _ 0 _ _ (by walk_at "w")) rfl) (@qv _ 1 _ _ (by walk_at "w")) (fun _ _ => rfl)))))), ?_⟩
  obtain ⟨d1, d2, d3, ws, B, k1, k2, eR⟩ := id L.ex
  obtain ⟨dx, hb⟩ := B.obj
  refine ⟨_, rfl, b, dx, _, rfl, hb, rfl, _, rfl, b, bs, ds, R, n, rfl, L, q1, fun hn => ?_⟩
  have hn' := hn
  unfold has at hn'
  cases hy : yr bs n with
  | none => rw [hy] at hn'; cases hn'
  | some y =>
    have g0 := B.births n
    rw [Jh, hy] at g0
    exact ⟨_, rfl, b, _, dx, _, _, rfl, hb, T.cl_Lives, T.n_Lives_births, rfl, _, rfl, d1, _, rfl, g0, q y hy⟩
theorem ok_met_since {f : Addr} {fd : FuncData} (F : Fun K "met_since" "met_since" Xx f fd) (T : Txt K g mg) (D_Lives_born_in : Dm P w0 K mg base (CXR P w0 base) g.Lives 3 "born_in" ["self", "name"] (XZ K g)) (D_World_came_in : Dm P w0 K mg base CX0 g.World 1 "came_in" ["self", "word"] (Y7 K g)) (D_Lives_died_in : Dm P w0 K mg base (CXR P w0 base) g.Lives 3 "died_in" ["self", "name"] (Y8 K g)) : FnOk P w0 K mg base CX0 4 f fd ["world", "atom"] (sp_met_since K g) := by
  refine F.ok sc_met_since (fun vs H Q E h => ?_) (fun cdv A outer s H vs Q E hr h => ?_)
  · obtain ⟨w, S, R, p, t, rfl, _⟩ := h
    rfl
  obtain ⟨w, S, R, p, t, rfl, W, hp, hk, q⟩ := h
  refine ⟨_, (
(@Ze _ _ _ _ _ (@Zu _ _ (2) _ _ _ _ sc_met_since.nd rfl (Or.inl rfl) (@Zt _ _ _ _ _ _ _ (@Zv _) (@qv _ 1 _ _ (by walk_at "w")) (@Zh _ _ _ _) (fun _ _ => rfl)) (by rfl) (by walk_at "u")) (@Ze _ _ _ _ _ (@ZA _ _ _ _ _ _ _ _ (@Zl _ _ _ _ _ _ _ _ (@Yc _) (@qv _ 2 _ _ (by walk_at "w")) (@Zn _ _ _ _) (Zr _)) (@Zf _ _ _ (@Zk _ _ _ _ (@Zt _ _ _ _ _ _ _ (@Zv _) (@qv _ 1 _ _ (by walk_at "w")) (@Zh _ _ _ _) (fun _ _ => rfl)))) (@Zp _)) (@Ze _ _ _ _ _ (@ZA _ _ _ _ _ _ _ _ (@Zl _ _ _ _ _ _ _ _ (@Yc _) (@qv _ 2 _ _ (by walk_at "w")) (@Zn _ _ _ _) (Zr _)) (@Zf _ _ _ (@Zk _ _ _ _ (@ZN _ _ _ _ _ _ _ _ _ _ _ _ _ _ _ _ Jn D_World_came_in (hr.mono (by decide)) (@qv _ 0 _ _ (by walk_at "w")) (@Za _ _ _ _ _ (@Zt _ _ _ _ _ _ _ (@Zv _) (@qv _ 1 _ _ (by walk_at "w")) (@Zh _ _ _ _) (fun _ _ => rfl)) (@Zd _) (by rfl)) (by rfl) (by rfl) (by rfl)))) (@Zp _)) (@Ze _ _ _ _ _ (@ZA _ _ _ _ _ _ _ _ (@Zl _ _ _ _ _ _ _ _ (@Yc _) (@qv _ 2 _ _ (by walk_at "w")) (@Zn _ _ _ _) (Zr _)) (@Zf _ _ _ (@Zk _ _ _ _ (@ZN _ _ _ _ _ _ _ _ _ _ _ _ _ _ _ _ Jv D_Lives_died_in (hr.mono (by decide)) (@Zz _ _ _ _ _ (@qv _ 0 _ _ (by walk_at "w")) rfl) (@Za _ _ _ _ _ (@Zt _ _ _ _ _ _ _ (@Zv _) (@qv _ 1 _ _ (by walk_at "w")) (@Zh _ _ _ _) (fun _ _ => rfl)) (@Zd _) (by rfl)) (by rfl) (by rfl) (by rfl)))) (@Zp _)) (@Ze _ _ _ _ _ (@Zu _ _ (3) _ _ _ _ sc_met_since.nd rfl (Or.inl rfl) (@ZN _ _ _ _ _ _ _ _ _ _ _ _ _ _ _ _ Jv D_Lives_born_in (hr.mono (by decide)) (@Zz _ _ _ _ _ (@qv _ 0 _ _ (by walk_at "w")) rfl) (@Za _ _ _ _ _ (@Zt _ _ _ _ _ _ _ (@Zv _) (@qv _ 1 _ _ (by walk_at "w")) (@Zh _ _ _ _) (fun _ _ => rfl)) (@Zd _) (by rfl)) (by rfl) (by rfl) (by rfl)) (by rfl) (by walk_at "u")) (@Zf _ _ _ (@Zk _ _ _ _ (@Jl _ _ _ _ _ _ _ _ (@Zl _ _ _ _ _ _ _ _ (@Yc _) (@qv _ 2 _ _ (by walk_at "w")) (@Zn _ _ _ _) (Zr _)) (@qv _ 3 _ _ (by walk_at "w")) (@Zs _ _ _ _ _ _ _ _ (@Yz _) (@qv _ 3 _ _ (by walk_at "w")) (@Zt _ _ _ _ _ _ _ (@Zv _) (@qv _ 1 _ _ (by walk_at "w")) (@Zh _ _ _ _) (fun _ _ => rfl)))))))))))), ?_⟩
  obtain ⟨dx, b, hd, RL, hw, L, hh, eR, n1, n2⟩ := W.ex
  obtain ⟨dy, y1, y2, y3, hb⟩ := L.obj
  cases t with
  | year y => exact ⟨_, rfl, p, _, _, _, rfl, rfl, SqT.of hp, rfl, _, rfl, rfl, _, rfl, ifEq ⟨_, rfl, p, _, _, _, rfl, rfl, SqT.of hp, rfl, q⟩⟩
  | comes v => exact ⟨_, rfl, p, _, _, _, rfl, rfl, SqT.of hp, rfl, _, rfl, rfl, _, rfl, ZX (by decide +kernel) ⟨_, rfl, rfl, _, rfl, ifEq ⟨_, rfl, w, dx, _, rfl, hw, rfl, _, rfl, p, _, _, _, rfl, rfl, SqT.of hp, rfl, w, S, R, v, rfl, W, q⟩⟩⟩
  | dead m => exact ⟨_, rfl, p, _, _, _, rfl, rfl, SqT.of hp, rfl, _, rfl, rfl, _, rfl, ZX (by decide +kernel) ⟨_, rfl, rfl, _, rfl, ZX (by decide +kernel) ⟨_, rfl, rfl, _, rfl, ifEq ⟨_, rfl, w, _, dx, _, _, rfl, hw, T.cl_World, T.n_World_lives, rfl, b, dy, _, rfl, hb, rfl, _, rfl, p, _, _, _, rfl, rfl, SqT.of hp, rfl, b, S.bs, S.ds, RL, m, rfl, L, (fun e => by rw [hk m rfl] at e; cases e), fun _ => q⟩⟩⟩⟩
  | born m =>
    obtain ⟨y, hy⟩ := Jg (hk m rfl)
    refine ⟨_, rfl, p, _, _, _, rfl, rfl, SqT.of hp, rfl, _, rfl, rfl, _, rfl, ZX (by decide +kernel) ⟨_, rfl, rfl, _, rfl, ZX (by decide +kernel) ⟨_, rfl, rfl, _, rfl, ZX (by decide +kernel) ⟨_, rfl, w, _, dx, _, _, rfl, hw, T.cl_World, T.n_World_lives, rfl, b, dy, _, rfl, hb, rfl, _, rfl, p, _, _, _, rfl, rfl, SqT.of hp, rfl, b, S.bs, S.ds, RL, m, rfl, L, (fun e => by rw [hk m rfl] at e; cases e), fun y1 e1 => ⟨_, rfl, rfl, _, rfl, ifEq ⟨_, rfl, ?_⟩⟩⟩⟩⟩⟩
    rw [show (Atm.born m).met S = V.int y1 from by show ((yr S.bs m).map V.int).getD .non = _; rw [e1]; rfl] at q
    exact q
  | age m a =>
    obtain ⟨y, hy⟩ := Jg (hk m rfl)
    refine ⟨_, rfl, p, _, _, _, rfl, rfl, SqT.of hp, rfl, _, rfl, rfl, _, rfl, ZX (by decide +kernel) ⟨_, rfl, rfl, _, rfl, ZX (by decide +kernel) ⟨_, rfl, rfl, _, rfl, ZX (by decide +kernel) ⟨_, rfl, w, _, dx, _, _, rfl, hw, T.cl_World, T.n_World_lives, rfl, b, dy, _, rfl, hb, rfl, _, rfl, p, _, _, _, rfl, rfl, SqT.of hp, rfl, b, S.bs, S.ds, RL, m, rfl, L, (fun e => by rw [hk m rfl] at e; cases e), fun y1 e1 => ⟨_, rfl, rfl, _, rfl, ZX (by decide +kernel) ⟨_, rfl, _, rfl, p, _, _, _, rfl, rfl, SqT.of hp, rfl, _, _, rfl, rfl, ?_⟩⟩⟩⟩⟩⟩
    rw [show (Atm.age m a).met S = V.int (y1 + a) from by show ((yr S.bs m).map fun y => V.int (y + a)).getD .non = _; rw [e1]; rfl] at q
    exact q
theorem ok_atom_since {f : Addr} {fd : FuncData} (F : Fun K "atom_since" "atom_since" Xe f fd) (T : Txt K g mg) (D_atom_stand : Dx P w0 K mg base 7 "atom_stand" ["world", "atom"] (J7 K g)) (D_met_since : Dn P w0 K mg base 4 "met_since" ["world", "atom"] (sp_met_since K g)) (D_last_death : Dn P w0 K mg base 5 "last_death" ["world", "name"] (Jd K g)) : FnOk P w0 K mg base (CXR P w0 base) 8 f fd ["world", "atom"] (J8 K g) := by
  refine F.okX sc_atom_since (fun vs H Q E h => ?_) (fun cdv A outer s H vs Q E hr h => ?_)
  · obtain ⟨w, S, R, p, t, rfl, _⟩ := h
    rfl
  obtain ⟨w, S, R, p, t, rfl, W, hp, hn, q1, q⟩ := h
  refine ⟨_, (
(@Ze _ _ _ _ _ (@Zu _ _ (2) _ _ _ _ sc_atom_since.nd rfl (Or.inl rfl) (@J9 _ _ _ _ _ _ _ _ _ _ _ Xh D_atom_stand (hr.mono (by decide)) (@Za _ _ _ _ _ (@qv _ 0 _ _ (by walk_at "w")) (@Za _ _ _ _ _ (@qv _ 1 _ _ (by walk_at "w")) (@Zd _) (by rfl)) (by rfl)) (by rfl) (by decide) (by rfl) (by rfl)) (by rfl) (by walk_at "u")) (@Ze _ _ _ _ _ (@ZA _ _ _ _ _ _ _ _ (@Zl _ _ _ _ _ _ _ _ (@Yc _) (@qv _ 2 _ _ (by walk_at "w")) (@ZL _ _ (.str "hangs") _ _ rfl T.m_HANGS ⟨_, rfl⟩ (by decide)) (Zr _)) (@Zf _ _ _ (@Zk _ _ _ _ (@pe_non _ _ _))) (@Zp _)) (@Zf _ _ _ (@Zk _ _ _ _ (@Jl _ _ _ _ _ _ _ _ (@Zl _ _ _ _ _ _ _ _ (@Yc _) (@qv _ 2 _ _ (by walk_at "w")) (@ZL _ _ (.str "met") _ _ rfl T.m_MET ⟨_, rfl⟩ (by decide)) (Zr _)) (@Zy _ _ _ _ _ _ _ _ _ _ D_met_since (hr.mono (by decide)) (@Za _ _ _ _ _ (@qv _ 0 _ _ (by walk_at "w")) (@Za _ _ _ _ _ (@qv _ 1 _ _ (by walk_at "w")) (@Zd _) (by rfl)) (by rfl)) (by rfl) (by decide) (by rfl) (by rfl)) (@Zy _ _ _ _ _ _ _ _ _ _ D_last_death (hr.mono (by decide)) (@Za _ _ _ _ _ (@qv _ 0 _ _ (by walk_at "w")) (@Za _ _ _ _ _ (@Zt _ _ _ _ _ _ _ (@Zv _) (@qv _ 1 _ _ (by walk_at "w")) (@Zh _ _ _ _) (fun _ _ => rfl)) (@Zd _) (by rfl)) (by rfl)) (by rfl) (by decide) (by rfl) (by rfl)))))))), ?_⟩
  refine ⟨_, rfl, _, rfl, w, S, R, p, t, rfl, W, hp, hn, q1, fun hb H1 s1 => ?_⟩
  have W1 := W.same s1
  have hp1 := s1 _ _ hp
  have z := q hb
  by_cases e1 : t.stand S = ("hangs" : Str)
  · rw [e1]
    refine ⟨_, rfl, rfl, _, rfl, ifEq ?_⟩
    have z1 := z H1 s1
    rw [show t.since S = V.non from if_pos e1] at z1
    exact z1
  · refine ⟨_, rfl, rfl, _, rfl, ZX (beq_eq_false_iff_ne.mpr e1) ?_⟩
    by_cases e2 : t.stand S = ("met" : Str)
    · rw [e2]
      refine ⟨_, rfl, rfl, _, rfl, ifEq ⟨_, rfl, _, rfl, w, S, R, p, t, rfl, W1, hp1, (fun n hw => Atm.known_met hw e2), ?_⟩⟩
      have z1 := z H1 s1
      rw [show t.since S = t.met S from (if_neg e1).trans (if_pos e2)] at z1
      exact z1
    · refine ⟨_, rfl, rfl, _, rfl, ZX (beq_eq_false_iff_ne.mpr e2) ?_⟩
      obtain ⟨n, ht⟩ := Atm.who_failed e1 e2
      obtain ⟨np, nk1⟩ := Atm.near_ok W.wf ht hb
      rw [show t.since S = ((yr S.ds (nr S.bs n)).map V.int).getD .non from (if_neg e1).trans ((if_neg e2).trans (by rw [ht]))] at z
      cases t with
      | year y => cases ht
      | comes v => cases ht
      | born m =>
        obtain rfl : m = n := Option.some.inj ht
        exact ⟨_, rfl, _, rfl, p, _, _, _, rfl, rfl, SqT.of hp1, rfl, w, S, R, m, rfl, W1, hn m rfl, np, nk1, fun H2 s2 => z H2 (s1.trans s2)⟩
      | dead m =>
        obtain rfl : m = n := Option.some.inj ht
        exact ⟨_, rfl, _, rfl, p, _, _, _, rfl, rfl, SqT.of hp1, rfl, w, S, R, m, rfl, W1, hn m rfl, np, nk1, fun H2 s2 => z H2 (s1.trans s2)⟩
      | age m a =>
        obtain rfl : m = n := Option.some.inj ht
        exact ⟨_, rfl, _, rfl, p, _, _, _, rfl, rfl, SqT.of hp1, rfl, w, S, R, m, rfl, W1, hn m rfl, np, nk1, fun H2 s2 => z H2 (s1.trans s2)⟩
theorem ok_Lives_children {f : Addr} {fd : FuncData} (F : Fun K "children" "Lives.children" Z7 f fd) (T : Txt K g mg) (D_Lives_want_known : Dm P w0 K mg base (CXR P w0 base) g.Lives 2 "want_known" ["self", "name"] (ZK K g)) : FnOk P w0 K mg base (CXR P w0 base) 3 f fd ["self", "name"] (XM K g) := by
  refine F.okX sc_Lives_children (fun vs H Q E h => ?_) (fun cdv A outer s H vs Q E hr h => ?_)
  · obtain ⟨b, bs, ds, R, n, rfl, _⟩ := h
    rfl
  obtain ⟨b, bs, ds, R, n, rfl, L, q1, q⟩ := h
  refine ⟨_, (
(@Ze _ _ _ _ _ (@ZG _ _ _ _ (@ZN _ _ _ _ _ _ _ _ _ _ _ _ _ _ _ _ Xh D_Lives_want_known (hr.mono (by decide)) (@qv _ 0 _ _ (by walk_at "w")) (@Za _ _ _ _ _ (@qv _ 1 _ _ (by walk_at "w")) (@Zd _) (by rfl)) (by rfl) (by rfl) (by rfl)) (by rfl)) (@Zf _ _ _ (@Zk _ _ _ _ (@Yx _ _ _ _ _ _ _ _ _ (show Jw _ (.type "list") (rListS K) from (@call_listS _)) rfl T.z_list PyProof.Rows.boot_list (@Za _ _ _ _ _ (@pe_dget _ _ _ _ _ _ (ZW hr) (@Zz _ _ _ _ _ (@qv _ 0 _ _ (by walk_at "w")) rfl) (@qv _ 1 _ _ (by walk_at "w")) (fun _ _ => rfl)) (@Zd _) (by rfl)) (by decide) (by decide) (by rfl) (by rfl)))))), ?_⟩
  obtain ⟨d1, d2, d3, ws, B, k1, k2, eR⟩ := id L.ex
  obtain ⟨dx, hb⟩ := B.obj
  refine ⟨_, rfl, b, dx, _, rfl, hb, rfl, _, rfl, b, bs, ds, R, n, rfl, L, q1, fun hn => ?_⟩
  obtain ⟨a, hw⟩ := bro_of k1 k2 hn
  have g0 : Yp H d3 (.str n) (Y6 (brs ws) (Sum.inr n : Key)) := Yp.k (k := Sum.inr n) B.h3
  rw [valV_brs, hw] at g0
  exact ⟨_, rfl, b, _, dx, _, _, rfl, hb, T.cl_Lives, T.n_Lives_broods, rfl, _, rfl, d3, _, rfl, g0, a, _, rfl, .inl (SqL.of (B.kids _ (bro_mem hw))), fun l hl => q hn l _ (Zm hl _) hl Zc⟩
theorem ok_brood {f : Addr} {fd : FuncData} (F : Fun K "brood" "brood" s_brood f fd) (T : Txt K g mg) (D_Lives_known : Dm P w0 K mg base CX0 g.Lives 1 "known" ["self", "name"] (Ya K g)) (D_Lives_children : Dm P w0 K mg base (CXR P w0 base) g.Lives 3 "children" ["self", "name"] (XM K g)) : FnOk P w0 K mg base CX0 4 f fd ["world", "name"] (sp_brood K g) := by
  refine F.ok sc_brood (fun vs H Q E h => ?_) (fun cdv A outer s H vs Q E hr h => ?_)
  · obtain ⟨w, S, R, n, rfl, _⟩ := h
    rfl
  obtain ⟨w, S, R, n, rfl, W, q⟩ := h
  refine ⟨_, (
(@Zf _ _ _ (@Zk _ _ _ _ (@Jl _ _ _ _ _ _ _ _ (@Xj _ _ _ (@ZN _ _ _ _ _ _ _ _ _ _ _ _ _ _ _ _ Jn D_Lives_known (hr.mono (by decide)) (@Zz _ _ _ _ _ (@qv _ 0 _ _ (by walk_at "w")) rfl) (@Za _ _ _ _ _ (@qv _ 1 _ _ (by walk_at "w")) (@Zd _) (by rfl)) (by rfl) (by rfl) (by rfl)) (by intro _ ; rfl)) (@ZN _ _ _ _ _ _ _ _ _ _ _ _ _ _ _ _ Jv D_Lives_children (hr.mono (by decide)) (@Zz _ _ _ _ _ (@qv _ 0 _ _ (by walk_at "w")) rfl) (@Za _ _ _ _ _ (@qv _ 1 _ _ (by walk_at "w")) (@Zd _) (by rfl)) (by rfl) (by rfl) (by rfl)) (@Xr _ _ _ _ (@Zd _)))))), ?_⟩
  obtain ⟨dx, b, hd, RL, hw, L, hh, eR, n1, n2⟩ := W.ex
  obtain ⟨dy, y1, y2, y3, hb⟩ := L.obj
  have wf := W.wf
  walk_at "go"
  cases hk : has S.bs n with
  | true =>
    refine YY ?_
    walk_at "go"
    refine ⟨(fun e => by rw [hk] at e; cases e), fun _ l H' s f0 h => q l H' s f0 (by rw [h, kidVL]; rfl)⟩
  | false =>
    refine Yf ?_
    exact ⟨Nat.zero_le _, fun l hl => q l _ (Zm hl _) hl (by rw [Zc, kidsOf_none wf hk]; rfl)⟩
theorem ok_members {f : Addr} {fd : FuncData} (F : Fun K "members" "members" JJ f fd) (T : Txt K g mg) (D_brood : Dn P w0 K mg base 4 "brood" ["world", "name"] (sp_brood K g)) : FnOk P w0 K mg base CX0 5 f fd ["world", "name", "out"] (XX K g) := by
  refine F.ok sc_members (fun vs H Q E h => ?_) (fun cdv A outer s H vs Q E hr h => ?_)
  · obtain ⟨w, S, R, n, o, os, rfl, _⟩ := h
    rfl
  obtain ⟨w, S, R, n, o, os, rfl, W, ho, hlen, q⟩ := h
  refine ⟨_, (
(@Zf _ _ _ (@Zk _ _ _ _ (@pe_lc _ _ _ ("child") _ _ _ ([("out", s.heap.objs.size + 1)]) _ ([("out", 2)]) _ _ _ rfl (@YB _ _ _ _ (@Zy _ _ _ _ _ _ _ _ _ _ D_brood (hr.mono (by decide)) (@Za _ _ _ _ _ (@qv _ 0 _ _ (by walk_at "w")) (@Za _ _ _ _ _ (@qv _ 1 _ _ (by walk_at "w")) (@Zd _) (by rfl)) (by rfl)) (by rfl) (by decide) (by rfl) (by rfl))) (fun _ _ _ _ _ => (@Xl _ _ _ (@Zl _ _ _ _ _ _ _ _ (show OpR _ (compareOp .NotIn) (rIn K true) from (@op_notIn_seq _)) (@qv _ 0 _ _ (by walk_at "w")) (@qv _ 1 _ _ (by walk_at "w")) rfl))) (fun _ _ _ _ _ => (@qv _ 0 _ _ (by walk_at "w"))) rfl (by decide +kernel) rfl (by decide +kernel) rfl (fun _ _ h => h) (Ju rfl) (fun p hp => by rw [List.mem_singleton.mp hp]; exact ⟨rfl, rfl, by first | exact .inl rfl | exact .inr rfl⟩) (by decide +kernel) (by intro _ ; rfl))))), ?_⟩
  have wf := W.wf
  unfold tRet
  refine lcS (ss := ZQ S n) (fun l1 H1 => Zo H H1 ∧ H1 l1 = some (.lst ((ZQ S n).map V.str)) ∧ H l1 = none) (fun c => !decide (c ∈ os)) V.str ?_ (fun a H1 h => SqL.of h.2.1) (by have := Ja wf n; omega) ?_ ?_ ?_
  · intro R0 r
    walk_at "go"
    exact fun l H' s f h => r l H' ⟨s, h, f⟩
  · rintro a0 H1 x H2 ⟨s1, h1, _⟩ hx s R0 r
    refine ⟨_, rfl, _, rfl, o, _, rfl, .inl ((s1.trans s).seq ho), rfl, flat_strs os, _, rfl, ?_⟩
    rw [show (if true = true then !inV (V.str x) (os.map V.str) else inV (V.str x) (os.map V.str)) = !decide (x ∈ os) from by rw [if_pos rfl, inV_strs]]
    exact r H2 (Zo.refl _)
  · exact fun a H1 x H2 _ hx _ s R0 r => ⟨_, rfl, r H2 (Zo.refl _)⟩
  · rintro a0 H1 D H2 ⟨s1, h1, _⟩ hD s h
    exact q D H2 (s1.trans s) (s1.free hD) h
theorem ok_seats {f : Addr} {fd : FuncData} (F : Fun K "seats" "seats" s_seats f fd) (T : Txt K g mg) (D_members : Dn P w0 K mg base 5 "members" ["world", "name", "out"] (XX K g)) (D_Lives_age_in : Dm P w0 K mg base (CXR P w0 base) g.Lives 3 "age_in" ["self", "name", "year"] (Xo K g)) : FnOk P w0 K mg base CX0 6 f fd ["world", "name", "age", "out"] (sp_seats K g) := by
  refine F.ok sc_seats (fun vs H Q E h => ?_) (fun cdv A outer s H vs Q E hr h => ?_)
  · obtain ⟨w, S, R, n, a, o, os, rfl, _⟩ := h
    rfl
  obtain ⟨w, S, R, n, a, o, os, rfl, W, ho, hlen, q⟩ := h
  refine ⟨_, (
(@Ze _ _ _ _ _ (@ps_asg _ _ _ _ _ _ (@Xq _ _ _ _ _ (@Za _ _ _ _ _ (@Zz _ _ _ _ _ (@qv _ 0 _ _ (by walk_at "w")) rfl) (@Za _ _ _ _ _ (@Zz _ _ _ _ _ (@qv _ 0 _ _ (by walk_at "w")) rfl) (@Zd _) (by rfl)) (by rfl))) (@pg_tup _ _ _ _ _ _ rfl (@Z2 _ _ _ _ _ (@ZP _ _ (4) _ sc_seats.nd rfl (Or.inr rfl) (by walk_at "u")) (@Z2 _ _ _ _ _ (@ZP _ _ (5) _ sc_seats.nd rfl (Or.inr rfl) (by walk_at "u")) (@pgs_nil _) (by rfl)) (by rfl)) (by rfl) (by rfl)) (by rfl) (by rfl) (by rfl)) (@Zf _ _ _ (@Zk _ _ _ _ (@pe_lc _ _ _ ("child") _ _ _ ([("year", s.heap.objs.size + 3), ("lives", s.heap.objs.size + 2), ("age", s.heap.objs.size + 1)]) _ ([("age", 2), ("year", 5), ("lives", 4)]) _ _ _ rfl (@YB _ _ _ _ (@Zy _ _ _ _ _ _ _ _ _ _ D_members (hr.mono (by decide)) (@Za _ _ _ _ _ (@qv _ 0 _ _ (by walk_at "w")) (@Za _ _ _ _ _ (@qv _ 1 _ _ (by walk_at "w")) (@Za _ _ _ _ _ (@qv _ 3 _ _ (by walk_at "w")) (@Zd _) (by rfl)) (by rfl)) (by rfl)) (by rfl) (by decide) (by rfl) (by rfl))) (fun _ _ _ _ _ => (@Xl _ _ _ (@Zl _ _ _ _ _ _ _ _ (@op_ge _) (@ZN _ _ _ _ _ _ _ _ _ _ _ _ _ _ _ _ Jv D_Lives_age_in (hr.mono (by decide)) (@qv _ 3 _ _ (by walk_at "w")) (@Za _ _ _ _ _ (@qv _ 0 _ _ (by walk_at "w")) (@Za _ _ _ _ _ (@qv _ 2 _ _ (by walk_at "w")) (@Zd _) (by rfl)) (by rfl)) (by rfl) (by rfl) (by rfl)) (@qv _ 1 _ _ (by walk_at "w")) (Zr _)))) (fun _ _ _ _ _ => (@qv _ 0 _ _ (by walk_at "w"))) rfl (by decide +kernel) rfl (by decide +kernel) rfl (fun _ _ h => h) (Ju rfl) (fun p hp => by simp only [List.mem_cons, List.not_mem_nil, or_false] at hp; rcases hp with rfl | rfl | rfl <;> exact ⟨rfl, rfl, by first | exact .inl rfl | exact .inr rfl⟩) (by decide +kernel) (by intro _ ; rfl)))))), ?_⟩
  have wf := W.wf
  obtain ⟨dx, b, hd, RL, hw, L, hh, eR, n1, n2⟩ := W.ex
  obtain ⟨dy, y1, y2, y3, hb⟩ := L.obj
  walk_at "go"
  intro tp htp
  have st := Zm htp (.tup [V.ref b, V.int S.y])
  have W1 := W.same st
  have ho1 := st.seq ho
  refine ⟨tp, _, rfl, SqT.of Zc, rfl, _, _, rfl, _, _, rfl, rfl, ?_⟩
  unfold tRet
  dsimp only
  refine lcS (ss := YZ S n os) (fun l1 H1 => Zo H H1 ∧ H1 l1 = some (.lst ((YZ S n os).map V.str)) ∧ H l1 = none) (fun c => decide (a ≤ JG S c)) V.str ?_ (fun a H1 h => SqL.of h.2.1) (by have := J0 wf (n := n) (os := os); omega) ?_ ?_ ?_
  · intro R0 r
    walk_at "go"
    exact fun l H' s f h => r l H' ⟨st.trans s, h, st.free f⟩
  · rintro a0 H1 x H2 ⟨s1, h1, _⟩ hx s R0 r
    have hk := Ye wf (Y4 hx)
    obtain ⟨y, hy⟩ := Jg hk
    have L2 := L.same (s1.trans s)
    obtain ⟨dy, y1, y2, y3, hb⟩ := L2.obj
    walk_at "go"
    refine ⟨(fun e => by rw [hk] at e; cases e), fun y' hy' => ?_⟩
    rw [age_yr hy']
    walk_at "go"
    exact r H2 (Zo.refl _)
  · exact fun a H1 x H2 _ hx _ s R0 r => ⟨_, rfl, r H2 (Zo.refl _)⟩
  · rintro a0 H1 D H2 ⟨s1, h1, _⟩ hD s h
    exact q D H2 (s1.trans s) (s1.free hD) h
theorem ok_has_seat {f : Addr} {fd : FuncData} (F : Fun K "has_seat" "has_seat" X9 f fd) (T : Txt K g mg) (D_members : Dn P w0 K mg base 5 "members" ["world", "name", "out"] (XX K g)) (D_World_age : Dm P w0 K mg base (CXR P w0 base) g.World 4 "age" ["self", "name"] (JB K g)) : FnOk P w0 K mg base CX0 6 f fd ["world", "name", "age", "out"] (sp_has_seat K g) := by
  refine F.ok sc_has_seat (fun vs H Q E h => ?_) (fun cdv A outer s H vs Q E hr h => ?_)
  · obtain ⟨w, S, R, n, a, o, os, rfl, _⟩ := h
    rfl
  obtain ⟨w, S, R, n, a, o, os, rfl, W, ho, hlen, q⟩ := h
  refine ⟨_, (
(@Ze _ _ _ _ _ (@JW _ _ _ _ _ _ _ _ PassesOwn.never rfl (@YB _ _ _ _ (@Zy _ _ _ _ _ _ _ _ _ _ D_members (hr.mono (by decide)) (@Za _ _ _ _ _ (@qv _ 0 _ _ (by walk_at "w")) (@Za _ _ _ _ _ (@qv _ 1 _ _ (by walk_at "w")) (@Za _ _ _ _ _ (@qv _ 3 _ _ (by walk_at "w")) (@Zd _) (by rfl)) (by rfl)) (by rfl)) (by rfl) (by decide) (by rfl) (by rfl))) (@ZP _ _ (4) _ sc_has_seat.nd rfl (Or.inl rfl) (by walk_at "u")) (@Zf _ _ _ (@ZA _ _ _ _ _ _ _ _ (@Zl _ _ _ _ _ _ _ _ (@op_ge _) (@ZN _ _ _ _ _ _ _ _ _ _ _ _ _ _ _ _ Jv D_World_age (hr.mono (by decide)) (@qv _ 0 _ _ (by walk_at "w")) (@Za _ _ _ _ _ (@qv _ 4 _ _ (by walk_at "w")) (@Zd _) (by rfl)) (by rfl) (by rfl) (by rfl)) (@qv _ 2 _ _ (by walk_at "w")) (Zr _)) (@Zf _ _ _ (@Zk _ _ _ _ (@pe_bl _ _ _ _))) (@Zp _))) (by intro _ ; rfl)) (@Zf _ _ _ (@Zk _ _ _ _ (@pe_bl _ _ _ _))))), ?_⟩
  have wf := W.wf
  refine ⟨_, rfl, _, rfl, _, rfl, w, S, R, n, o, os, rfl, W, ho, hlen, fun l1 H1 s1 f1 h1 => ?_⟩
  refine ⟨l1, rfl, ⟨_, SqL.of h1⟩, for_list (xs := (YZ S n os).map V.str) (fun i σ H2 => ∃ v4 : Option V, σ = [some (.ref w), some (.str n), some (.int a), some (.ref o), v4] ∧ Zo H1 H2 ∧ ((YZ S n os).take i).any (fun c => decide (a ≤ JG S c)) = false) ⟨_, rfl, Zo.refl _, rfl⟩ ?_ ?_ ?_⟩
  · rintro i σ H2 _ ⟨_, rfl, s2, _⟩
    exact SqL.of (s2 _ _ h1)
  · rintro i x σ H2 hx ⟨v4, rfl, s2, no⟩
    rw [List.getElem?_map] at hx
    cases e : (YZ S n os)[i]? with
    | none => rw [e] at hx; cases hx
    | some c =>
      rw [e] at hx
      cases hx
      have hm := List.mem_of_getElem? e
      have hk := Ye wf (Y4 hm)
      have W2 := (W.same s1).same s2
      obtain ⟨dx, b, hd, RL, hw, L, hh, eR, n1, n2⟩ := W2.ex
      refine ⟨_, rfl, w, dx, _, rfl, hw, rfl, _, rfl, w, S, R, c, rfl, W2, (fun z => by rw [hk] at z; cases z), fun y hy => ?_⟩
      rw [age_yr hy]
      refine ⟨_, rfl, _, _, rfl, rfl, _, rfl, YA (fun cc => ?_) (fun cc => ?_)⟩
      · have z : Jf S n a os = true := List.any_eq_true.mpr ⟨c, hm, cc⟩
        rw [z] at q
        exact q H2 (s1.trans s2)
      · refine ⟨_, rfl, s2, ?_⟩
        rw [List.take_succ, e, List.any_append, no]
        show (false || ([c].any fun c => decide (a ≤ JG S c))) = false
        rw [Bool.false_or, List.any_cons, List.any_nil, Bool.or_false]
        exact Bool.eq_false_iff.mpr cc
  · rintro σ H2 ⟨v4, rfl, s2, no⟩
    rw [List.length_map, List.take_length] at no
    have z : Jf S n a os = false := no
    rw [z] at q
    exact q H2 (s1.trans s2)
theorem ok_waiting {f : Addr} {fd : FuncData} (F : Fun K "waiting" "waiting" JI f fd) (T : Txt K g mg) (D_members : Dn P w0 K mg base 5 "members" ["world", "name", "out"] (XX K g)) (D_age_stand : Dn P w0 K mg base 5 "age_stand" ["world", "name", "age"] (JA K g)) : FnOk P w0 K mg base CX0 6 f fd ["world", "name", "age", "out"] (sp_waiting K g) := by
  refine F.ok sc_waiting (fun vs H Q E h => ?_) (fun cdv A outer s H vs Q E hr h => ?_)
  · obtain ⟨w, S, R, n, a, o, os, rfl, _⟩ := h
    rfl
  obtain ⟨w, S, R, n, a, o, os, rfl, W, ho, hlen, q⟩ := h
  refine ⟨_, (
(@Zf _ _ _ (@Zk _ _ _ _ (@pe_lc _ _ _ ("child") _ _ _ ([("world", s.heap.objs.size + 1), ("age", s.heap.objs.size + 2)]) _ ([("world", 0), ("age", 2)]) _ _ _ rfl (@YB _ _ _ _ (@Zy _ _ _ _ _ _ _ _ _ _ D_members (hr.mono (by decide)) (@Za _ _ _ _ _ (@qv _ 0 _ _ (by walk_at "w")) (@Za _ _ _ _ _ (@qv _ 1 _ _ (by walk_at "w")) (@Za _ _ _ _ _ (@qv _ 3 _ _ (by walk_at "w")) (@Zd _) (by rfl)) (by rfl)) (by rfl)) (by rfl) (by decide) (by rfl) (by rfl))) (fun _ _ _ _ _ => (@Xl _ _ _ (@Zl _ _ _ _ _ _ _ _ (@Yc _) (@Zy _ _ _ _ _ _ _ _ _ _ D_age_stand (hr.mono (by decide)) (@Za _ _ _ _ _ (@qv _ 1 _ _ (by walk_at "w")) (@Za _ _ _ _ _ (@qv _ 0 _ _ (by walk_at "w")) (@Za _ _ _ _ _ (@qv _ 2 _ _ (by walk_at "w")) (@Zd _) (by rfl)) (by rfl)) (by rfl)) (by rfl) (by decide) (by rfl) (by rfl)) (@ZL _ _ (.str "hangs") _ _ rfl T.m_HANGS ⟨_, rfl⟩ (by decide)) (Zr _)))) (fun _ _ _ _ _ => (@qv _ 0 _ _ (by walk_at "w"))) rfl (by decide +kernel) rfl (by decide +kernel) rfl (L2.cl_sub (fun p hp => by simp only [List.mem_cons, List.not_mem_nil, or_false] at hp; rcases hp with rfl | rfl <;> rfl)) (Ju rfl) (fun p hp => by simp only [List.mem_cons, List.not_mem_nil, or_false] at hp; rcases hp with rfl | rfl <;> exact ⟨rfl, rfl, by first | exact .inl rfl | exact .inr rfl⟩) (by decide +kernel) (by intro _ ; rfl))))), ?_⟩
  have wf := W.wf
  unfold tRet
  refine lcS (ss := YZ S n os) (fun l1 H1 => Zo H H1 ∧ H1 l1 = some (.lst ((YZ S n os).map V.str)) ∧ H l1 = none) (fun c => !decide (a ≤ JG S c) && !has S.ds c) V.str ?_ (fun a H1 h => SqL.of h.2.1) (by have := J0 wf (n := n) (os := os); omega) ?_ ?_ ?_
  · intro R0 r
    walk_at "go"
    exact fun l H' s f h => r l H' ⟨s, h, f⟩
  · rintro a0 H1 x H2 ⟨s1, h1, _⟩ hx s R0 r
    have hk := Ye wf (Y4 hx)
    obtain ⟨y, hy⟩ := Jg hk
    have W2 := W.same (s1.trans s)
    refine ⟨_, rfl, _, rfl, _, rfl, w, S, R, x, a, y, rfl, W2, hk, hy, rfl, _, rfl, ?_⟩
    rw [stAge_hangs hy]
    exact r H2 (Zo.refl _)
  · exact fun a H1 x H2 _ hx _ s R0 r => ⟨_, rfl, r H2 (Zo.refl _)⟩
  · rintro a0 H1 D H2 ⟨s1, h1, _⟩ hD s h
    exact q D H2 (s1.trans s) (s1.free hD) h
theorem ok_may_grow {f : Addr} {fd : FuncData} (F : Fun K "may_grow" "may_grow" X1 f fd) (T : Txt K g mg) (D_Lives_alive : Dm P w0 K mg base CX0 g.Lives 1 "alive" ["self", "name"] (Yb K g)) (D_Lives_nearest : Dm P w0 K mg base (CXR P w0 base) g.Lives 4 "nearest" ["self", "name"] (Z5 K g)) : FnOk P w0 K mg base CX0 5 f fd ["world", "name"] (sp_may_grow K g) := by
  refine F.ok sc_may_grow (fun vs H Q E h => ?_) (fun cdv A outer s H vs Q E hr h => ?_)
  · obtain ⟨w, S, R, n, rfl, _⟩ := h
    rfl
  obtain ⟨w, S, R, n, rfl, W, hp, q⟩ := h
  refine ⟨_, (
(@Zf _ _ _ (@Zk _ _ _ _ (@ZN _ _ _ _ _ _ _ _ _ _ _ _ _ _ _ _ Jn D_Lives_alive (hr.mono (by decide)) (@Zz _ _ _ _ _ (@qv _ 0 _ _ (by walk_at "w")) rfl) (@Za _ _ _ _ _ (@ZN _ _ _ _ _ _ _ _ _ _ _ _ _ _ _ _ Jv D_Lives_nearest (hr.mono (by decide)) (@Zz _ _ _ _ _ (@qv _ 0 _ _ (by walk_at "w")) rfl) (@Za _ _ _ _ _ (@qv _ 1 _ _ (by walk_at "w")) (@Zd _) (by rfl)) (by rfl) (by rfl) (by rfl)) (@Zd _) (by rfl)) (by rfl) (by rfl) (by rfl))))), ?_⟩
  obtain ⟨dx, b, hd, RL, hw, L, hh, eR, n1, n2⟩ := W.ex
  obtain ⟨dy, y1, y2, y3, hb⟩ := L.obj
  refine ⟨_, rfl, w, _, dx, _, _, rfl, hw, T.cl_World, T.n_World_lives, rfl, b, dy, _, rfl, hb, rfl, _, rfl, w, _, dx, _, _, rfl, hw, T.cl_World, T.n_World_lives, rfl, b, dy, _, rfl, hb, rfl, _, rfl, b, S.bs, S.ds, RL, n, rfl, L, by have := Je hp; omega, (fun e => by rw [hp] at e; cases e), fun _ H' s => ?_⟩
  exact ⟨b, S.bs, S.ds, RL, _, rfl, L.same s, q H' s⟩
theorem ok_class_stand {f : Addr} {fd : FuncData} (F : Fun K "class_stand" "class_stand" YL f fd) (T : Txt K g mg) (D_may_grow : Dn P w0 K mg base 5 "may_grow" ["world", "name"] (sp_may_grow K g)) (D_waiting : Dn P w0 K mg base 6 "waiting" ["world", "name", "age", "out"] (sp_waiting K g)) (D_has_seat : Dn P w0 K mg base 6 "has_seat" ["world", "name", "age", "out"] (sp_has_seat K g)) : FnOk P w0 K mg base CX0 7 f fd ["world", "name", "age", "out"] (XI K g) := by
  refine F.ok sc_class_stand (fun vs H Q E h => ?_) (fun cdv A outer s H vs Q E hr h => ?_)
  · obtain ⟨w, S, R, n, a, o, os, rfl, _⟩ := h
    rfl
  obtain ⟨w, S, R, n, a, o, os, rfl, W, ho, hlen, hp, q⟩ := h
  refine ⟨_, (
(@Ze _ _ _ _ _ (@ZA _ _ _ _ _ _ _ _ (@PW.pt _ _ _ (@pw_or _ _ _ _ _ _ _ (@Xj _ _ _ (@Zy _ _ _ _ _ _ _ _ _ _ D_may_grow (hr.mono (by decide)) (@Za _ _ _ _ _ (@qv _ 0 _ _ (by walk_at "w")) (@Za _ _ _ _ _ (@qv _ 1 _ _ (by walk_at "w")) (@Zd _) (by rfl)) (by rfl)) (by rfl) (by decide) (by rfl) (by rfl)) (by intro _ ; rfl)) (@pw_or1 _ _ _ _ (@pt_truth _ _ _ (@Zy _ _ _ _ _ _ _ _ _ _ D_waiting (hr.mono (by decide)) (@Za _ _ _ _ _ (@qv _ 0 _ _ (by walk_at "w")) (@Za _ _ _ _ _ (@qv _ 1 _ _ (by walk_at "w")) (@Za _ _ _ _ _ (@qv _ 2 _ _ (by walk_at "w")) (@Za _ _ _ _ _ (@qv _ 3 _ _ (by walk_at "w")) (@Zd _) (by rfl)) (by rfl)) (by rfl)) (by rfl)) (by rfl) (by decide) (by rfl) (by rfl)) (fun _ => rfl))))) (@Zf _ _ _ (@Zk _ _ _ _ (@ZL _ _ (.str "hangs") _ _ rfl T.m_HANGS ⟨_, rfl⟩ (by decide)))) (@Zp _)) (@Zf _ _ _ (@Zk _ _ _ _ (@Jl _ _ _ _ _ _ _ _ (@Xj _ _ _ (@Zy _ _ _ _ _ _ _ _ _ _ D_has_seat (hr.mono (by decide)) (@Za _ _ _ _ _ (@qv _ 0 _ _ (by walk_at "w")) (@Za _ _ _ _ _ (@qv _ 1 _ _ (by walk_at "w")) (@Za _ _ _ _ _ (@qv _ 2 _ _ (by walk_at "w")) (@Za _ _ _ _ _ (@qv _ 3 _ _ (by walk_at "w")) (@Zd _) (by rfl)) (by rfl)) (by rfl)) (by rfl)) (by rfl) (by decide) (by rfl) (by rfl)) (by intro _ ; rfl)) (@ZL _ _ (.str "met") _ _ rfl T.m_MET ⟨_, rfl⟩ (by decide)) (@ZL _ _ (.str "failed") _ _ rfl T.m_FAILED ⟨_, rfl⟩ (by decide))))))), ?_⟩
  unfold clS at q
  refine ⟨_, rfl, _, rfl, w, S, R, n, rfl, W, hp, fun H1 s1 => ⟨_, rfl, ?_⟩⟩
  cases ha : al S.bs S.ds (nr S.bs n) with
  | true =>
    rw [ha] at q
    exact YY (q H1 s1)
  | false =>
    rw [ha, Bool.false_or] at q
    refine Yf ⟨_, rfl, _, rfl, _, rfl, _, rfl, w, S, R, n, a, o, os, rfl, W.same s1, s1.seq ho, hlen, fun l2 H2 s2 f2 h2 => ⟨_, .inl ⟨_, SqL.of h2, rfl⟩, ?_⟩⟩
    have e2 : ((Xg S n a os).map V.str).isEmpty = (Xg S n a os).isEmpty := by cases Xg S n a os <;> rfl
    rw [e2]
    cases hw : (Xg S n a os).isEmpty with
    | false =>
      rw [hw] at q
      exact YY (q H2 (s1.trans s2))
    | true =>
      rw [hw] at q
      have s12 := s1.trans s2
      refine Yf ⟨_, rfl, _, rfl, _, rfl, _, rfl, w, S, R, n, a, o, os, rfl, W.same s12, s12.seq ho, hlen, fun H3 s3 => ⟨_, rfl, ?_⟩⟩
      cases hs : Jf S n a os with
      | true => rw [hs] at q; exact q H3 (s12.trans s3)
      | false => rw [hs] at q; exact q H3 (s12.trans s3)
theorem ok_class_since {f : Addr} {fd : FuncData} (F : Fun K "class_since" "class_since" YM f fd) (T : Txt K g mg) (D_class_stand : Dn P w0 K mg base 7 "class_stand" ["world", "name", "age", "out"] (XI K g)) (D_atom_since : Dx P w0 K mg base 8 "atom_since" ["world", "atom"] (J8 K g)) (D_members : Dn P w0 K mg base 5 "members" ["world", "name", "out"] (XX K g)) (D_last_death : Dn P w0 K mg base 5 "last_death" ["world", "name"] (Jd K g)) : FnOk P w0 K mg base CX0 9 f fd ["world", "name", "age", "out", "day"] (JP K g) := by
  refine F.ok sc_class_since (fun vs H Q E h => ?_) (fun cdv A outer s H vs Q E hr h => ?_)
  · obtain ⟨w, S, R, n, a, o, os, day, rfl, _⟩ := h
    rfl
  obtain ⟨w, S, R, n, a, o, os, day, rfl, W, ho, hlen, on, h0, h120, q1, q2⟩ := h
  have wf := W.wf
  refine ⟨_, (
(@Ze _ _ _ _ _ (@ZA _ _ _ _ _ _ _ _ (@Zl _ _ _ _ _ _ _ _ (@Yc _) (@Zy _ _ _ _ _ _ _ _ _ _ D_class_stand (hr.mono (by decide)) (@Za _ _ _ _ _ (@qv _ 0 _ _ (by walk_at "w")) (@Za _ _ _ _ _ (@qv _ 1 _ _ (by walk_at "w")) (@Za _ _ _ _ _ (@qv _ 2 _ _ (by walk_at "w")) (@Za _ _ _ _ _ (@qv _ 3 _ _ (by walk_at "w")) (@Zd _) (by rfl)) (by rfl)) (by rfl)) (by rfl)) (by rfl) (by decide) (by rfl) (by rfl)) (@ZL _ _ (.str "hangs") _ _ rfl T.m_HANGS ⟨_, rfl⟩ (by decide)) (Zr _)) (@Zf _ _ _ (@Zk _ _ _ _ (@pe_non _ _ _))) (@Zp _)) (@Ze _ _ _ _ _ (@ps_setLC _ (5) _ _ _ _ _ ("child") _ _ _ ([("world", s.heap.objs.size + 1), ("age", s.heap.objs.size + 2)]) _ ([("world", 0), ("age", 2)]) _ _ _ sc_class_since.nd rfl (Or.inl rfl) rfl (@YB _ _ _ _ (@Zy _ _ _ _ _ _ _ _ _ _ D_members (hr.mono (by decide)) (@Za _ _ _ _ _ (@qv _ 0 _ _ (by walk_at "w")) (@Za _ _ _ _ _ (@qv _ 1 _ _ (by walk_at "w")) (@Za _ _ _ _ _ (@qv _ 3 _ _ (by walk_at "w")) (@Zd _) (by rfl)) (by rfl)) (by rfl)) (by rfl) (by decide) (by rfl) (by rfl))) (fun _ _ _ _ _ => (@pifs_nil _)) (fun _ _ _ _ _ => (@J9 _ _ _ _ _ _ _ _ _ _ _ Jv D_atom_since (hr.mono (by decide)) (@Za _ _ _ _ _ (@qv _ 1 _ _ (by walk_at "w")) (@Za _ _ _ _ _ (@Xq _ _ _ _ _ (@Za _ _ _ _ _ (@Zn _ _ _ _) (@Za _ _ _ _ _ (@qv _ 0 _ _ (by walk_at "w")) (@Za _ _ _ _ _ (@qv _ 2 _ _ (by walk_at "w")) (@Zd _) (by rfl)) (by rfl)) (by rfl))) (@Zd _) (by rfl)) (by rfl)) (by rfl) (by decide) (by rfl) (by rfl))) rfl (by decide +kernel) rfl (by decide +kernel) rfl (L2.cl_sub (fun p hp => by simp only [List.mem_cons, List.not_mem_nil, or_false] at hp; rcases hp with rfl | rfl <;> rfl)) (Ju rfl) (fun p hp => by simp only [List.mem_cons, List.not_mem_nil, or_false] at hp; rcases hp with rfl | rfl <;> exact ⟨rfl, rfl, by first | exact .inl rfl | exact .inr rfl⟩) (by decide +kernel) (by intro _ ; rfl) (by rfl) (by walk_at "u")) (@Zf _ _ _ (@Zk _ _ _ _ (@ZC _ _ _ _ _ _ _ _ _ (@call_max1 _ rfl) rfl T.z_max PyProof.Rows.boot_max (@Za _ _ _ _ _ (@Zs _ _ _ _ _ _ _ _ (@op_cat _) (@Xr _ _ _ _ (@Za _ _ _ _ _ (@qv _ 4 _ _ (by walk_at "w")) (@Za _ _ _ _ _ (@Zy _ _ _ _ _ _ _ _ _ _ D_last_death (hr.mono (by decide)) (@Za _ _ _ _ _ (@qv _ 0 _ _ (by walk_at "w")) (@Za _ _ _ _ _ (@qv _ 1 _ _ (by walk_at "w")) (@Zd _) (by rfl)) (by rfl)) (by rfl) (by decide) (by rfl) (by rfl)) (@Zd _) (by rfl)) (by rfl))) (@qv _ 5 _ _ (by walk_at "w"))) (@Zd _) (by rfl)) (by decide) (by decide) (by rfl) (by rfl))))))), ?_⟩
  refine ⟨_, rfl, _, rfl, _, rfl, _, rfl, w, S, R, n, a, o, os, rfl, W, ho, by omega, on.1, fun H1 s1 => ?_⟩
  by_cases eh : clS S n a os = "hangs"
  · rw [eh]
    exact ⟨rfl, _, rfl, ifEq (q1 eh H1 s1)⟩
  refine ⟨rfl, _, rfl, ZX (beq_eq_false_iff_ne.mpr eh) ?_⟩
  unfold tNext
  dsimp only
  unfold tSeq tAsg
  refine lcS (ss := YZ S n os) (fun l1 H9 => Zo H1 H9 ∧ H9 l1 = some (.lst ((YZ S n os).map V.str)) ∧ H1 l1 = none) (fun c => true) (fun c => .int (sy S (.age c a))) ?_ (fun a H1 h => SqL.of h.2.1) (by have := J0 wf (n := n) (os := os); omega) ?_ ?_ ?_
  · intro R0 r
    have W1 := W.same s1
    have ho1 := s1.seq ho
    have hl9 : S.bs.length ≤ 900 := by omega
    walk_at "go"
    exact fun l H' s f h => r l H' ⟨s, h, f⟩
  · exact fun a H1 x H2 _ hx s R0 r => r H2 (Zo.refl _)
  · rintro a0 H9 x H2 ⟨s9, h9, _⟩ hx _ s R0 r
    have hk := Ye wf (Y4 hx)
    have sA := (s1.trans s9).trans s
    have ok : (Atm.age x a).ok S := ⟨mem_okN wf hk, h0, h120⟩
    have nb := Atm.ok_bad ok
    refine ⟨_, rfl, _, rfl, _, rfl, (by show 3 ≤ sizeLine; decide), fun p hp => ?_⟩
    have s3 := Zm hp (.tup [V.str "age", V.str x, V.int a])
    refine ⟨w, S, R, p, .age x a, rfl, (W.same sA).same s3, Zc, Atm.ok_len ok, (fun e he => by rw [nb] at he; cases he), fun _ H4 s4 => ?_⟩
    rw [since_int wf ok (mem_settled wf eh hx)]
    exact r H4 (s3.trans s4)
  rintro a0 H9 Dy H2 ⟨s9, h9, _⟩ hD s2 h2
  rw [List.filter_eq_self.mpr (fun _ _ => rfl)] at h2
  have s02 := (s1.trans s9).trans s2
  obtain ⟨nk, nd⟩ := near_dead on eh
  obtain ⟨dn, hdn⟩ := Jg nd
  refine ⟨_, rfl, _, rfl, _, rfl, w, S, R, n, rfl, W.same s02, by have := Je on.1; omega, on.1, nk, fun H3 s3 => ?_⟩
  rw [hdn]
  refine ⟨(by show 2 ≤ sizeLine; decide), fun l4 hl4 => ?_⟩
  have s4 := Zm hl4 (.lst [V.int day, V.int dn])
  have ml := J0 wf (n := n) (os := os)
  have h2' := s4 _ _ (s3 _ _ h2)
  refine ⟨_, rfl, l4, Dy, _, _, rfl, rfl, Zc, h2', ZM (by rw [List.length_map]; show 2 + _ ≤ 500; omega), fun l5 hl5 => ?_⟩
  have s5 := Zm hl5 (.lst ([V.int day, V.int dn] ++ (YZ S n os).map fun c => V.int (sy S (.age c a))))
  have ec : (cyL S n a os day).map V.int = [V.int day, V.int dn] ++ (YZ S n os).map fun c => V.int (sy S (.age c a)) := by
    unfold cyL
    rw [hdn, List.map_cons, List.map_cons, List.map_map]
    rfl
  refine ⟨l5, cyL S n a os day, rfl, SqL.of (by rw [Zc, ec]; rfl), by unfold cyL; simp, fun M hm hl => q2 M _ ⟨eh, hm, hl⟩ (((s02.trans s3).trans s4).trans s5)⟩
theorem ok_want_word {f : Addr} {fd : FuncData} (F : Fun K "want_word" "want_word" Xv f fd) (T : Txt K g mg) (D_good_word : Dn P w0 K mg base 2 "good_word" ["word"] (Jz K g)) : FnOk P w0 K mg base (CXR P w0 base) 3 f fd ["word"] (Jy K g) := by
  refine F.okX sc_want_word (fun vs H Q E h => ?_) (fun cdv A outer s H vs Q E hr h => ?_)
  · obtain ⟨x, rfl, _⟩ := h
    rfl
  obtain ⟨x, rfl, hx, qe, q⟩ := h
  refine ⟨_, (
(@Zf _ _ _ (@ZA _ _ _ _ _ _ _ _ (@pt_not _ _ _ _ (@Xj _ _ _ (@Zy _ _ _ _ _ _ _ _ _ _ D_good_word (hr.mono (by decide)) (@Za _ _ _ _ _ (@qv _ 0 _ _ (by walk_at "w")) (@Zd _) (by rfl)) (by rfl) (by decide) (by rfl) (by rfl)) (by intro _ ; rfl))) (@Zf _ _ _ (@Xk _ _ _ _ _ _ _ _ _ _ _ _ _ _ _ _ _ _ _ _ _ _ T.x_NoText.x T.m_NoText (@Zn _ _ _ _) (by rfl) (by rfl) (by decide))) (@Zp _)))), ?_⟩
  refine ⟨_, rfl, x, rfl, hx, _, rfl, ?_⟩
  cases hg : gw x with
  | false => exact YY ⟨rfl, qe hg⟩
  | true => exact Yf (q hg)
theorem ok_Lives___init__ {f : Addr} {fd : FuncData} (F : Fun K "__init__" "Lives.__init__" Z8 f fd) (T : Txt K g mg)  : FnOk P w0 K mg base CX0 1 f fd ["self"] (XN K g) := by
  refine F.ok sc_Lives___init__ (fun vs H Q E h => ?_) (fun cdv A outer s H vs Q E hr h => ?_)
  · obtain ⟨b, dx, rfl, _⟩ := h
    rfl
  obtain ⟨b, dx, rfl, hb, q⟩ := h
  refine ⟨_, (
(@Ze _ _ _ _ _ (@ps_fld _ _ _ _ _ _ _ _ (@qv _ 0 _ _ (by walk_at "w")) (@Jm _ _) rfl) (@Ze _ _ _ _ _ (@ps_fld _ _ _ _ _ _ _ _ (@qv _ 0 _ _ (by walk_at "w")) (@Jm _ _) rfl) (@Zf _ _ _ (@ps_fld _ _ _ _ _ _ _ _ (@qv _ 0 _ _ (by walk_at "w")) (@Jm _ _) rfl))))), ?_⟩
  intro d1 h1
  have n1 : b ≠ d1 := Zx hb h1
  refine ⟨_, rfl, b, _, dx, _, rfl, (by rw [Zg n1]; exact hb), T.cl_Lives, T.n_Lives_births, by decide, ?_⟩
  intro d2 h2
  have z2 : d2 ≠ b := fun e => by rw [e, Zc] at h2; cases h2
  rw [Zg z2] at h2
  have z21 : d2 ≠ d1 := fun e => by rw [e, Zc] at h2; cases h2
  rw [Zg z21] at h2
  refine ⟨_, rfl, b, _, dx, _, rfl, (by rw [Zg (Ne.symm z2), Zc]), T.cl_Lives, T.n_Lives_deaths, (by show 1 < 1000; decide), ?_⟩
  intro d3 h3
  have z3 : d3 ≠ b := fun e => by rw [e, Zc] at h3; cases h3
  rw [Zg z3] at h3
  have z32 : d3 ≠ d2 := fun e => by rw [e, Zc] at h3; cases h3
  rw [Zg z32, Zg z3] at h3
  have z31 : d3 ≠ d1 := fun e => by rw [e, Zc] at h3; cases h3
  rw [Zg z31] at h3
  refine ⟨_, rfl, b, _, dx, _, rfl, (by rw [Zg (Ne.symm z3), Zc]), T.cl_Lives, T.n_Lives_broods, (by show 2 < 1000; decide), ?_⟩
  refine q (foot b d1 d2 d3 []) _ ⟨fun a o na e => ?_, fun a e => ?_⟩ (fun a ha => ?_) ⟨⟨d1, d2, d3, [], ⟨⟨dx, Zc⟩, ?_, ?_, ?_, Ne.symm z21, Ne.symm z31, Ne.symm z32, (fun _ h => nomatch h), .nil⟩, rfl, (fun _ h => nomatch h), rfl⟩, Wf.nil⟩
  · have na : a ≠ b := fun z => na (by simp [z])
    have a1 : a ≠ d1 := Zx e h1
    have a2 : a ≠ d2 := Zx e h2
    have a3 : a ≠ d3 := Zx e h3
    rw [Zg na, Zg a3, Zg na, Zg a2, Zg na, Zg a1]
    exact e
  · by_cases na : a = b
    · rw [na, Zc] at e; cases e
    · rw [Zg na] at e
      by_cases a3 : a = d3
      · rw [a3, Zc] at e; cases e
      · rw [Zg a3, Zg na] at e
        by_cases a2 : a = d2
        · rw [a2, Zc] at e; cases e
        · rw [Zg a2, Zg na] at e
          by_cases a1 : a = d1
          · rw [a1, Zc] at e; cases e
          · rw [Zg a1] at e
            exact e
  · unfold foot at ha
    simp only [List.mem_cons, List.map_nil, List.not_mem_nil, or_false] at ha
    rcases ha with rfl | rfl | rfl | rfl
    · exact .inl rfl
    · exact .inr h1
    · exact .inr h2
    · exact .inr h3
  · rw [Zg (Ne.symm n1), Zg (Ne.symm z31), Zg (Ne.symm n1), Zg (Ne.symm z21), Zg (Ne.symm n1), Zc]
    rfl
  · rw [Zg z2, Zg (Ne.symm z32), Zg z2, Zc]
    rfl
  · rw [Zg z3, Zc]
    rfl
theorem ok_Lives_enter {f : Addr} {fd : FuncData} (F : Fun K "enter" "Lives.enter" YU f fd) (T : Txt K g mg)  : FnOk P w0 K mg base CX0 1 f fd ["self", "name", "year"] (XL K g) := by
  refine F.ok sc_Lives_enter (fun vs H Q E h => ?_) (fun cdv A outer s H vs Q E hr h => ?_)
  · obtain ⟨b, d1, d2, d3, bs, ds, ws, n, y, rfl, _⟩ := h
    rfl
  obtain ⟨b, d1, d2, d3, bs, ds, ws, n, y, rfl, B, hn, hw, l1, l2, q⟩ := h
  refine ⟨_, (
(@Ze _ _ _ _ _ (@JC _ _ _ _ _ _ _ _ _ (ZW hr) (@Zz _ _ _ _ _ (@qv _ 0 _ _ (by walk_at "w")) rfl) (@qv _ 1 _ _ (by walk_at "w")) (@qv _ 2 _ _ (by walk_at "w")) rfl) (@Zf _ _ _ (@JC _ _ _ _ _ _ _ _ _ (ZW hr) (@Zz _ _ _ _ _ (@qv _ 0 _ _ (by walk_at "w")) rfl) (@qv _ 1 _ _ (by walk_at "w")) (@Xr _ _ _ _ (@Zd _)) rfl)))), ?_⟩
  obtain ⟨dx, hb⟩ := B.obj
  obtain ⟨nb1, nb2, nb3⟩ := B.bne
  have v0 : Y6 (yrs bs) (Sum.inr n : Key) = none := by
    have z := ZR bs n
    rw [hn] at z
    cases e : Y6 (yrs bs) (Sum.inr n : Key) with
    | none => rfl
    | some v => rw [e] at z; cases z
  refine ⟨_, rfl, _, rfl, b, _, dx, _, _, rfl, hb, T.cl_Lives, T.n_Lives_births, rfl, _, rfl, d1, _, rfl, DPut.k (k := Sum.inr n) B.h1 (ZB (by unfold yrs; rw [List.length_map]; omega)), ?_⟩
  rw [XR _ v0]
  have e1 : yrs bs ++ [((Sum.inr n : Key), V.int y)] = yrs (bs ++ [(n, y)]) := by unfold yrs; rw [List.map_append]; rfl
  rw [e1]
  refine ⟨Nat.zero_le _, fun l hl => ?_⟩
  obtain ⟨B2, kp⟩ := B.entered (n := n) (y := y) hl rfl rfl
  have hl0 : H l = none := by
    have z : d1 ≠ l := fun e => by rw [← e, Zc] at hl; cases hl
    rw [Zg (Ne.symm z)] at hl
    exact hl
  have nlb : b ≠ l := fun e => by rw [e, hl0] at hb; cases hb
  have nl3 : d3 ≠ l := fun e => by have := B.h3; rw [e, hl0] at this; cases this
  refine ⟨_, rfl, b, _, dx, _, _, rfl, (by rw [Zg nlb, Zg nb1]; exact hb), T.cl_Lives, T.n_Lives_broods, rfl, _, rfl, d3, _, rfl, DPut.k (k := Sum.inr n) (by rw [Zg nl3, Zg (Ne.symm B.n13)]; exact B.h3) (ZB (by unfold brs; rw [List.length_map]; omega)), ?_⟩
  rw [XR _ hw]
  have e3 : brs ws ++ [((Sum.inr n : Key), V.ref l)] = brs (ws ++ [(n, l, 0)]) := by unfold brs; rw [List.map_append]; rfl
  rw [e3]
  exact q l _ hl0 kp B2
theorem ok_Lives_want_alive {f : Addr} {fd : FuncData} (F : Fun K "want_alive" "Lives.want_alive" ZV f fd) (T : Txt K g mg) (D_Lives_want_known : Dm P w0 K mg base (CXR P w0 base) g.Lives 2 "want_known" ["self", "name"] (ZK K g)) (D_Lives_alive : Dm P w0 K mg base CX0 g.Lives 1 "alive" ["self", "name"] (Yb K g)) : FnOk P w0 K mg base (CXR P w0 base) 3 f fd ["self", "name"] (Yq K g) := by
  refine F.okX sc_Lives_want_alive (fun vs H Q E h => ?_) (fun cdv A outer s H vs Q E hr h => ?_)
  · obtain ⟨b, bs, ds, R, n, rfl, _⟩ := h
    rfl
  obtain ⟨b, bs, ds, R, n, rfl, L, q1, q2, q⟩ := h
  refine ⟨_, (
(@Ze _ _ _ _ _ (@ZG _ _ _ _ (@ZN _ _ _ _ _ _ _ _ _ _ _ _ _ _ _ _ Xh D_Lives_want_known (hr.mono (by decide)) (@qv _ 0 _ _ (by walk_at "w")) (@Za _ _ _ _ _ (@qv _ 1 _ _ (by walk_at "w")) (@Zd _) (by rfl)) (by rfl) (by rfl) (by rfl)) (by rfl)) (@Zf _ _ _ (@ZA _ _ _ _ _ _ _ _ (@pt_not _ _ _ _ (@Xj _ _ _ (@ZN _ _ _ _ _ _ _ _ _ _ _ _ _ _ _ _ Jn D_Lives_alive (hr.mono (by decide)) (@qv _ 0 _ _ (by walk_at "w")) (@Za _ _ _ _ _ (@qv _ 1 _ _ (by walk_at "w")) (@Zd _) (by rfl)) (by rfl) (by rfl) (by rfl)) (by intro _ ; rfl))) (@Zf _ _ _ (@Xk _ _ _ _ _ _ _ _ _ _ _ _ _ _ _ _ _ _ _ _ _ _ T.x_Gone.x T.m_Gone (@Zn _ _ _ _) (by rfl) (by rfl) (by decide))) (@Zp _))))), ?_⟩
  obtain ⟨d1, d2, d3, ws, B, k1, k2, eR⟩ := id L.ex
  obtain ⟨dx, hb⟩ := B.obj
  refine ⟨_, rfl, b, dx, _, rfl, hb, rfl, _, rfl, b, bs, ds, R, n, rfl, L, q1, fun hn => ?_⟩
  refine ⟨_, rfl, b, dx, _, rfl, hb, rfl, _, rfl, b, bs, ds, R, n, rfl, L, _, rfl, ?_⟩
  unfold al
  rw [hn]
  cases e : has ds n with
  | false => exact Yf (q hn e)
  | true => exact YY ⟨rfl, q2 hn e⟩
theorem ok_Lives_arrive {f : Addr} {fd : FuncData} (F : Fun K "arrive" "Lives.arrive" Yv f fd) (T : Txt K g mg) (D_want_word : Dx P w0 K mg base 3 "want_word" ["word"] (Jy K g)) (D_Lives_known : Dm P w0 K mg base CX0 g.Lives 1 "known" ["self", "name"] (Ya K g)) (D_Lives_enter : Dm P w0 K mg base CX0 g.Lives 1 "enter" ["self", "name", "year"] (XL K g)) : FnOk P w0 K mg base (CXR P w0 base) 4 f fd ["self", "word", "born"] (Js K g) := by
  refine F.okX sc_Lives_arrive (fun vs H Q E h => ?_) (fun cdv A outer s H vs Q E hr h => ?_)
  · obtain ⟨b, bs, ds, R, n, y, rfl, _⟩ := h
    rfl
  obtain ⟨b, bs, ds, R, n, y, rfl, L, hx, hl, q1, q2, q⟩ := h
  refine ⟨_, (
(@Ze _ _ _ _ _ (@ZG _ _ _ _ (@J9 _ _ _ _ _ _ _ _ _ _ _ Xh D_want_word (hr.mono (by decide)) (@Za _ _ _ _ _ (@qv _ 1 _ _ (by walk_at "w")) (@Zd _) (by rfl)) (by rfl) (by decide) (by rfl) (by rfl)) (by rfl)) (@Ze _ _ _ _ _ (@ZA _ _ _ _ _ _ _ _ (@Xj _ _ _ (@ZN _ _ _ _ _ _ _ _ _ _ _ _ _ _ _ _ Jn D_Lives_known (hr.mono (by decide)) (@qv _ 0 _ _ (by walk_at "w")) (@Za _ _ _ _ _ (@qv _ 1 _ _ (by walk_at "w")) (@Zd _) (by rfl)) (by rfl) (by rfl) (by rfl)) (by intro _ ; rfl)) (@Zf _ _ _ (@Xk _ _ _ _ _ _ _ _ _ _ _ _ _ _ _ _ _ _ _ _ _ _ T.x_Taken.x T.m_Taken (@Zn _ _ _ _) (by rfl) (by rfl) (by decide))) (@Zp _)) (@Zf _ _ _ (@ZG _ _ _ _ (@ZN _ _ _ _ _ _ _ _ _ _ _ _ _ _ _ _ Jn D_Lives_enter (hr.mono (by decide)) (@qv _ 0 _ _ (by walk_at "w")) (@Za _ _ _ _ _ (@qv _ 1 _ _ (by walk_at "w")) (@Za _ _ _ _ _ (@qv _ 2 _ _ (by walk_at "w")) (@Zd _) (by rfl)) (by rfl)) (by rfl) (by rfl) (by rfl)) (by rfl)))))), ?_⟩
  obtain ⟨d1, d2, d3, ws, B, k1, k2, eR⟩ := id L.ex
  obtain ⟨dx, hb⟩ := B.obj
  have wl : ws.length = bs.length := by rw [← List.length_map (f := fun p => p.1), k1, List.length_map]
  refine ⟨_, rfl, n, rfl, hx, q1, fun hg => ?_⟩
  refine ⟨_, rfl, b, dx, _, rfl, hb, rfl, _, rfl, b, bs, ds, R, n, rfl, L, _, rfl, ?_⟩
  cases hn : has bs n with
  | true => exact YY ⟨rfl, q2 hg hn⟩
  | false =>
    refine Yf ?_
    refine ⟨_, rfl, b, dx, _, rfl, hb, rfl, _, rfl, _, rfl, b, d1, d2, d3, bs, ds, ws, n, y, rfl, B, hn, no_bro k1 hn, by omega, by omega, fun l H' hl0 kp B2 => ?_⟩
    have c := counts_word (l := l) (y := y) L.wf k1 k2 hg hn
    subst eR
    exact q hg hn _ H' (kp.wide (fun a ha => by simp only [List.mem_cons, List.not_mem_nil, or_false] at ha; rcases ha with rfl | rfl; exact foot_in.2.1; exact foot_in.2.2.2.1)) (foot_grow rfl hl0) ⟨⟨d1, d2, d3, _, B2, c.1, c.2, rfl⟩, L.wf.arrive hg hn (by omega)⟩
theorem ok_Lives_birth {f : Addr} {fd : FuncData} (F : Fun K "birth" "Lives.birth" YW f fd) (T : Txt K g mg) (D_Lives_want_alive : Dm P w0 K mg base (CXR P w0 base) g.Lives 3 "want_alive" ["self", "name"] (Yq K g)) (D_Lives_enter : Dm P w0 K mg base CX0 g.Lives 1 "enter" ["self", "name", "year"] (XL K g)) : FnOk P w0 K mg base (CXR P w0 base) 4 f fd ["self", "name", "year"] (JU K g) := by
  refine F.okX sc_Lives_birth (fun vs H Q E h => ?_) (fun cdv A outer s H vs Q E hr h => ?_)
  · obtain ⟨b, bs, ds, R, n, y, rfl, _⟩ := h
    rfl
  obtain ⟨b, bs, ds, R, n, y, rfl, L, hl, h99, q1, q2, q3, q⟩ := h
  refine ⟨_, (
(@Ze _ _ _ _ _ (@ZG _ _ _ _ (@ZN _ _ _ _ _ _ _ _ _ _ _ _ _ _ _ _ Xh D_Lives_want_alive (hr.mono (by decide)) (@qv _ 0 _ _ (by walk_at "w")) (@Za _ _ _ _ _ (@qv _ 1 _ _ (by walk_at "w")) (@Zd _) (by rfl)) (by rfl) (by rfl) (by rfl)) (by rfl)) (@Ze _ _ _ _ _ (@ZA _ _ _ _ _ _ _ _ (@Zl _ _ _ _ _ _ _ _ (@op_ge _) (@JX _ _ _ _ _ _ _ _ _ _ _ _ PySem.F.plainAttrs_str PySem.F.slot_str_count PySem.F.type_str_count (@mt_count _) (@qv _ 1 _ _ (by walk_at "w")) (@Za _ _ _ _ _ (@Zn _ _ _ _) (@Zd _) (by rfl)) (by rfl) (by rfl) (by rfl) (by rfl) (by rfl)) (@ZL _ _ (.int 5) _ _ rfl T.m_MOST_NUMBERS ⟨_, rfl⟩ (by decide)) (Zr _)) (@Zf _ _ _ (@Xk _ _ _ _ _ _ _ _ _ _ _ _ _ _ _ _ _ _ _ _ _ _ T.x_TooDeep.x T.m_TooDeep (@Zn _ _ _ _) (by rfl) (by rfl) (by decide))) (@Zp _)) (@Ze _ _ _ _ _ (@Zu _ _ (3) _ _ _ _ sc_Lives_birth.nd rfl (Or.inl rfl) (@pe_fs _ _ _ _ _ _ _ _ _ _ _ (@qv _ 1 _ _ (by walk_at "w")) (@Zs _ _ _ _ _ _ _ _ (@Yz _) (@ZC _ _ _ _ _ _ _ _ _ (@ZJ _) rfl T.z_len PySem.boot_len (@Za _ _ _ _ _ (@pe_dget _ _ _ _ _ _ (ZW hr) (@Zz _ _ _ _ _ (@qv _ 0 _ _ (by walk_at "w")) rfl) (@qv _ 1 _ _ (by walk_at "w")) (fun _ _ => rfl)) (@Zd _) (by rfl)) (by decide) (by decide) (by rfl) (by rfl)) (@Zh _ _ _ _))) (by rfl) (by walk_at "u")) (@Ze _ _ _ _ _ (@ZG _ _ _ _ (@JX _ _ _ _ _ _ _ _ _ _ _ _ PySem.F.plainAttrs_list PySem.F.slot_list_append PySem.F.type_list_append (@XF _) (@pe_dget _ _ _ _ _ _ (ZW hr) (@Zz _ _ _ _ _ (@qv _ 0 _ _ (by walk_at "w")) rfl) (@qv _ 1 _ _ (by walk_at "w")) (fun _ _ => rfl)) (@Za _ _ _ _ _ (@qv _ 3 _ _ (by walk_at "w")) (@Zd _) (by rfl)) (by rfl) (by rfl) (by rfl) (by rfl) (by rfl)) (by rfl)) (@Ze _ _ _ _ _ (@ZG _ _ _ _ (@ZN _ _ _ _ _ _ _ _ _ _ _ _ _ _ _ _ Jn D_Lives_enter (hr.mono (by decide)) (@qv _ 0 _ _ (by walk_at "w")) (@Za _ _ _ _ _ (@qv _ 3 _ _ (by walk_at "w")) (@Za _ _ _ _ _ (@qv _ 2 _ _ (by walk_at "w")) (@Zd _) (by rfl)) (by rfl)) (by rfl) (by rfl) (by rfl)) (by rfl)) (@Zf _ _ _ (@Zk _ _ _ _ (@qv _ 3 _ _ (by walk_at "w")))))))))), ?_⟩
  obtain ⟨d1, d2, d3, ws, B, k1, k2, eR⟩ := id L.ex
  obtain ⟨dx, hb⟩ := B.obj
  have wl : ws.length = bs.length := by rw [← List.length_map (f := fun p => p.1), k1, List.length_map]
  refine ⟨_, rfl, b, dx, _, rfl, hb, rfl, _, rfl, b, bs, ds, R, n, rfl, L, q1, q2, fun hn hd => ?_⟩
  refine ⟨_, rfl, rfl, n, dot, rfl, rfl, _, _, rfl, rfl, _, rfl, YA (fun z => ?_) (fun z => ?_)⟩
  · exact ⟨rfl, q3 hn hd (by have z' := of_decide_eq_true z; unfold dots; omega)⟩
  have hdot : dots n < 5 := by
    have z' : ¬ ((5 : Int) ≤ (dots n : Nat)) := fun w => z (decide_eq_true w)
    omega
  have hx := Je (L.wf.wrt n hn)
  obtain ⟨a, hw⟩ := bro_of k1 k2 hn
  have g0 : Yp H d3 (.str n) (Y6 (brs ws) (Sum.inr n : Key)) := Yp.k (k := Sum.inr n) B.h3
  rw [valV_brs, hw] at g0
  have ha := B.kids _ (bro_mem hw)
  have kl : (Jo n (nk bs n)).length = nk bs n := by unfold Jo; rw [List.length_map, List.length_range]
  have c0 : (0 : Int) ≤ ((nk bs n : Nat) : Int) + 1 := by omega
  have c1 : ((nk bs n : Nat) : Int) + 1 < 131 := by omega
  have tl := ts_len c0 c1
  have l3 : (n ++ dot).length = n.length + 1 := by rw [XO]; rfl
  refine ⟨_, rfl, n, rfl, ZM (by omega), ZM (by rw [show (n ++ ("." : Str)).length = n.length + 1 from l3]; omega), ?_⟩
  refine ⟨_, rfl, b, _, dx, _, _, rfl, hb, T.cl_Lives, T.n_Lives_broods, rfl, _, rfl, d3, _, rfl, g0, _, _, rfl, .inl ⟨_, SqL.of ha, rfl⟩, _, _, rfl, rfl, ((nk bs n : Nat) : Int) + 1, (by rw [kl]), log_small c0 c1, ZM (by rw [XO, show (n ++ ("." : Str)).length = n.length + 1 from l3]; omega), ?_⟩
  refine ⟨_, rfl, b, _, dx, _, _, rfl, hb, T.cl_Lives, T.n_Lives_broods, rfl, _, rfl, d3, _, rfl, g0, .inl ⟨rfl, _, SqL.of ha⟩, _, rfl, a, _, _, rfl, rfl, ha, ZB (by rw [kl]; omega), ?_⟩
  rw [show Jo n (nk bs n) ++ [V.str (n ++ ("." : Str) ++ (toString (((nk bs n : Nat) : Int) + 1) : Str))] = Jo n (nk bs n + 1) from kidV_next n (nk bs n)]
  have hk : (ws.map fun p => p.1).Nodup := by rw [k1]; exact L.wf.nod
  have B2 := B.grown hk (bro_mem hw)
  obtain ⟨dx2, hb2⟩ := B2.obj
  have hn2 := L.wf.no_kid n
  refine ⟨_, rfl, b, dx2, _, rfl, hb2, rfl, _, rfl, _, rfl, b, d1, d2, d3, bs, ds, L2.bump ws n, kid n (nk bs n), y, rfl, B2, hn2, by rw [brs_bump]; exact no_bro k1 hn2, by omega, by unfold L2.bump; rw [List.length_map]; omega, fun l H' hl1 kp B3 => ?_⟩
  have hl0 : H l = none := by
    have z : l ≠ a := fun e => by rw [e, Zc] at hl1; cases hl1
    rw [Zg z] at hl1
    exact hl1
  have c := counts_born (l := l) (y := y) L.wf k1 k2 hn (by omega)
  subst eR
  refine ⟨_, rfl, q hn hd hdot _ H' ?_ (foot_grow (adr_bump ws n) hl0) ⟨⟨d1, d2, d3, _, B3, c.1, c.2, rfl⟩, L.wf.birth hn hdot (by omega) h99⟩⟩
  have k0 : ZD (foot b d1 d2 d3 ws) H (upd H a (.lst (Jo n (nk bs n + 1)))) := YG.wide (fun x hx => by rw [List.mem_singleton.mp hx]; exact foot_in.2.2.2.2 _ (bro_mem hw))
  exact k0.tr kp (fun x hx => by simp only [List.mem_cons, List.not_mem_nil, or_false] at hx; rcases hx with rfl | rfl; exact .inl foot_in.2.1; exact .inl foot_in.2.2.2.1)
theorem ok_Lives_death {f : Addr} {fd : FuncData} (F : Fun K "death" "Lives.death" YV f fd) (T : Txt K g mg) (D_Lives_want_alive : Dm P w0 K mg base (CXR P w0 base) g.Lives 3 "want_alive" ["self", "name"] (Yq K g)) : FnOk P w0 K mg base (CXR P w0 base) 4 f fd ["self", "name", "year"] (JT K g) := by
  refine F.okX sc_Lives_death (fun vs H Q E h => ?_) (fun cdv A outer s H vs Q E hr h => ?_)
  · obtain ⟨b, bs, ds, R, n, y, rfl, _⟩ := h
    rfl
  obtain ⟨b, bs, ds, R, n, y, rfl, L, hl, q1, q2, q⟩ := h
  refine ⟨_, (
(@Ze _ _ _ _ _ (@ZG _ _ _ _ (@ZN _ _ _ _ _ _ _ _ _ _ _ _ _ _ _ _ Xh D_Lives_want_alive (hr.mono (by decide)) (@qv _ 0 _ _ (by walk_at "w")) (@Za _ _ _ _ _ (@qv _ 1 _ _ (by walk_at "w")) (@Zd _) (by rfl)) (by rfl) (by rfl) (by rfl)) (by rfl)) (@Zf _ _ _ (@JC _ _ _ _ _ _ _ _ _ (ZW hr) (@Zz _ _ _ _ _ (@qv _ 0 _ _ (by walk_at "w")) rfl) (@qv _ 1 _ _ (by walk_at "w")) (@qv _ 2 _ _ (by walk_at "w")) rfl)))), ?_⟩
  obtain ⟨d1, d2, d3, ws, B, k1, k2, eR⟩ := id L.ex
  obtain ⟨dx, hb⟩ := B.obj
  refine ⟨_, rfl, b, dx, _, rfl, hb, rfl, _, rfl, b, bs, ds, R, n, rfl, L, q1, q2, fun hn hd => ?_⟩
  refine ⟨_, rfl, _, rfl, b, _, dx, _, _, rfl, hb, T.cl_Lives, T.n_Lives_deaths, rfl, _, rfl, d2, _, rfl, DPut.k (k := Sum.inr n) B.h2 (ZB (by unfold yrs; rw [List.length_map]; omega)), ?_⟩
  rw [XR _ (no_valV hd), yrs_app]
  obtain ⟨B2, kp⟩ := B.died (ds' := ds ++ [(n, y)])
  subst eR
  exact q hn hd _ (kp.wide (fun a ha => by rw [List.mem_singleton.mp ha]; exact foot_in.2.2.1)) ⟨⟨d1, d2, d3, ws, B2, k1, k2, rfl⟩, L.wf.death hn⟩
theorem ok_Lives_names {f : Addr} {fd : FuncData} (F : Fun K "names" "Lives.names" YS f fd) (T : Txt K g mg)  : FnOk P w0 K mg base CX0 1 f fd ["self"] (sp_Lives_names K g) := by
  refine F.ok sc_Lives_names (fun vs H Q E h => ?_) (fun cdv A outer s H vs Q E hr h => ?_)
  · obtain ⟨b, bs, ds, R, rfl, _⟩ := h
    rfl
  obtain ⟨b, bs, ds, R, rfl, L, q⟩ := h
  refine ⟨_, (
(@Zf _ _ _ (@Zk _ _ _ _ (@Yx _ _ _ _ _ _ _ _ _ (@call_listD _ rfl) rfl T.z_list PyProof.Rows.boot_list (@Za _ _ _ _ _ (@Zz _ _ _ _ _ (@qv _ 0 _ _ (by walk_at "w")) rfl) (@Zd _) (by rfl)) (by decide) (by decide) (by rfl) (by rfl))))), ?_⟩
  obtain ⟨d1, d2, d3, ws, B, k1, k2, eR⟩ := id L.ex
  obtain ⟨dx, hb⟩ := B.obj
  refine ⟨_, rfl, b, _, dx, _, _, rfl, hb, T.cl_Lives, T.n_Lives_births, rfl, d1, _, rfl, .inl B.h1, fun l hl => ?_⟩
  have e : (yrs bs).map (fun p => kV p.1) = bs.map fun p => V.str p.1 := by
    unfold yrs
    rw [List.map_map]
    rfl
  rw [e]
  exact q l _ (Zm hl _) hl Zc
theorem ok_Lives_living {f : Addr} {fd : FuncData} (F : Fun K "living" "Lives.living" Yu f fd) (T : Txt K g mg)  : FnOk P w0 K mg base CX0 1 f fd ["self"] (sp_Lives_living K g) := by
  refine F.ok sc_Lives_living (fun vs H Q E h => ?_) (fun cdv A outer s H vs Q E hr h => ?_)
  · obtain ⟨b, bs, ds, R, rfl, _⟩ := h
    rfl
  obtain ⟨b, bs, ds, R, rfl, L, q⟩ := h
  obtain ⟨d1, d2, d3, ws, B, k1, k2, eR⟩ := id L.ex
  have hlen : bs.length < 1000 := L.wf.lim
  obtain ⟨dx, hb⟩ := B.obj
  refine ⟨_, (
(@Zf _ _ _ (@Zk _ _ _ _ (@pe_thaw _ _ _ (d1) (yrs bs) (@pe_lc _ _ _ ("name") _ _ _ ([("self", s.heap.objs.size + 1)]) _ ([("self", 0)]) _ _ _ rfl (@pi_dict _ _ _ _ (@Zz _ _ _ _ _ (@qv _ 0 _ _ (by walk_at "w")) rfl)) (fun _ _ _ _ _ => (@Xl _ _ _ (@XS _ _ _ _ _ _ (@Yy _ _ _ _ _ (ZW hr) (@qv _ 0 _ _ (by walk_at "w")) (show PE _ _ (tFld K (tVar 1) "deaths") from (@Zz _ _ _ _ _ (@qv _ 1 _ _ (by walk_at "w")) rfl))) (by walk_at "n")))) (fun _ _ _ _ _ => (@qv _ 0 _ _ (by walk_at "w"))) rfl (by decide +kernel) rfl (by decide +kernel) rfl (fun _ _ h => h) (Ju rfl) (fun p hp => by rw [List.mem_singleton.mp hp]; exact ⟨rfl, rfl, by first | exact .inl rfl | exact .inr rfl⟩) (by decide +kernel) (by intro _ ; rfl)))))), ?_⟩
  obtain ⟨nb1, nb2, nb3⟩ := B.bne
  have yl : (yrs bs).length = bs.length := by unfold yrs; rw [List.length_map]
  refine ⟨B.h1, _, rfl, b, _, dx, _, _, rfl, hb, T.cl_Lives, T.n_Lives_births, rfl, d1, _, rfl, B.h1, fun o D hD => ⟨fun i m H2 => i ≤ bs.length ∧ m = bs.length - i ∧ H2 = upd (upd H d1 (.frz o (.dK (yrs bs)))) D (.lst (((bs.take i).filter fun p => !has ds p.1).map fun p => V.str p.1)), ⟨bs.length, Nat.zero_le _, rfl, rfl⟩, ?_⟩⟩
  have n1 : D ≠ d1 := fun e => by rw [e, Zc] at hD; cases hD
  have hD0 : H D = none := by rw [Zg n1] at hD; exact hD
  have nb : b ≠ D := Zx hb hD0
  have n2 : d2 ≠ D := Zx B.h2 hD0
  rintro i m H2 ⟨hi, rfl, rfl⟩
  by_cases ci : i < bs.length
  · refine .inr ⟨⟨by rw [Zg (Ne.symm n1), Zc], by rw [yl]; exact ci⟩, fun x H' ⟨e, k, v, ek, ex⟩ => ?_⟩
    subst e
    have ek' : (yrs bs)[i]? = some ((Sum.inr (bs[i]).1 : Key), V.int (bs[i]).2) := by unfold yrs; rw [List.getElem?_map, List.getElem?_eq_getElem ci]; rfl
    rw [ek'] at ek
    cases ek
    subst ex
    have g : Yp (upd (upd H d1 (.frz o (.dK (yrs bs)))) D (.lst (((bs.take i).filter fun p => !has ds p.1).map fun p => V.str p.1))) d2 (.str (bs[i]).1) (Y6 (yrs ds) (Sum.inr (bs[i]).1 : Key)) := Yp.k (k := Sum.inr (bs[i]).1) (by rw [Zg n2, Zg (Ne.symm B.n12)]; exact B.h2)
    refine ⟨_, rfl, _, rfl, b, _, dx, _, _, rfl, (by rw [Zg nb, Zg nb1]; exact hb), T.cl_Lives, T.n_Lives_deaths, rfl, d2, _, rfl, g, _, rfl, ?_⟩
    rw [ZR]
    have tk : bs.take (i + 1) = bs.take i ++ [bs[i]] := (take_next ci).symm
    cases e : has ds (bs[i]).1 with
    | true =>
      refine Yf ⟨bs.length - (i + 1), by omega, ci, rfl, ?_⟩
      rw [tk, List.filter_append]
      simp [e]
    | false =>
      refine YY ⟨_, rfl, _, bs.length - (i + 1), Zc, ZB ?_, by omega, ci, rfl, ?_⟩
      · rw [List.length_map]
        exact Nat.le_trans (List.length_filter_le _ _) (by rw [List.length_take]; omega)
      · rw [upd_upd, tk, List.filter_append, List.map_append]
        simp [e]
        rfl
  · have e : i = bs.length := by omega
    subst e
    refine .inl ⟨⟨by rw [Zg (Ne.symm n1), Zc], by rw [yl]; exact Nat.le_refl _⟩, o, by rw [Zg (Ne.symm n1), Zc], ?_⟩
    rw [List.take_length]
    have eq : upd (upd (upd H d1 (.frz o (.dK (yrs bs)))) D (.lst ((bs.filter fun p => !has ds p.1).map fun p => V.str p.1))) d1 (.dK (yrs bs)) = upd H D (.lst ((bs.filter fun p => !has ds p.1).map fun p => V.str p.1)) := by
      funext a
      by_cases ha : a = d1
      · rw [ha, Zc, Zg (Ne.symm n1), B.h1]
      · rw [Zg ha]
        by_cases hA : a = D
        · rw [hA, Zc, Zc]
        · rw [Zg hA, Zg ha, Zg hA]
    rw [eq]
    exact q D _ (Zm hD0 _) hD0 Zc
theorem ok_Lives_never {f : Addr} {fd : FuncData} (F : Fun K "never" "Lives.never" YR f fd) (T : Txt K g mg) (D_Lives_known : Dm P w0 K mg base CX0 g.Lives 1 "known" ["self", "name"] (Ya K g)) (D_Lives_alive : Dm P w0 K mg base CX0 g.Lives 1 "alive" ["self", "name"] (Yb K g)) (D_Lives_nearest : Dm P w0 K mg base (CXR P w0 base) g.Lives 4 "nearest" ["self", "name"] (Z5 K g)) : FnOk P w0 K mg base (CXR P w0 base) 5 f fd ["self", "name"] (sp_Lives_never K g) := by
  refine F.okX sc_Lives_never (fun vs H Q E h => ?_) (fun cdv A outer s H vs Q E hr h => ?_)
  · obtain ⟨b, bs, ds, R, n, rfl, _⟩ := h
    rfl
  obtain ⟨b, bs, ds, R, n, rfl, L, hx, q1, q⟩ := h
  refine ⟨_, (
(@Zf _ _ _ (@Zk _ _ _ _ (@pe_and _ _ _ _ _ _ _ (@pe_not _ _ _ _ (@ZN _ _ _ _ _ _ _ _ _ _ _ _ _ _ _ _ Jn D_Lives_known (hr.mono (by decide)) (@qv _ 0 _ _ (by walk_at "w")) (@Za _ _ _ _ _ (@qv _ 1 _ _ (by walk_at "w")) (@Zd _) (by rfl)) (by rfl) (by rfl) (by rfl))) (@pe_one _ _ _ _ _ (@pe_not _ _ _ _ (@ZN _ _ _ _ _ _ _ _ _ _ _ _ _ _ _ _ Jn D_Lives_alive (hr.mono (by decide)) (@qv _ 0 _ _ (by walk_at "w")) (@Za _ _ _ _ _ (@ZN _ _ _ _ _ _ _ _ _ _ _ _ _ _ _ _ Xh D_Lives_nearest (hr.mono (by decide)) (@qv _ 0 _ _ (by walk_at "w")) (@Za _ _ _ _ _ (@qv _ 1 _ _ (by walk_at "w")) (@Zd _) (by rfl)) (by rfl) (by rfl) (by rfl)) (@Zd _) (by rfl)) (by rfl) (by rfl) (by rfl)))))))), ?_⟩
  obtain ⟨dx, x1, x2, x3, hb⟩ := L.obj
  refine ⟨_, rfl, b, dx, _, rfl, hb, rfl, _, rfl, b, bs, ds, R, n, rfl, L, _, rfl, _, rfl, ?_⟩
  cases hn : has bs n with
  | true =>
    have z := q (L.wf.wrt n hn) H (Zo.refl _)
    unfold nv8 at z
    rw [hn] at z
    exact Yf z
  | false =>
    refine YY ⟨_, rfl, b, dx, _, rfl, hb, rfl, _, rfl, b, dx, _, rfl, hb, rfl, _, rfl, b, bs, ds, R, n, rfl, L, hx, q1 hn, fun hp H1 s1 => ?_⟩
    refine ⟨b, bs, ds, R, _, rfl, L.same s1, _, rfl, ?_⟩
    have z := q hp H1 s1
    unfold nv8 at z
    rw [hn] at z
    exact z
theorem ok_want_between {f : Addr} {fd : FuncData} (F : Fun K "want_between" "want_between" Yr f fd) (T : Txt K g mg)  : FnOk P w0 K mg base (CXR P w0 base) 1 f fd ["number", "low", "high"] (YF K g) := by
  refine F.okX sc_want_between (fun vs H Q E h => ?_) (fun cdv A outer s H vs Q E hr h => ?_)
  · obtain ⟨n, lo, hi, rfl, _⟩ := h
    rfl
  obtain ⟨n, lo, hi, rfl, q1, q⟩ := h
  refine ⟨_, (
(@Zf _ _ _ (@ZA _ _ _ _ _ _ _ _ (@PW.pt _ _ _ (@pw_or _ _ _ _ _ _ _ (@Zl _ _ _ _ _ _ _ _ (@op_lt _) (@qv _ 0 _ _ (by walk_at "w")) (@qv _ 1 _ _ (by walk_at "w")) (Zr _)) (@pw_or1 _ _ _ _ (@Zl _ _ _ _ _ _ _ _ (@op_gt _) (@qv _ 0 _ _ (by walk_at "w")) (@qv _ 2 _ _ (by walk_at "w")) (Zr _))))) (@Zf _ _ _ (@Xk _ _ _ _ _ _ _ _ _ _ _ _ _ _ _ _ _ _ _ _ _ _ T.x_OutOfBound.x T.m_OutOfBound (@Zn _ _ _ _) (by rfl) (by rfl) (by decide))) (@Zp _)))), ?_⟩
  refine ⟨_, rfl, _, rfl, _, _, rfl, rfl, _, rfl, YA (fun c => YY ⟨rfl, q1 ?_⟩) (fun c => ?_)⟩
  · have := of_decide_eq_true c; omega
  refine ⟨_, rfl, _, rfl, _, _, rfl, rfl, _, rfl, YA (fun c2 => ⟨rfl, q1 ?_⟩) (fun c2 => q ?_)⟩
  · have := of_decide_eq_true c2; omega
  · have z1 : ¬ n < lo := fun z => c (decide_eq_true z)
    have z2 : ¬ hi < n := fun z => c2 (decide_eq_true z)
    omega
theorem ok_World___init__ {f : Addr} {fd : FuncData} (F : Fun K "__init__" "World.__init__" Z6 f fd) (T : Txt K g mg) (D_want_between : Dx P w0 K mg base 1 "want_between" ["number", "low", "high"] (YF K g)) (K_Lives : Dk P w0 K mg base CX0 g.Lives 1 "Lives" ["self"] (XN K g)) : FnOk P w0 K mg base (CXR P w0 base) 3 f fd ["self", "year"] (XJ K g) := by
  refine F.okX sc_World___init__ (fun vs H Q E h => ?_) (fun cdv A outer s H vs Q E hr h => ?_)
  · obtain ⟨w, dx, y, rfl, _⟩ := h
    rfl
  obtain ⟨w, dx, y, rfl, hw, q1, q⟩ := h
  refine ⟨_, (
(@Ze _ _ _ _ _ (@ZG _ _ _ _ (@J9 _ _ _ _ _ _ _ _ _ _ _ Xh D_want_between (hr.mono (by decide)) (@Za _ _ _ _ _ (@qv _ 1 _ _ (by walk_at "w")) (@Za _ _ _ _ _ (@Zh _ _ _ _) (@Za _ _ _ _ _ (@ZL _ _ (.int 9999) _ _ rfl T.m_LAST_FIRST_YEAR ⟨_, rfl⟩ (by decide)) (@Zd _) (by rfl)) (by rfl)) (by rfl)) (by rfl) (by decide) (by rfl) (by rfl)) (by rfl)) (@Ze _ _ _ _ _ (@ps_fld _ _ _ _ _ _ _ _ (@qv _ 0 _ _ (by walk_at "w")) (@qv _ 1 _ _ (by walk_at "w")) rfl) (@Ze _ _ _ _ _ (@ps_fld _ _ _ _ _ _ _ _ (@qv _ 0 _ _ (by walk_at "w")) (@pe_mk0 _ _ _ _ _ _ _ _ _ _ Jn K_Lives (hr.mono (by decide)) rfl (by decide)) rfl) (@Zf _ _ _ (@ps_fld _ _ _ _ _ _ _ _ (@qv _ 0 _ _ (by walk_at "w")) (@Jm _ _) rfl)))))), ?_⟩
  refine ⟨_, rfl, y, 0, 9999, rfl, q1, fun hy => ?_⟩
  refine ⟨_, rfl, _, rfl, w, _, dx, _, rfl, hw, T.cl_World, T.n_World_year, by decide, ?_⟩
  intro b dxb nb ndb neb
  have nwb : b ≠ w := fun e => by rw [e, Zc] at nb; cases nb
  have hb0 : H b = none := by rw [Zg nwb] at nb; exact nb
  refine ⟨b, dxb, rfl, Zc, fun RL H1 kp fr L => ⟨rfl, ?_⟩⟩
  have s1 := made nb ndb kp
  have hw1 := s1 _ _ (Zc (H := H) (a := w))
  have fRL : ∀ a ∈ RL, upd H w (.ins g.World dx [("year", .int y)]) a = none := fun a ha => (fr a ha).elim (fun e => by rw [e]; exact nb) made_free
  have nwRL : w ∉ RL := fun z => by have := fRL w z; rw [Zc] at this; cases this
  refine ⟨_, rfl, w, _, dx, _, rfl, hw1, T.cl_World, T.n_World_lives, (by show 1 < 1000; decide), ?_⟩
  intro hd hhd
  have nhw : hd ≠ w := fun e => by rw [e, Zc] at hhd; cases hhd
  have hhd1 : H1 hd = none := by rw [Zg nhw] at hhd; exact hhd
  have nhRL : hd ∉ RL := fun z => by obtain ⟨o, e⟩ := L.live hd z; rw [hhd1] at e; cases e
  refine ⟨_, rfl, w, _, dx, _, rfl, (by rw [Zg (Ne.symm nhw), Zc]), T.cl_World, T.n_World_happened, (by show 2 < 1000; decide), ?_⟩
  have f0 : ∀ a, upd H w (.ins g.World dx [("year", .int y)]) a = none → H a = none := fun a e => by
    have n : a ≠ w := fun z => by rw [z, Zc] at e; cases e
    rw [Zg n] at e; exact e
  have hd0 : H hd = none := f0 hd (s1.free hhd1)
  refine q hy (w :: hd :: RL) _ ⟨fun a o hn e => ?_, fun a e => ?_⟩ (fun a ha => ?_) ⟨dx, b, hd, RL, Zc, ?_, ?_, rfl, nwRL, nhRL⟩
  · have na : a ≠ w := fun z => hn (by simp [z])
    have nh : a ≠ hd := Zx e hd0
    rw [Zg na, Zg nh, Zg na]
    exact s1 _ _ (by rw [Zg na]; exact e)
  · have na : a ≠ w := fun z => by rw [z, Zc] at e; cases e
    rw [Zg na] at e
    have nh : a ≠ hd := fun z => by rw [z, Zc] at e; cases e
    rw [Zg nh, Zg na] at e
    exact f0 a (s1.free e)
  · rcases List.mem_cons.mp ha with rfl | ha
    · exact .inl rfl
    rcases List.mem_cons.mp ha with rfl | ha
    · exact .inr hd0
    exact .inr (f0 a (fRL a ha))
  · refine L.mv fun a ha o e => ?_
    have na : a ≠ w := fun z => nwRL (z ▸ ha)
    have nh : a ≠ hd := fun z => nhRL (z ▸ ha)
    rw [Zg na, Zg nh, Zg na]
    exact e
  · rw [Zg nhw, Zc]
    rfl
theorem ok_World_pass_years {f : Addr} {fd : FuncData} (F : Fun K "pass_years" "World.pass_years" ZT f fd) (T : Txt K g mg) (D_want_between : Dx P w0 K mg base 1 "want_between" ["number", "low", "high"] (YF K g)) : FnOk P w0 K mg base (CXR P w0 base) 2 f fd ["self", "many"] (Xi K g) := by
  refine F.okX sc_World_pass_years (fun vs H Q E h => ?_) (fun cdv A outer s H vs Q E hr h => ?_)
  · obtain ⟨w, S, R, k, rfl, _⟩ := h
    rfl
  obtain ⟨w, S, R, k, rfl, W, q1, q⟩ := h
  refine ⟨_, (
(@Ze _ _ _ _ _ (@ZG _ _ _ _ (@J9 _ _ _ _ _ _ _ _ _ _ _ Xh D_want_between (hr.mono (by decide)) (@Za _ _ _ _ _ (@qv _ 1 _ _ (by walk_at "w")) (@Za _ _ _ _ _ (@Zh _ _ _ _) (@Za _ _ _ _ _ (@ZL _ _ (.int 60) _ _ rfl T.m_MOST_YEARS ⟨_, rfl⟩ (by decide)) (@Zd _) (by rfl)) (by rfl)) (by rfl)) (by rfl) (by decide) (by rfl) (by rfl)) (by rfl)) (@Zf _ _ _ (@ps_fldaug _ _ _ _ _ _ _ _ _ _ (@qv _ 0 _ _ (by walk_at "w")) (@qv _ 1 _ _ (by walk_at "w")) (@in_add _))))), ?_⟩
  obtain ⟨dx, b, hd, RL, hw, L, hh, eR, n1, n2⟩ := W.ex
  obtain ⟨dy, y1, y2, y3, hb⟩ := L.obj
  refine ⟨_, rfl, k, 1, 60, rfl, q1, fun hk => ?_⟩
  refine ⟨_, rfl, w, _, dx, _, _, rfl, hw, T.cl_World, T.n_World_year, rfl, _, rfl, _, _, rfl, rfl, dx, _, hw, (by show 3 < 1000; decide), ?_⟩
  have nwh : hd ≠ w := ZF hh hw (fun z => by cases z)
  subst eR
  exact q hk _ (YG.wide (fun a ha => by rw [List.mem_singleton.mp ha]; simp)) ⟨dx, b, hd, RL, Zc, L.mv (fun a ha o e => by rw [Zg (show a ≠ w from fun z => n1 (by rw [← z]; exact ha))]; exact e), by rw [Zg nwh]; exact hh, rfl, n1, n2⟩
theorem ok_World_arrive {f : Addr} {fd : FuncData} (F : Fun K "arrive" "World.arrive" Yt f fd) (T : Txt K g mg) (D_want_between : Dx P w0 K mg base 1 "want_between" ["number", "low", "high"] (YF K g)) (D_Lives_arrive : Dm P w0 K mg base (CXR P w0 base) g.Lives 4 "arrive" ["self", "word", "born"] (Js K g)) : FnOk P w0 K mg base (CXR P w0 base) 5 f fd ["self", "word", "age"] (Jr K g) := by
  refine F.okX sc_World_arrive (fun vs H Q E h => ?_) (fun cdv A outer s H vs Q E hr h => ?_)
  · obtain ⟨w, S, R, n, a, rfl, _⟩ := h
    rfl
  obtain ⟨w, S, R, n, a, rfl, W, hx, hl, q0, q1, q2, q⟩ := h
  refine ⟨_, (
(@Ze _ _ _ _ _ (@ZG _ _ _ _ (@J9 _ _ _ _ _ _ _ _ _ _ _ Xh D_want_between (hr.mono (by decide)) (@Za _ _ _ _ _ (@qv _ 2 _ _ (by walk_at "w")) (@Za _ _ _ _ _ (@Zh _ _ _ _) (@Za _ _ _ _ _ (@ZL _ _ (.int 120) _ _ rfl T.m_OLDEST ⟨_, rfl⟩ (by decide)) (@Zd _) (by rfl)) (by rfl)) (by rfl)) (by rfl) (by decide) (by rfl) (by rfl)) (by rfl)) (@Zf _ _ _ (@ZG _ _ _ _ (@ZN _ _ _ _ _ _ _ _ _ _ _ _ _ _ _ _ Xh D_Lives_arrive (hr.mono (by decide)) (@Zz _ _ _ _ _ (@qv _ 0 _ _ (by walk_at "w")) rfl) (@Za _ _ _ _ _ (@qv _ 1 _ _ (by walk_at "w")) (@Za _ _ _ _ _ (@Zs _ _ _ _ _ _ _ _ (@op_sub _) (@Zz _ _ _ _ _ (@qv _ 0 _ _ (by walk_at "w")) rfl) (@qv _ 2 _ _ (by walk_at "w"))) (@Zd _) (by rfl)) (by rfl)) (by rfl) (by rfl) (by rfl)) (by rfl))))), ?_⟩
  obtain ⟨dx, b, hd, RL, hw, L, hh, eR, n1, n2⟩ := W.ex
  obtain ⟨dy, y1, y2, y3, hb⟩ := L.obj
  refine ⟨_, rfl, a, 0, 120, rfl, q0, fun ha => ?_⟩
  refine ⟨_, rfl, w, _, dx, _, _, rfl, hw, T.cl_World, T.n_World_lives, rfl, b, dy, _, rfl, hb, rfl, _, rfl, _, rfl, w, _, dx, _, _, rfl, hw, T.cl_World, T.n_World_year, rfl, _, rfl, _, _, rfl, rfl, b, S.bs, S.ds, RL, n, _, rfl, L, hx, hl, q1 ha, q2 ha, fun e1 e2 R' H' kp gr L' => ?_⟩
  subst eR
  obtain ⟨W', k', g'⟩ := WorldAt.book (S := S) hw hh n1 n2 kp gr L'
  exact q ha e1 e2 _ H' k' g' W'
theorem ok_World_birth {f : Addr} {fd : FuncData} (F : Fun K "birth" "World.birth" YQ f fd) (T : Txt K g mg) (D_Lives_birth : Dm P w0 K mg base (CXR P w0 base) g.Lives 4 "birth" ["self", "name", "year"] (JU K g)) : FnOk P w0 K mg base (CXR P w0 base) 5 f fd ["self", "name"] (JS K g) := by
  refine F.okX sc_World_birth (fun vs H Q E h => ?_) (fun cdv A outer s H vs Q E hr h => ?_)
  · obtain ⟨w, S, R, n, rfl, _⟩ := h
    rfl
  obtain ⟨w, S, R, n, rfl, W, hl, h99, q0, q1, q2, q⟩ := h
  refine ⟨_, (
(@Zf _ _ _ (@Zk _ _ _ _ (@ZN _ _ _ _ _ _ _ _ _ _ _ _ _ _ _ _ Xh D_Lives_birth (hr.mono (by decide)) (@Zz _ _ _ _ _ (@qv _ 0 _ _ (by walk_at "w")) rfl) (@Za _ _ _ _ _ (@qv _ 1 _ _ (by walk_at "w")) (@Za _ _ _ _ _ (@Zz _ _ _ _ _ (@qv _ 0 _ _ (by walk_at "w")) rfl) (@Zd _) (by rfl)) (by rfl)) (by rfl) (by rfl) (by rfl))))), ?_⟩
  obtain ⟨dx, b, hd, RL, hw, L, hh, eR, n1, n2⟩ := W.ex
  obtain ⟨dy, y1, y2, y3, hb⟩ := L.obj
  refine ⟨_, rfl, w, _, dx, _, _, rfl, hw, T.cl_World, T.n_World_lives, rfl, b, dy, _, rfl, hb, rfl, _, rfl, _, rfl, w, _, dx, _, _, rfl, hw, T.cl_World, T.n_World_year, rfl, b, S.bs, S.ds, RL, n, _, rfl, L, hl, h99, q0, q1, q2, fun e1 e2 e3 R' H' kp gr L' => ?_⟩
  subst eR
  obtain ⟨W', k', g'⟩ := WorldAt.book (S := S) hw hh n1 n2 kp gr L'
  exact q e1 e2 e3 _ H' k' g' W'
theorem ok_World_death {f : Addr} {fd : FuncData} (F : Fun K "death" "World.death" YN f fd) (T : Txt K g mg) (D_Lives_death : Dm P w0 K mg base (CXR P w0 base) g.Lives 4 "death" ["self", "name", "year"] (JT K g)) : FnOk P w0 K mg base (CXR P w0 base) 5 f fd ["self", "name"] (JQ K g) := by
  refine F.okX sc_World_death (fun vs H Q E h => ?_) (fun cdv A outer s H vs Q E hr h => ?_)
  · obtain ⟨w, S, R, n, rfl, _⟩ := h
    rfl
  obtain ⟨w, S, R, n, rfl, W, hl, q0, q1, q⟩ := h
  refine ⟨_, (
(@Zf _ _ _ (@ZG _ _ _ _ (@ZN _ _ _ _ _ _ _ _ _ _ _ _ _ _ _ _ Xh D_Lives_death (hr.mono (by decide)) (@Zz _ _ _ _ _ (@qv _ 0 _ _ (by walk_at "w")) rfl) (@Za _ _ _ _ _ (@qv _ 1 _ _ (by walk_at "w")) (@Za _ _ _ _ _ (@Zz _ _ _ _ _ (@qv _ 0 _ _ (by walk_at "w")) rfl) (@Zd _) (by rfl)) (by rfl)) (by rfl) (by rfl) (by rfl)) (by rfl)))), ?_⟩
  obtain ⟨dx, b, hd, RL, hw, L, hh, eR, n1, n2⟩ := W.ex
  obtain ⟨dy, y1, y2, y3, hb⟩ := L.obj
  refine ⟨_, rfl, w, _, dx, _, _, rfl, hw, T.cl_World, T.n_World_lives, rfl, b, dy, _, rfl, hb, rfl, _, rfl, _, rfl, w, _, dx, _, _, rfl, hw, T.cl_World, T.n_World_year, rfl, b, S.bs, S.ds, RL, n, _, rfl, L, hl, q0, q1, fun e1 e2 H' kp L' => ?_⟩
  subst eR
  obtain ⟨W', k', g'⟩ := WorldAt.book (S := S) hw hh n1 n2 kp (Y5.refl _ _) L'
  exact q e1 e2 H' k' W'
theorem ok_World_comes {f : Addr} {fd : FuncData} (F : Fun K "comes" "World.comes" YO f fd) (T : Txt K g mg) (D_want_word : Dx P w0 K mg base 3 "want_word" ["word"] (Jy K g)) : FnOk P w0 K mg base (CXR P w0 base) 4 f fd ["self", "word"] (JR K g) := by
  refine F.okX sc_World_comes (fun vs H Q E h => ?_) (fun cdv A outer s H vs Q E hr h => ?_)
  · obtain ⟨w, S, R, n, rfl, _⟩ := h
    rfl
  obtain ⟨w, S, R, n, rfl, W, hx, hl, q0, q1, q⟩ := h
  refine ⟨_, (
(@Ze _ _ _ _ _ (@ZG _ _ _ _ (@J9 _ _ _ _ _ _ _ _ _ _ _ Xh D_want_word (hr.mono (by decide)) (@Za _ _ _ _ _ (@qv _ 1 _ _ (by walk_at "w")) (@Zd _) (by rfl)) (by rfl) (by decide) (by rfl) (by rfl)) (by rfl)) (@Ze _ _ _ _ _ (@ZA _ _ _ _ _ _ _ _ (@XS _ _ _ _ _ _ (@pc_din _ _ _ _ _ (ZW hr) (@qv _ 1 _ _ (by walk_at "w")) (@Zz _ _ _ _ _ (@qv _ 0 _ _ (by walk_at "w")) rfl)) (by walk_at "n")) (@Zf _ _ _ (@Xk _ _ _ _ _ _ _ _ _ _ _ _ _ _ _ _ _ _ _ _ _ _ T.x_Taken.x T.m_Taken (@Zn _ _ _ _) (by rfl) (by rfl) (by decide))) (@Zp _)) (@Zf _ _ _ (@JC _ _ _ _ _ _ _ _ _ (ZW hr) (@Zz _ _ _ _ _ (@qv _ 0 _ _ (by walk_at "w")) rfl) (@qv _ 1 _ _ (by walk_at "w")) (@Zz _ _ _ _ _ (@qv _ 0 _ _ (by walk_at "w")) rfl) rfl))))), ?_⟩
  obtain ⟨dx, b, hd, RL, hw, L, hh, eR, n1, n2⟩ := W.ex
  obtain ⟨dy, y1, y2, y3, hb⟩ := L.obj
  refine ⟨_, rfl, n, rfl, hx, q0, fun hg => ?_⟩
  refine ⟨_, rfl, _, rfl, w, _, dx, _, _, rfl, hw, T.cl_World, T.n_World_happened, rfl, hd, _, rfl, Yp.k (k := Sum.inr n) hh, _, rfl, ?_⟩
  rw [ZR]
  cases hc : has S.cs n with
  | true => exact YY ⟨rfl, q1 hg hc⟩
  | false =>
    refine Yf ⟨_, rfl, w, _, dx, _, _, rfl, hw, T.cl_World, T.n_World_year, rfl, _, rfl, w, _, dx, _, _, rfl, hw, T.cl_World, T.n_World_happened, rfl, _, rfl, hd, _, rfl, DPut.k (k := Sum.inr n) hh (ZB (by unfold yrs; rw [List.length_map]; omega)), ?_⟩
    rw [XR _ (no_valV hc), yrs_app]
    have nwh : w ≠ hd := ZF hw hh (fun z => by cases z)
    subst eR
    exact q hg hc _ (YG.wide (fun a ha => by rw [List.mem_singleton.mp ha]; simp)) ⟨dx, b, hd, RL, by rw [Zg nwh]; exact hw, L.mv (fun a ha o e => by rw [Zg (show a ≠ hd from fun z => n2 (by rw [← z]; exact ha))]; exact e), Zc, rfl, n1, n2⟩
theorem ok_law_num {f : Addr} {fd : FuncData} (F : Fun K "_law_num" "_law_num" JK f fd) (T : Txt K g mg)  : FnOk P w0 K mg base CX0 1 f fd ["_law_found"] (sp_law_num K g) := by
  refine F.ok sc_law_num (fun vs H Q E h => ?_) (fun cdv A outer s H vs Q E hr h => ?_)
  · obtain ⟨i, rfl, _⟩ := h
    rfl
  obtain ⟨i, rfl, q⟩ := h
  refine ⟨_, (
(@Zf _ _ _ (@Zk _ _ _ _ (@pe_and _ _ _ _ _ _ _ (@ZC _ _ _ _ _ _ _ _ _ (@call_isi _) rfl T.z_isinstance PyProof.Rows.boot_isinstance (@Za _ _ _ _ _ (@qv _ 0 _ _ (by walk_at "w")) (@Za _ _ _ _ _ (@pe_bltn _ _ (V.ty "int") _ _ rfl T.z_int PyProof.Rows.boot_int rfl (by decide) (by decide)) (@Zd _) (by rfl)) (by rfl)) (by decide) (by decide) (by rfl) (by rfl)) (@pe_one _ _ _ _ _ (@pe_not _ _ _ _ (@ZC _ _ _ _ _ _ _ _ _ (@call_isi _) rfl T.z_isinstance PyProof.Rows.boot_isinstance (@Za _ _ _ _ _ (@qv _ 0 _ _ (by walk_at "w")) (@Za _ _ _ _ _ (@pe_bltn _ _ (V.ty "bool") _ _ rfl T.z_bool PyProof.Rows.boot_bool rfl (by decide) (by decide)) (@Zd _) (by rfl)) (by rfl)) (by decide) (by decide) (by rfl) (by rfl)))))))), ?_⟩
  refine ⟨_, rfl, _, _, _, _, rfl, .int _, kit_ii, _, rfl, YY ?_⟩
  exact ⟨_, rfl, _, _, _, _, rfl, .int _, kit_ib, _, rfl, q⟩
theorem ok_law_cell_at {f : Addr} {fd : FuncData} (F : Fun K "_law_cell_at" "_law_cell_at" YJ f fd) (T : Txt K g mg)  : FnOk P w0 K mg base CX0 1 f fd ["_law_script", "_law_k"] (JN K g) := by
  refine F.ok sc_law_cell_at (fun vs H Q E h => ?_) (fun cdv A outer s H vs Q E hr h => ?_)
  · obtain ⟨a, ns, k, rfl, _⟩ := h
    rfl
  obtain ⟨a, ns, k, rfl, hS, h0, q⟩ := h
  refine ⟨_, (
(@Ze _ _ _ _ _ (@ZA _ _ _ _ _ _ _ _ (@Zl _ _ _ _ _ _ _ _ (@op_lt _) (@qv _ 1 _ _ (by walk_at "w")) (@ZC _ _ _ _ _ _ _ _ _ (@ZJ _) rfl T.z_len PySem.boot_len (@Za _ _ _ _ _ (@qv _ 0 _ _ (by walk_at "w")) (@Zd _) (by rfl)) (by decide) (by decide) (by rfl) (by rfl)) (Zr _)) (@Zf _ _ _ (@Zk _ _ _ _ (@Zt _ _ _ _ _ _ _ (@Ym _) (@qv _ 0 _ _ (by walk_at "w")) (@qv _ 1 _ _ (by walk_at "w")) (fun _ _ => rfl)))) (@Zp _)) (@Zf _ _ _ (@Zk _ _ _ _ (@Zh _ _ _ _))))), ?_⟩
  have hl : (ns.map V.int).length = ns.length := List.length_map _
  refine ⟨_, rfl, _, rfl, _, _, rfl, .inl ⟨_, hS, rfl⟩, _, _, rfl, rfl, _, rfl, ?_⟩
  refine YA (fun c => ?_) (fun c => ?_)
  · have c' : k < (((ns.map V.int).length : Nat) : Int) := of_decide_eq_true c
    rw [hl] at c'
    have hk : k.toNat < ns.length := by omega
    have e : atI (ns.map V.int) ((k.toNat : Nat) : Int) = some (.int ns[k.toNat]) := atI_nat (by rw [List.getElem?_map, List.getElem?_eq_getElem hk] <;> rfl)
    rw [show ((k.toNat : Nat) : Int) = k by omega] at e
    exact ⟨_, rfl, _, rfl, a, _, _, _, rfl, rfl, hS, e, q _⟩
  · exact q 0
theorem ok_law_rich {f : Addr} {fd : FuncData} (F : Fun K "_law_rich" "_law_rich" X3 f fd) (T : Txt K g mg)  : FnOk P w0 K mg base CX0 1 f fd ["_law_cell", "_law_place"] (sp_law_rich K g) := by
  refine F.ok sc_law_rich (fun vs H Q E h => ?_) (fun cdv A outer s H vs Q E hr h => ?_)
  · obtain ⟨c, p, rfl, _⟩ := h
    rfl
  obtain ⟨c, p, rfl, q⟩ := h
  refine ⟨_, (
(@Ze _ _ _ _ _ (@ZA _ _ _ _ _ _ _ _ (@Zl _ _ _ _ _ _ _ _ (@op_ge _) (@qv _ 0 _ _ (by walk_at "w")) (@Zs _ _ _ _ _ _ _ _ (@op_pow _) (@Zh _ _ _ _) (@Zh _ _ _ _)) (Zr _)) (@Zf _ _ _ (@Zk _ _ _ _ (@qv _ 0 _ _ (by walk_at "w")))) (@Zp _)) (@Ze _ _ _ _ _ (@Zu _ _ (2) _ _ _ _ sc_law_rich.nd rfl (Or.inl rfl) (@Zs _ _ _ _ _ _ _ _ (@Yo _) (@Zs _ _ _ _ _ _ _ _ (@Yz _) (@Zs _ _ _ _ _ _ _ _ (@Yz _) (@Zs _ _ _ _ _ _ _ _ (@op_mul _) (@qv _ 0 _ _ (by walk_at "w")) (@Zh _ _ _ _)) (@Zs _ _ _ _ _ _ _ _ (@op_mul _) (@qv _ 1 _ _ (by walk_at "w")) (@Zh _ _ _ _))) (@Zh _ _ _ _)) (@Zh _ _ _ _)) (by rfl) (by walk_at "u")) (@Ze _ _ _ _ _ (@Zu _ _ (3) _ _ _ _ sc_law_rich.nd rfl (Or.inl rfl) (@Zs _ _ _ _ _ _ _ _ (@Yo _) (@Zs _ _ _ _ _ _ _ _ (@Yz _) (@Zs _ _ _ _ _ _ _ _ (@Yz _) (@Zs _ _ _ _ _ _ _ _ (@op_mul _) (@qv _ 2 _ _ (by walk_at "w")) (@qv _ 2 _ _ (by walk_at "w"))) (@Zs _ _ _ _ _ _ _ _ (@op_mul _) (@qv _ 0 _ _ (by walk_at "w")) (@Zh _ _ _ _))) (@Zs _ _ _ _ _ _ _ _ (@op_mul _) (@qv _ 1 _ _ (by walk_at "w")) (@Zh _ _ _ _))) (@Zh _ _ _ _)) (by rfl) (by walk_at "u")) (@Zf _ _ _ (@Zk _ _ _ _ (@Zs _ _ _ _ _ _ _ _ (@Yz _) (@Zs _ _ _ _ _ _ _ _ (@op_mul _) (@qv _ 2 _ _ (by walk_at "w")) (@Zh _ _ _ _)) (@qv _ 3 _ _ (by walk_at "w"))))))))), ?_⟩
  refine ⟨_, rfl, _, _, rfl, rfl, ⟨by decide, by decide, by decide⟩, _, _, rfl, rfl, _, rfl, ?_⟩
  refine YA (fun _ => ?_) (fun _ => ?_)
  · exact ⟨_, rfl, q _⟩
  · have small : ∀ z : Int, (-(2 ^ 64) < z % 2147483647 ∧ z % 2147483647 < 2 ^ 64) := fun z => ⟨by omega, by omega⟩
    refine ⟨_, rfl, _, _, rfl, rfl, .inr ⟨by decide, by decide⟩, _, rfl, _, _, rfl, rfl, .inr ⟨by decide, by decide⟩, _, _, rfl, rfl, _, _, rfl, rfl, _, _, rfl, rfl, (by show (0 : Int) < 2147483647; decide), ?_⟩
    refine ⟨_, rfl, _, rfl, _, _, rfl, rfl, .inl (small _), _, rfl, _, _, rfl, rfl, .inr ⟨by decide, by decide⟩, _, _, rfl, rfl, _, rfl, _, _, rfl, rfl, .inr ⟨by decide, by decide⟩, _, _, rfl, rfl, _, _, rfl, rfl, (by show (0 : Int) < 2147483629; decide), ?_⟩
    exact ⟨_, rfl, _, _, rfl, rfl, .inr ⟨by decide, by decide⟩, _, rfl, _, _, rfl, rfl, q _⟩
theorem ok_law_word {f : Addr} {fd : FuncData} (F : Fun K "_law_word" "_law_word" X2 f fd) (T : Txt K g mg)  : FnOk P w0 K mg base CX0 1 f fd ["_law_n"] (J3 K g) := by
  refine F.ok Y0 (fun vs H Q E h => ?_) (fun cdv A outer s H vs Q E hr h => ?_)
  · obtain ⟨n, rfl, _⟩ := h
    rfl
  obtain ⟨n, rfl, q⟩ := h
  refine ⟨_, (
(@Ze _ _ _ _ _ (@Zu _ _ (1) _ _ _ _ Y0.nd rfl (Or.inl rfl) (@Zs _ _ _ _ _ _ _ _ (@Yz _) (@Zh _ _ _ _) (@Zs _ _ _ _ _ _ _ _ (@Yo _) (@qv _ 0 _ _ (by walk_at "w")) (@Zh _ _ _ _))) (by rfl) (by walk_at "u")) (@Ze _ _ _ _ _ (@Zu _ _ (0) _ _ _ _ Y0.nd rfl (Or.inl rfl) (@Zs _ _ _ _ _ _ _ _ (@Xp _) (@qv _ 0 _ _ (by walk_at "w")) (@Zh _ _ _ _)) (by rfl) (by walk_at "u")) (@Ze _ _ _ _ _ (@Zu _ _ (2) _ _ _ _ Y0.nd rfl (Or.inl rfl) (@Zn _ _ _ _) (by rfl) (by walk_at "u")) (@Ze _ _ _ _ _ (@JW _ _ _ _ _ _ _ _ PassesOwn.never rfl (@pi_range1 _ _ _ _ _ _ rfl T.z_range (@Za _ _ _ _ _ (@qv _ 1 _ _ (by walk_at "w")) (@Zd _) (by rfl)) (by rfl)) (@ZP _ _ (3) _ Y0.nd rfl (Or.inl rfl) (by walk_at "u")) (@Ze _ _ _ _ _ (@Zu _ _ (2) _ _ _ _ Y0.nd rfl (Or.inl rfl) (@Zs _ _ _ _ _ _ _ _ (@YC _) (@qv _ 2 _ _ (by walk_at "w")) (@Zt _ _ _ _ _ _ _ (@ix_str _) (@Zn _ _ _ _) (@Zs _ _ _ _ _ _ _ _ (@Yo _) (@qv _ 0 _ _ (by walk_at "w")) (@Zh _ _ _ _)) (fun _ _ => rfl))) (by rfl) (by walk_at "u")) (@Zf _ _ _ (@Zu _ _ (0) _ _ _ _ Y0.nd rfl (Or.inl rfl) (@Zs _ _ _ _ _ _ _ _ (@Xp _) (@qv _ 0 _ _ (by walk_at "w")) (@Zh _ _ _ _)) (by rfl) (by walk_at "u")))) (by intro _ ; rfl)) (@Ze _ _ _ _ _ (@ZA _ _ _ _ _ _ _ _ (@PW.pt _ _ _ (@pw_or _ _ _ _ _ _ _ (@Zl _ _ _ _ _ _ _ _ (@Yc _) (@qv _ 2 _ _ (by walk_at "w")) (@Zn _ _ _ _) (Zr _)) (@pw_or1 _ _ _ _ (@Zl _ _ _ _ _ _ _ _ (@Yc _) (@qv _ 2 _ _ (by walk_at "w")) (@Zn _ _ _ _) (Zr _))))) (@Zf _ _ _ (@Zk _ _ _ _ (@pe_slice _ _ _ _ _ _ _ _ _ _ (@sl_str _) (@qv _ 2 _ _ (by walk_at "w")) (@po_none _) (@po_some _ _ _ (@Zh _ _ _ _))))) (@Zp _)) (@Zf _ _ _ (@Zk _ _ _ _ (@qv _ 2 _ _ (by walk_at "w")))))))))), ?_⟩
  refine ⟨_, rfl, _, _, rfl, rfl, (by show (0 : Int) < 8; decide), _, _, rfl, rfl, ?_⟩
  refine ⟨_, rfl, _, _, rfl, rfl, ⟨by decide, by decide⟩, ?_⟩
  have b1 := Int.emod_lt_of_pos n (show (0 : Int) < 8 by decide)
  have b0 := Int.emod_nonneg n (show (8 : Int) ≠ 0 by decide)
  refine ⟨_, rfl, 1 + n % 8, rfl, by omega, by omega, for_range (n := (1 + n % 8).toNat) (fun i σ H2 => H2 = H ∧ ∃ (n' : Int) (z : Str) (v : Option V), σ = [some (.int n'), some (.int (1 + n % 8)), some (.str z), v] ∧ z.length = i ∧ z.cps.toList.all (inR 97 122) = true) ⟨rfl, _, _, _, rfl, rfl, by decide +kernel⟩ ?_ ?_⟩
  · rintro i σ H2 hi ⟨rfl, n', z, v, rfl, hz, hk⟩
    obtain ⟨c, hc, hc2⟩ := abc_in (Int.emod_nonneg n' (show (26 : Int) ≠ 0 by decide)) (Int.emod_lt_of_pos n' (show (0 : Int) < 26 by decide))
    refine ⟨_, rfl, _, rfl, _, _, rfl, rfl, (by show (0 : Int) < 26; decide), abc, _, c, rfl, rfl, by decide +kernel, hc, z, _, rfl, rfl, ?_, ?_⟩
    · have : (⟨#[c]⟩ : Str).length = 1 := rfl
      have := ZB (n := 9) (by decide)
      omega
    · refine ⟨_, rfl, _, _, rfl, rfl, ⟨by decide, by decide⟩, rfl, _, _, _, rfl, ?_, ?_⟩
      · rw [XO, hz]
        rfl
      · rw [JE, List.all_append, hk]
        simp [hc2]
  · rintro σ H2 ⟨rfl, n', z, v, rfl, hz, hk⟩
    have hz8 : z.length ≤ 8 := by omega
    have hz1 : 1 ≤ z.length := by omega
    have cut : gw (Txt.slice z none (some 3)) = true → tRet (tSl (fun x lo hi H Q => ∃ z, x = .str z ∧ z.length ≤ sizeLine ∧ Q (.str (Txt.slice z lo hi)) H) (tVar 2) tNoPart (tPart (tC (.int 3)))) { nx := fun _ H' => Q .non H', rt := Q } [some (.int n'), some (.int (1 + n % 8)), some (.str z), v] H2 :=
      fun hg => ⟨_, rfl, _, rfl, z, rfl, Nat.le_of_lt (ZB (by omega)), q _ hg⟩
    refine ⟨_, rfl, rfl, _, rfl, ?_⟩
    refine YA (fun c => YY (cut ?_)) (fun c1 => ?_)
    · have e : z = "crown" := by injection (of_decide_eq_true c)
      rw [e]; decide +kernel
    refine ⟨_, rfl, rfl, _, rfl, ?_⟩
    refine YA (fun c => cut ?_) (fun c2 => ?_)
    · have e : z = "kids" := by injection (of_decide_eq_true c)
      rw [e]; decide +kernel
    refine ⟨_, rfl, q z ?_⟩
    unfold gw
    rw [decide_eq_true hz1, decide_eq_true hz8, hk, decide_eq_false (fun e => c1 (by rw [e]; rfl)), decide_eq_false (fun e => c2 (by rw [e]; rfl))]
    rfl
theorem ok_law_model {f : Addr} {fd : FuncData} (F : Fun K "_law_model" "_law_model" XA f fd) (T : Txt K g mg)  : FnOk P w0 K mg base CX0 1 f fd ["_law_year"] (sp_law_model K g) := by
  refine F.ok sc_law_model (fun vs H Q E h => ?_) (fun cdv A outer s H vs Q E hr h => ?_)
  · obtain ⟨y, rfl, _⟩ := h
    rfl
  obtain ⟨y, rfl, q⟩ := h
  refine ⟨_, (
(@Zf _ _ _ (@Zk _ _ _ _ (@Xq _ _ _ _ _ (@Za _ _ _ _ _ (@Xr _ _ _ _ (@Za _ _ _ _ _ (@qv _ 0 _ _ (by walk_at "w")) (@Zd _) (by rfl))) (@Za _ _ _ _ _ (@Jm _ _) (@Za _ _ _ _ _ (@Jm _ _) (@Za _ _ _ _ _ (@Jm _ _) (@Zd _) (by rfl)) (by rfl)) (by rfl)) (by rfl)))))), ?_⟩
  refine ⟨_, rfl, (by show 1 ≤ sizeLine; decide), fun c hc => ?_⟩
  intro e1 h1 e2 h2 e3 h3
  refine ⟨(by show 4 ≤ sizeLine; decide), fun m hm => ?_⟩
  have s1 := Zm hc (.lst [V.int y])
  have s2 := Zm h1 (.dK [])
  have s3 := Zm h2 (.dK [])
  have s4 := Zm h3 (.dK [])
  have s5 := Zm hm (.tup [V.ref c, V.ref e1, V.ref e2, V.ref e3])
  have t2 := s1.trans s2
  have t3 := t2.trans s3
  have t4 := t3.trans s4
  have u1 : upd (upd H c (.lst [V.int y])) e1 (.dK []) e1 = some (.dK []) := Zc
  have v1 := s3 _ _ u1
  have u2 : upd (upd (upd H c (.lst [V.int y])) e1 (.dK [])) e2 (.dK []) e2 = some (.dK []) := Zc
  have v2 := s4 _ _ u2
  refine q m (JZ m c e1 e2 e3) _ (t4.trans s5) (fun a ha => ?_) ⟨c, e1, e2, e3,
    ⟨Zc, s5 _ _ (s4 _ _ (s3 _ _ (s2 _ _ Zc))), s5 _ _ (s4 _ _ v1), s5 _ _ v2, s5 _ _ Zc, Zx u1 h2, Zx v1 h3, Zx u2 h3⟩, rfl⟩
  unfold JZ at ha
  simp only [List.mem_cons, List.not_mem_nil, or_false] at ha
  rcases ha with rfl | rfl | rfl | rfl | rfl
  · exact t4.free hm
  · exact hc
  · exact s1.free h1
  · exact t2.free h2
  · exact t3.free h3
theorem ok_law_kids {f : Addr} {fd : FuncData} (F : Fun K "_law_kids" "_law_kids" X8 f fd) (T : Txt K g mg)  : FnOk P w0 K mg base CX0 1 f fd ["_law_model_here", "_law_name"] (Xt K g) := by
  refine F.ok sc_law_kids (fun vs H Q E h => ?_) (fun cdv A outer s H vs Q E hr h => ?_)
  · obtain ⟨m, S, R, n, rfl, _⟩ := h
    rfl
  obtain ⟨m, S, R, n, rfl, MM, W, hx, hk, q⟩ := h
  obtain ⟨c, e1, e2, e3, M, eR⟩ := MdlAt.ex MM
  have h1 : ∀ i, i < nk S.bs n → has S.bs (kid n i) = true := fun i hi => (W.cnt n i (by omega)).mpr hi
  have h2 := W.no_kid n
  generalize nk S.bs n = k at *
  refine ⟨_, (
(@Ze _ _ _ _ _ (@Zu _ _ (2) _ _ _ _ sc_law_kids.nd rfl (Or.inl rfl) (@Xr _ _ _ _ (@Zd _)) (by rfl) (by walk_at "u")) (@Ze _ _ _ _ _ (@ps_while _ _ _ _ _ _ PassesOwn.never (@XS _ _ _ _ _ _ (@pc_din _ _ _ _ _ (ZW hr) (@Zs _ _ _ _ _ _ _ _ (@YC _) (@Zs _ _ _ _ _ _ _ _ (@YC _) (@qv _ 1 _ _ (by walk_at "w")) (@Zn _ _ _ _)) (@Yx _ _ _ _ _ _ _ _ _ (@JF _) rfl T.z_str PyProof.Rows.boot_str (@Za _ _ _ _ _ (@Zs _ _ _ _ _ _ _ _ (@Yz _) (@ZC _ _ _ _ _ _ _ _ _ (@ZJ _) rfl T.z_len PySem.boot_len (@Za _ _ _ _ _ (@qv _ 2 _ _ (by walk_at "w")) (@Zd _) (by rfl)) (by decide) (by decide) (by rfl) (by rfl)) (@Zh _ _ _ _)) (@Zd _) (by rfl)) (by decide) (by decide) (by rfl) (by rfl))) (@Zt _ _ _ _ _ _ _ (@Zv _) (@qv _ 0 _ _ (by walk_at "w")) (@Zh _ _ _ _) (fun _ _ => rfl))) (by walk_at "n")) (@Zf _ _ _ (@ZG _ _ _ _ (@JX _ _ _ _ _ _ _ _ _ _ _ _ PySem.F.plainAttrs_list PySem.F.slot_list_append PySem.F.type_list_append (@XF _) (@qv _ 2 _ _ (by walk_at "w")) (@Za _ _ _ _ _ (@Zs _ _ _ _ _ _ _ _ (@YC _) (@Zs _ _ _ _ _ _ _ _ (@YC _) (@qv _ 1 _ _ (by walk_at "w")) (@Zn _ _ _ _)) (@Yx _ _ _ _ _ _ _ _ _ (@JF _) rfl T.z_str PyProof.Rows.boot_str (@Za _ _ _ _ _ (@Zs _ _ _ _ _ _ _ _ (@Yz _) (@ZC _ _ _ _ _ _ _ _ _ (@ZJ _) rfl T.z_len PySem.boot_len (@Za _ _ _ _ _ (@qv _ 2 _ _ (by walk_at "w")) (@Zd _) (by rfl)) (by decide) (by decide) (by rfl) (by rfl)) (@Zh _ _ _ _)) (@Zd _) (by rfl)) (by decide) (by decide) (by rfl) (by rfl))) (@Zd _) (by rfl)) (by rfl) (by rfl) (by rfl) (by rfl) (by rfl)) (by rfl)))) (@Zf _ _ _ (@Zk _ _ _ _ (@qv _ 2 _ _ (by walk_at "w"))))))), ?_⟩
  refine ⟨Nat.zero_le _, fun l hl => ?_⟩
  have nm : m ≠ l := Zx M.tup hl
  have n1 : e1 ≠ l := Zx M.h1 hl
  refine ⟨fun mm σ H2 => ∃ i, i ≤ k ∧ mm = k - i ∧ σ = [some (.ref m), some (.str n), some (.ref l)] ∧ H2 = upd H l (.lst (Jo n i)), ⟨k, 0, Nat.zero_le _, rfl, rfl, rfl⟩, ?_⟩
  rintro mm σ H2 ⟨i, hi, rfl, rfl, rfl⟩
  have kl : (Jo n i).length = i := by unfold Jo; rw [List.length_map, List.length_range]
  have c0 : (0 : Int) ≤ (((Jo n i).length : Nat) : Int) + 1 := by omega
  have c1 : (((Jo n i).length : Nat) : Int) + 1 < 131 := by omega
  have tl := ts_len c0 c1
  have l3 : (n ++ ("." : Str)).length = n.length + 1 := by rw [len_app]; rfl
  have ke : n ++ ("." : Str) ++ (toString ((((Jo n i).length : Nat) : Int) + 1) : Str) = kid n i := by rw [kl]; rfl
  have g : Yp (upd H l (.lst (Jo n i))) e1 (.str (kid n i)) (Y6 (yrs S.bs) (Sum.inr (kid n i) : Key)) := Yp.k (k := Sum.inr (kid n i)) (by rw [Zg n1]; exact M.h1)
  refine ⟨_, rfl, n, _, rfl, rfl, ZM (by show n.length + 1 ≤ 500; omega), _, rfl, _, _, rfl, .inl ⟨_, SqL.of Zc, rfl⟩, _, _, rfl, rfl, _, rfl, log_small c0 c1, _, _, rfl, rfl, ZM (by rw [l3]; omega), ?_⟩
  rw [ke]
  refine ⟨_, rfl, m, _, _, _, rfl, rfl, SqT.of (by rw [Zg nm]; exact M.tup), rfl, e1, _, rfl, g, _, rfl, ?_⟩
  rw [ZR]
  by_cases ci : i < k
  · rw [h1 i ci]
    refine YY ⟨fun σ H2 => σ = [some (.ref m), some (.str n), some (.ref l)] ∧ H2 = upd H l (.lst (Jo n (i + 1))), fun σ' H' ⟨a1, a2⟩ => ⟨k - (i + 1), by omega, i + 1, ci, rfl, a1, a2⟩, ?_⟩
    refine ⟨_, rfl, .inl ⟨rfl, _, SqL.of Zc⟩, _, rfl, n, _, rfl, rfl, ZM (by show n.length + 1 ≤ 500; omega), _, rfl, _, _, rfl, .inl ⟨_, SqL.of Zc, rfl⟩, _, _, rfl, rfl, _, rfl, log_small c0 c1, _, _, rfl, rfl, ZM (by rw [l3]; omega), l, _, _, rfl, rfl, Zc, ZB (by rw [kl]; omega), rfl, ?_⟩
    rw [ke, upd_upd, kidV_next]
  · have e : i = k := by omega
    subst e
    rw [h2]
    exact Yf ⟨_, rfl, q l _ (Zm hl _) hl Zc⟩
theorem ok_law_living {f : Addr} {fd : FuncData} (F : Fun K "_law_living" "_law_living" Xb f fd) (T : Txt K g mg)  : FnOk P w0 K mg base CX0 1 f fd ["_law_model_here"] (J6 K g) := by
  refine F.ok sc_law_living (fun vs H Q E h => ?_) (fun cdv A outer s H vs Q E hr h => ?_)
  · obtain ⟨m, S, R, rfl, _⟩ := h
    rfl
  obtain ⟨m, S, R, rfl, MM, hlen, q⟩ := h
  obtain ⟨c, d1, d2, d3, B, eR⟩ := MdlAt.ex MM
  obtain ⟨y, bs, ds, cs⟩ := S
  simp only at B hlen q
  refine ⟨_, (
(@Zf _ _ _ (@Zk _ _ _ _ (@pe_thaw _ _ _ (d1) (yrs bs) (@pe_lc _ _ _ ("_law_name") _ _ _ ([("_law_model_here", s.heap.objs.size + 1)]) _ ([("_law_model_here", 0)]) _ _ _ rfl (@pi_dict _ _ _ _ (@Zt _ _ _ _ _ _ _ (@Zv _) (@qv _ 0 _ _ (by walk_at "w")) (@Zh _ _ _ _) (fun _ _ => rfl))) (fun _ _ _ _ _ => (@Xl _ _ _ (@XS _ _ _ _ _ _ (@Yy _ _ _ _ _ (ZW hr) (@qv _ 0 _ _ (by walk_at "w")) (@Zt _ _ _ _ _ _ _ (show IxR _ (rIxT K) from (@Zv _)) (@qv _ 1 _ _ (by walk_at "w")) (@Zh _ _ _ _) (fun _ _ => rfl))) (by walk_at "n")))) (fun _ _ _ _ _ => (@qv _ 0 _ _ (by walk_at "w"))) rfl (by decide +kernel) rfl (by decide +kernel) rfl (fun _ _ h => h) (Ju rfl) (fun p hp => by rw [List.mem_singleton.mp hp]; exact ⟨rfl, rfl, by first | exact .inl rfl | exact .inr rfl⟩) (by decide +kernel) (by intro _ ; rfl)))))), ?_⟩
  have hb := B.tup
  have nb1 : m ≠ d1 := ZF hb B.h1 (fun z => by cases z)
  have yl : (yrs bs).length = bs.length := by unfold yrs; rw [List.length_map]
  refine ⟨B.h1, _, rfl, m, _, _, _, rfl, rfl, SqT.of hb, rfl, d1, _, rfl, B.h1, fun o D hD => ⟨fun i k H2 => i ≤ bs.length ∧ k = bs.length - i ∧ H2 = upd (upd H d1 (.frz o (.dK (yrs bs)))) D (.lst (((bs.take i).filter fun p => !has ds p.1).map fun p => V.str p.1)), ⟨bs.length, Nat.zero_le _, rfl, rfl⟩, ?_⟩⟩
  have n1 : D ≠ d1 := fun e => by rw [e, Zc] at hD; cases hD
  have hD0 : H D = none := by rw [Zg n1] at hD; exact hD
  have nb : m ≠ D := Zx hb hD0
  have n2 : d2 ≠ D := Zx B.h2 hD0
  rintro i k H2 ⟨hi, rfl, rfl⟩
  by_cases ci : i < bs.length
  · refine .inr ⟨⟨by rw [Zg (Ne.symm n1), Zc], by rw [yl]; exact ci⟩, fun x H' ⟨e, kk, v, ek, ex⟩ => ?_⟩
    subst e
    have ek' : (yrs bs)[i]? = some ((Sum.inr (bs[i]).1 : Key), V.int (bs[i]).2) := by unfold yrs; rw [List.getElem?_map, List.getElem?_eq_getElem ci]; rfl
    rw [ek'] at ek
    cases ek
    subst ex
    have g : Yp (upd (upd H d1 (.frz o (.dK (yrs bs)))) D (.lst (((bs.take i).filter fun p => !has ds p.1).map fun p => V.str p.1))) d2 (.str (bs[i]).1) (Y6 (yrs ds) (Sum.inr (bs[i]).1 : Key)) := Yp.k (k := Sum.inr (bs[i]).1) (by rw [Zg n2, Zg (Ne.symm B.n12)]; exact B.h2)
    refine ⟨_, rfl, _, rfl, m, _, _, _, rfl, rfl, SqT.of (by rw [Zg nb, Zg nb1]; exact hb), rfl, d2, _, rfl, g, _, rfl, ?_⟩
    rw [ZR]
    have tk : bs.take (i + 1) = bs.take i ++ [bs[i]] := (take_next ci).symm
    cases e : has ds (bs[i]).1 with
    | true =>
      refine Yf ⟨bs.length - (i + 1), by omega, ci, rfl, ?_⟩
      rw [tk, List.filter_append]
      simp [e]
    | false =>
      refine YY ⟨_, rfl, _, bs.length - (i + 1), Zc, ZB ?_, by omega, ci, rfl, ?_⟩
      · rw [List.length_map]
        exact Nat.le_trans (List.length_filter_le _ _) (by rw [List.length_take]; omega)
      · rw [upd_upd, tk, List.filter_append, List.map_append]
        simp [e]
        rfl
  · have e : i = bs.length := by omega
    subst e
    refine .inl ⟨⟨by rw [Zg (Ne.symm n1), Zc], by rw [yl]; exact Nat.le_refl _⟩, o, by rw [Zg (Ne.symm n1), Zc], ?_⟩
    rw [List.take_length]
    have eq : upd (upd (upd H d1 (.frz o (.dK (yrs bs)))) D (.lst ((bs.filter fun p => !has ds p.1).map fun p => V.str p.1))) d1 (.dK (yrs bs)) = upd H D (.lst ((bs.filter fun p => !has ds p.1).map fun p => V.str p.1)) := by
      funext a
      by_cases ha : a = d1
      · rw [ha, Zc, Zg (Ne.symm n1), B.h1]
      · rw [Zg ha]
        by_cases hA : a = D
        · rw [hA, Zc, Zc]
        · rw [Zg hA, Zg ha, Zg hA]
    rw [eq]
    exact q D _ (Zm hD0 _) hD0 Zc
theorem ok_law_play {f : Addr} {fd : FuncData} (F : Fun K "_law_play" "_law_play" X4 f fd) (T : Txt K g mg) (D_law_kids : Dn P w0 K mg base 1 "_law_kids" ["_law_model_here", "_law_name"] (Xt K g)) : FnOk P w0 K mg base CX0 2 f fd ["_law_model_here", "_law_deed"] (sp_law_play K g) := by
  refine F.ok Jj (fun vs H Q E h => ?_) (fun cdv A outer s H vs Q E hr h => ?_)
  · obtain ⟨m, S, R, p, d, far, k, rfl, _⟩ := h
    rfl
  obtain ⟨m, S, R, p, d, far, k, rfl, M, hp, O, hk98, hg, q⟩ := h
  obtain ⟨c, e1, e2, e3, B, eR⟩ := MdlAt.ex M
  refine ⟨_, (
(@Ze _ _ _ _ _ (@ps_asg _ _ _ _ _ _ (@qv _ 0 _ _ (by walk_at "w")) (@pg_tup _ _ _ _ _ _ rfl (@Z2 _ _ _ _ _ (@ZP _ _ (2) _ Jj.nd rfl (Or.inl rfl) (by walk_at "u")) (@Z2 _ _ _ _ _ (@ZP _ _ (3) _ Jj.nd rfl (Or.inl rfl) (by walk_at "u")) (@Z2 _ _ _ _ _ (@ZP _ _ (4) _ Jj.nd rfl (Or.inl rfl) (by walk_at "u")) (@Z2 _ _ _ _ _ (@ZP _ _ (5) _ Jj.nd rfl (Or.inl rfl) (by walk_at "u")) (@pgs_nil _) (by rfl)) (by rfl)) (by rfl)) (by rfl)) (by rfl) (by rfl)) (by rfl) (by rfl) (by rfl)) (@Ze _ _ _ _ _ (@ZA _ _ _ _ _ _ _ _ (@Zl _ _ _ _ _ _ _ _ (@Yc _) (@Zt _ _ _ _ _ _ _ (@Zv _) (@qv _ 1 _ _ (by walk_at "w")) (@Zh _ _ _ _) (fun _ _ => rfl)) (@Zn _ _ _ _) (Zr _)) (@Zf _ _ _ (@ps_asg _ _ _ _ _ _ (@Zs _ _ _ _ _ _ _ _ (@Yz _) (@Zt _ _ _ _ _ _ _ (@Ym _) (@qv _ 2 _ _ (by walk_at "w")) (@Zh _ _ _ _) (fun _ _ => rfl)) (@Zt _ _ _ _ _ _ _ (@Zv _) (@qv _ 1 _ _ (by walk_at "w")) (@Zh _ _ _ _) (fun _ _ => rfl))) (@pg_sub _ _ _ _ _ _ _ (@qv _ 2 _ _ (by walk_at "w")) (@Zh _ _ _ _) (@set_list _) (by intro _ ; rfl)) (by rfl) (by rfl) (by rfl))) (@Zp _)) (@Ze _ _ _ _ _ (@ZA _ _ _ _ _ _ _ _ (@Zl _ _ _ _ _ _ _ _ (@Yc _) (@Zt _ _ _ _ _ _ _ (@Zv _) (@qv _ 1 _ _ (by walk_at "w")) (@Zh _ _ _ _) (fun _ _ => rfl)) (@Zn _ _ _ _) (Zr _)) (@Zf _ _ _ (@JC _ _ _ _ _ _ _ _ _ (ZW hr) (@qv _ 3 _ _ (by walk_at "w")) (@Zt _ _ _ _ _ _ _ (@Zv _) (@qv _ 1 _ _ (by walk_at "w")) (@Zh _ _ _ _) (fun _ _ => rfl)) (@Zs _ _ _ _ _ _ _ _ (@op_sub _) (@Zt _ _ _ _ _ _ _ (@Ym _) (@qv _ 2 _ _ (by walk_at "w")) (@Zh _ _ _ _) (fun _ _ => rfl)) (@Zt _ _ _ _ _ _ _ (@Zv _) (@qv _ 1 _ _ (by walk_at "w")) (@Zh _ _ _ _) (fun _ _ => rfl))) rfl)) (@Zp _)) (@Ze _ _ _ _ _ (@ZA _ _ _ _ _ _ _ _ (@Zl _ _ _ _ _ _ _ _ (@Yc _) (@Zt _ _ _ _ _ _ _ (@Zv _) (@qv _ 1 _ _ (by walk_at "w")) (@Zh _ _ _ _) (fun _ _ => rfl)) (@Zn _ _ _ _) (Zr _)) (@Zf _ _ _ (@JC _ _ _ _ _ _ _ _ _ (ZW hr) (@qv _ 3 _ _ (by walk_at "w")) (@Zs _ _ _ _ _ _ _ _ (@YC _) (@Zs _ _ _ _ _ _ _ _ (@YC _) (@Zt _ _ _ _ _ _ _ (@Zv _) (@qv _ 1 _ _ (by walk_at "w")) (@Zh _ _ _ _) (fun _ _ => rfl)) (@Zn _ _ _ _)) (@Yx _ _ _ _ _ _ _ _ _ (@JF _) rfl T.z_str PyProof.Rows.boot_str (@Za _ _ _ _ _ (@Zs _ _ _ _ _ _ _ _ (@Yz _) (@ZC _ _ _ _ _ _ _ _ _ (@ZJ _) rfl T.z_len PySem.boot_len (@Za _ _ _ _ _ (@Zy _ _ _ _ _ _ _ _ _ _ D_law_kids (hr.mono (by decide)) (@Za _ _ _ _ _ (@qv _ 0 _ _ (by walk_at "w")) (@Za _ _ _ _ _ (@Zt _ _ _ _ _ _ _ (@Zv _) (@qv _ 1 _ _ (by walk_at "w")) (@Zh _ _ _ _) (fun _ _ => rfl)) (@Zd _) (by rfl)) (by rfl)) (by rfl) (by decide) (by rfl) (by rfl)) (@Zd _) (by rfl)) (by decide) (by decide) (by rfl) (by rfl)) (@Zh _ _ _ _)) (@Zd _) (by rfl)) (by decide) (by decide) (by rfl) (by rfl))) (@Zt _ _ _ _ _ _ _ (@Ym _) (@qv _ 2 _ _ (by walk_at "w")) (@Zh _ _ _ _) (fun _ _ => rfl)) rfl)) (@Zp _)) (@Ze _ _ _ _ _ (@ZA _ _ _ _ _ _ _ _ (@Zl _ _ _ _ _ _ _ _ (@Yc _) (@Zt _ _ _ _ _ _ _ (@Zv _) (@qv _ 1 _ _ (by walk_at "w")) (@Zh _ _ _ _) (fun _ _ => rfl)) (@Zn _ _ _ _) (Zr _)) (@Zf _ _ _ (@JC _ _ _ _ _ _ _ _ _ (ZW hr) (@qv _ 4 _ _ (by walk_at "w")) (@Zt _ _ _ _ _ _ _ (@Zv _) (@qv _ 1 _ _ (by walk_at "w")) (@Zh _ _ _ _) (fun _ _ => rfl)) (@Zt _ _ _ _ _ _ _ (@Ym _) (@qv _ 2 _ _ (by walk_at "w")) (@Zh _ _ _ _) (fun _ _ => rfl)) rfl)) (@Zp _)) (@Zf _ _ _ (@ZA _ _ _ _ _ _ _ _ (@Zl _ _ _ _ _ _ _ _ (@Yc _) (@Zt _ _ _ _ _ _ _ (@Zv _) (@qv _ 1 _ _ (by walk_at "w")) (@Zh _ _ _ _) (fun _ _ => rfl)) (@Zn _ _ _ _) (Zr _)) (@Zf _ _ _ (@JC _ _ _ _ _ _ _ _ _ (ZW hr) (@qv _ 5 _ _ (by walk_at "w")) (@Zt _ _ _ _ _ _ _ (@Zv _) (@qv _ 1 _ _ (by walk_at "w")) (@Zh _ _ _ _) (fun _ _ => rfl)) (@Zt _ _ _ _ _ _ _ (@Ym _) (@qv _ 2 _ _ (by walk_at "w")) (@Zh _ _ _ _) (fun _ _ => rfl)) rfl)) (@Zp _))))))))), ?_⟩
  refine ⟨_, rfl, m, _, rfl, SqT.of B.tup, rfl, _, _, rfl, _, _, rfl, _, _, rfl, _, _, rfl, rfl, ?_⟩
  cases d with
  | arrive ww aa =>
    refine ⟨_, rfl, p, _, _, _, rfl, rfl, SqT.of hp, rfl, rfl, _, rfl, ZX (by decide +kernel) ?_⟩
    refine ⟨_, rfl, p, _, _, _, rfl, rfl, SqT.of hp, rfl, rfl, _, rfl, ifEq ?_⟩
    refine ⟨_, rfl, c, _, _, _, rfl, rfl, SqL.of B.clk, rfl, _, rfl, p, _, _, _, rfl, rfl, SqT.of hp, rfl, _, _, rfl, rfl, _, rfl, _, rfl, p, _, _, _, rfl, rfl, SqT.of hp, rfl, e1, _, rfl, DPut.k (k := Sum.inr ww) B.h1 (ZB (by unfold yrs; rw [List.length_map]; have := O.lb; omega)), ?_⟩
    rw [XR _ (no_valV hg.2.1), yrs_app]
    obtain ⟨hp, hk, fin⟩ := B.put1 eR hp (bs' := S.bs ++ [(ww, S.y - aa)])
    refine ⟨_, rfl, p, _, _, _, rfl, rfl, SqT.of hp, rfl, rfl, _, rfl, ZX (by decide +kernel) ?_⟩
    refine ⟨_, rfl, p, _, _, _, rfl, rfl, SqT.of hp, rfl, rfl, _, rfl, ZX (by decide +kernel) ?_⟩
    refine ⟨_, rfl, p, _, _, _, rfl, rfl, SqT.of hp, rfl, rfl, _, rfl, ZX (by decide +kernel) ?_⟩
    exact q _ hk fin
  | birth nn =>
    refine ⟨_, rfl, p, _, _, _, rfl, rfl, SqT.of hp, rfl, rfl, _, rfl, ZX (by decide +kernel) ?_⟩
    refine ⟨_, rfl, p, _, _, _, rfl, rfl, SqT.of hp, rfl, rfl, _, rfl, ZX (by decide +kernel) ?_⟩
    refine ⟨_, rfl, p, _, _, _, rfl, rfl, SqT.of hp, rfl, rfl, _, rfl, ifEq ?_⟩
    have hx := Je (O.wf.wrt nn hg.1)
    have hf := O.wf.few nn
    have hlb := O.lb
    refine ⟨_, rfl, c, _, _, _, rfl, rfl, SqL.of B.clk, rfl, _, rfl, _, rfl, p, _, _, _, rfl, rfl, SqT.of hp, rfl, nn, _, rfl, rfl, ZM (by show nn.length + 1 ≤ 500; omega), _, rfl, _, rfl, p, _, _, _, rfl, rfl, SqT.of hp, rfl, m, S, R, nn, rfl, M, O.wf, by omega, by omega, fun l H1 s1 hl1 hl2 => ?_⟩
    have B := B.keep s1
    have hp := s1 _ _ hp
    have M := M.same s1
    have kl : (Jo nn (nk S.bs nn)).length = nk S.bs nn := by unfold Jo; rw [List.length_map, List.length_range]
    have c0 : (0 : Int) ≤ ((nk S.bs nn : Nat) : Int) + 1 := by omega
    have c1 : ((nk S.bs nn : Nat) : Int) + 1 < 131 := by omega
    have tl := ts_len c0 c1
    refine ⟨_, _, rfl, .inl ⟨_, SqL.of hl2, rfl⟩, _, _, rfl, rfl, ?_⟩
    rw [kl]
    refine ⟨_, rfl, log_small c0 c1, _, _, rfl, rfl, ZM (by rw [show (nn ++ ("." : Str)).length = nn.length + 1 from XO _ _]; omega), e1, _, rfl, DPut.k (k := Sum.inr (kid nn (nk S.bs nn))) B.h1 (ZB (by unfold yrs; rw [List.length_map]; omega)), ?_⟩
    rw [XR _ (no_valV (O.wf.no_kid nn)), yrs_app]
    obtain ⟨hp, hk1, fin⟩ := B.put1 eR hp (bs' := S.bs ++ [(kid nn (nk S.bs nn), S.y)])
    have hk := s1.kp.wide (Y := R) (fun _ h => nomatch h) |>.tr hk1 (fun a ha => .inl ha)
    refine ⟨_, rfl, p, _, _, _, rfl, rfl, SqT.of hp, rfl, rfl, _, rfl, ZX (by decide +kernel) ?_⟩
    refine ⟨_, rfl, p, _, _, _, rfl, rfl, SqT.of hp, rfl, rfl, _, rfl, ZX (by decide +kernel) ?_⟩
    exact q _ hk fin
  | death nn =>
    refine ⟨_, rfl, p, _, _, _, rfl, rfl, SqT.of hp, rfl, rfl, _, rfl, ZX (by decide +kernel) ?_⟩
    refine ⟨_, rfl, p, _, _, _, rfl, rfl, SqT.of hp, rfl, rfl, _, rfl, ZX (by decide +kernel) ?_⟩
    refine ⟨_, rfl, p, _, _, _, rfl, rfl, SqT.of hp, rfl, rfl, _, rfl, ZX (by decide +kernel) ?_⟩
    refine ⟨_, rfl, p, _, _, _, rfl, rfl, SqT.of hp, rfl, rfl, _, rfl, ifEq ?_⟩
    refine ⟨_, rfl, c, _, _, _, rfl, rfl, SqL.of B.clk, rfl, _, rfl, _, rfl, p, _, _, _, rfl, rfl, SqT.of hp, rfl, e2, _, rfl, DPut.k (k := Sum.inr nn) B.h2 (ZB (by unfold yrs; rw [List.length_map]; have := O.ld; omega)), ?_⟩
    rw [XR _ (no_valV hg.2), yrs_app]
    obtain ⟨hp, hk, fin⟩ := B.put2 eR hp (ds' := S.ds ++ [(nn, S.y)])
    refine ⟨_, rfl, p, _, _, _, rfl, rfl, SqT.of hp, rfl, rfl, _, rfl, ZX (by decide +kernel) ?_⟩
    exact q _ hk fin
  | comes ww =>
    refine ⟨_, rfl, p, _, _, _, rfl, rfl, SqT.of hp, rfl, rfl, _, rfl, ZX (by decide +kernel) ?_⟩
    refine ⟨_, rfl, p, _, _, _, rfl, rfl, SqT.of hp, rfl, rfl, _, rfl, ZX (by decide +kernel) ?_⟩
    refine ⟨_, rfl, p, _, _, _, rfl, rfl, SqT.of hp, rfl, rfl, _, rfl, ZX (by decide +kernel) ?_⟩
    refine ⟨_, rfl, p, _, _, _, rfl, rfl, SqT.of hp, rfl, rfl, _, rfl, ZX (by decide +kernel) ?_⟩
    refine ⟨_, rfl, p, _, _, _, rfl, rfl, SqT.of hp, rfl, rfl, _, rfl, ifEq ?_⟩
    refine ⟨_, rfl, c, _, _, _, rfl, rfl, SqL.of B.clk, rfl, _, rfl, _, rfl, p, _, _, _, rfl, rfl, SqT.of hp, rfl, e3, _, rfl, DPut.k (k := Sum.inr ww) B.h3 (ZB (by unfold yrs; rw [List.length_map]; have := O.lc; omega)), ?_⟩
    rw [XR _ (no_valV hg.2), yrs_app]
    obtain ⟨hp, hk, fin⟩ := B.put3 eR hp (cs' := S.cs ++ [(ww, S.y)])
    exact q _ hk fin
  | years kk =>
    refine ⟨_, rfl, p, _, _, _, rfl, rfl, SqT.of hp, rfl, rfl, _, rfl, ifEq ?_⟩
    refine ⟨_, rfl, c, _, _, _, rfl, rfl, SqL.of B.clk, rfl, _, rfl, p, _, _, _, rfl, rfl, SqT.of hp, rfl, _, _, rfl, rfl, _, rfl, c, _, 0, 0, rfl, rfl, B.clk, rfl, ?_⟩
    have ky := YG (H := H) (a := c) (o := .lst [V.int (S.y + kk)])
    have hp : upd H c (.lst [V.int (S.y + kk)]) p = some (.tup (Deed.years kk).vals) := by rw [Zg (ZF hp B.clk (fun z => by cases z))]; exact hp
    have fin : YD (upd H c (.lst [V.int (S.y + kk)])) m (S.step (.years kk)) R := ⟨c, e1, e2, e3, ⟨by rw [Zg (ZF B.tup B.clk (fun z => by cases z))]; exact B.tup, Zc, by rw [Zg (ZF B.h1 B.clk (fun z => by cases z))]; exact B.h1, by rw [Zg (ZF B.h2 B.clk (fun z => by cases z))]; exact B.h2, by rw [Zg (ZF B.h3 B.clk (fun z => by cases z))]; exact B.h3, B.n12, B.n13, B.n23⟩, eR⟩
    have hk : ZD R H (upd H c (.lst [V.int (S.y + kk)])) := ky.wide (fun a ha => by rw [List.mem_singleton.mp ha, eR]; simp [JZ])
    refine ⟨_, rfl, p, _, _, _, rfl, rfl, SqT.of hp, rfl, rfl, _, rfl, ZX (by decide +kernel) ?_⟩
    refine ⟨_, rfl, p, _, _, _, rfl, rfl, SqT.of hp, rfl, rfl, _, rfl, ZX (by decide +kernel) ?_⟩
    refine ⟨_, rfl, p, _, _, _, rfl, rfl, SqT.of hp, rfl, rfl, _, rfl, ZX (by decide +kernel) ?_⟩
    refine ⟨_, rfl, p, _, _, _, rfl, rfl, SqT.of hp, rfl, rfl, _, rfl, ZX (by decide +kernel) ?_⟩
    exact q _ hk fin
theorem ok_law_next_deed {f : Addr} {fd : FuncData} (F : Fun K "_law_next_deed" "_law_next_deed" Zw f fd) (T : Txt K g mg) (D_law_living : Dn P w0 K mg base 1 "_law_living" ["_law_model_here"] (J6 K g)) (D_law_word : Dn P w0 K mg base 1 "_law_word" ["_law_n"] (J3 K g)) : FnOk P w0 K mg base CX0 2 f fd ["_law_model_here", "_law_n", "_law_far"] (XY K g) := by
  refine F.ok ZS (fun vs H Q E h => ?_) (fun cdv A outer s H vs Q E hr h => ?_)
  · obtain ⟨m, S, R, n, far, rfl, _⟩ := h
    rfl
  obtain ⟨m, S, R, n, far, rfl, M, hlen, hfar, q⟩ := h
  have rest6 : PSs (Xn CX0 P w0 K mg base ["_law_model_here", "_law_n", "_law_far", "_law_some", "_law_kind", "_law_word_here", "_law_name"] "_law_next_deed" (Zb Zw) f cdv A outer s H E).nox ((Zi Zw).drop 6) (fun D σ H1 => ∃ (n' kd : Int) (l : Addr) (v5 v6 : Option V), σ = [some (.ref m), some (.int n'), some (.int far), some (.ref l), some (.int kd), v5, v6] ∧ Zo H H1 ∧ H1 l = some (.lst (livV S.bs S.ds)) ∧ (∀ d p H', S.good far d → Zo H H' → H p = none → H' p = some (.tup d.vals) → D.rt (.ref p) H')) := by
    refine @Xf _ _ _ _ ((@Zf _ _ _ (@Zk _ _ _ _ (@Xq _ _ _ _ _ (@Za _ _ _ _ _ (@Zn _ _ _ _) (@Za _ _ _ _ _ (@Zs _ _ _ _ _ _ _ _ (@Yz _) (@Zh _ _ _ _) (@Zs _ _ _ _ _ _ _ _ (@Yo _) (@qv _ 1 _ _ (by walk_at "w")) (@qv _ 2 _ _ (by walk_at "w")))) (@Zd _) (by rfl)) (by rfl)))))) ?_
    rintro D σ H1 ⟨n', kd, l, v5, v6, rfl, s1, hl, q⟩
    have z0 := Int.emod_nonneg n' (show far ≠ 0 by omega)
    have z1 := Int.emod_lt_of_pos n' hfar
    refine ⟨_, rfl, _, rfl, _, _, rfl, rfl, hfar, _, _, rfl, rfl, (by show 2 ≤ sizeLine; decide), fun p hp => ?_⟩
    exact q (.years (1 + n' % far)) p _ ⟨by omega, by omega⟩ (s1.trans (Zm hp _)) (s1.free hp) Zc
  have rest5 : PSs (Xn CX0 P w0 K mg base ["_law_model_here", "_law_n", "_law_far", "_law_some", "_law_kind", "_law_word_here", "_law_name"] "_law_next_deed" (Zb Zw) f cdv A outer s H E).nox ((Zi Zw).drop 5) (fun D σ H1 => ∃ (n' kd : Int) (l : Addr) (v5 v6 : Option V), σ = [some (.ref m), some (.int n'), some (.int far), some (.ref l), some (.int kd), v5, v6] ∧ Zo H H1 ∧ H1 l = some (.lst (livV S.bs S.ds)) ∧ (∀ d p H', S.good far d → Zo H H' → H p = none → H' p = some (.tup d.vals) → D.rt (.ref p) H')) := by
    refine @Xf _ _ _ _ ((@Ze _ _ _ _ _ (@ZA _ _ _ _ _ _ _ _ (@Zl _ _ _ _ _ _ _ _ (@Yc _) (@qv _ 4 _ _ (by walk_at "w")) (@Zh _ _ _ _) (Zr _)) (@Ze _ _ _ _ _ (@Zu _ _ (5) _ _ _ _ ZS.nd rfl (Or.inl rfl) (@Zt _ _ _ _ _ _ _ (@Ym _) (@Xr _ _ _ _ (@Za _ _ _ _ _ (@Zn _ _ _ _) (@Za _ _ _ _ _ (@Zn _ _ _ _) (@Za _ _ _ _ _ (@Zn _ _ _ _) (@Za _ _ _ _ _ (@Zy _ _ _ _ _ _ _ _ _ _ D_law_word (hr.mono (by decide)) (@Za _ _ _ _ _ (@Zs _ _ _ _ _ _ _ _ (@Xp _) (@qv _ 1 _ _ (by walk_at "w")) (@Zh _ _ _ _)) (@Zd _) (by rfl)) (by rfl) (by decide) (by rfl) (by rfl)) (@Zd _) (by rfl)) (by rfl)) (by rfl)) (by rfl))) (@Zs _ _ _ _ _ _ _ _ (@Yo _) (@qv _ 1 _ _ (by walk_at "w")) (@Zh _ _ _ _)) (fun _ _ => rfl)) (by rfl) (by walk_at "u")) (@Zf _ _ _ (@ZA _ _ _ _ _ _ _ _ (@XS _ _ _ _ _ _ (@Yy _ _ _ _ _ (ZW hr) (@qv _ 5 _ _ (by walk_at "w")) (@Zt _ _ _ _ _ _ _ (@Zv _) (@qv _ 0 _ _ (by walk_at "w")) (@Zh _ _ _ _) (fun _ _ => rfl))) (by walk_at "n")) (@Zf _ _ _ (@Zk _ _ _ _ (@Xq _ _ _ _ _ (@Za _ _ _ _ _ (@Zn _ _ _ _) (@Za _ _ _ _ _ (@qv _ 5 _ _ (by walk_at "w")) (@Zd _) (by rfl)) (by rfl))))) (@Zp _)))) (@Zp _)) @rest6)) ?_
    rintro D σ H1 ⟨n', kd, l, v5, v6, rfl, s1, hl, q⟩
    obtain ⟨c, e1, e2, e3, B⟩ := (M.same s1).tup_of
    refine ⟨_, rfl, rfl, _, rfl, YA (fun _ => ?_) (fun _ => ⟨n', kd, l, v5, v6, rfl, s1, hl, q⟩)⟩
    refine ⟨_, rfl, _, _, rfl, rfl, ⟨by decide, by decide⟩, _, rfl, fun z hz => ⟨(by show 4 ≤ sizeLine; decide), fun pl hpl => ?_⟩⟩
    have z0 := Int.emod_nonneg n' (show (4 : Int) ≠ 0 by omega)
    have z1 := Int.emod_lt_of_pos n' (show (0 : Int) < 4 by omega)
    obtain ⟨y, hy, gy⟩ := pick4 hz z0 z1
    have s2 := Zm hpl (.lst [V.str "war", V.str "flood", V.str "a", V.str z])
    refine ⟨_, rfl, _, _, rfl, rfl, (by show (0 : Int) < 4; decide), pl, _, _, _, rfl, rfl, SqL.of Zc, hy, ?_⟩
    refine ⟨_, rfl, _, rfl, m, _, _, _, rfl, rfl, SqT.of (s2 _ _ B.tup), rfl, e3, _, rfl, Yp.k (k := Sum.inr y) (s2 _ _ B.h3), _, rfl, ?_⟩
    rw [ZR]
    cases e : has S.cs y with
    | true => exact Yf ⟨n', kd, l, _, v6, rfl, s1.trans s2, s2 _ _ hl, q⟩
    | false =>
      refine YY ⟨_, rfl, (by show 2 ≤ sizeLine; decide), fun p hp => ?_⟩
      exact q (.comes y) p _ ⟨gy, e⟩ ((s1.trans s2).trans (Zm hp _)) ((s1.trans s2).free hp) Zc
  have rest4 : PSs (Xn CX0 P w0 K mg base ["_law_model_here", "_law_n", "_law_far", "_law_some", "_law_kind", "_law_word_here", "_law_name"] "_law_next_deed" (Zb Zw) f cdv A outer s H E).nox ((Zi Zw).drop 4) (fun D σ H1 => ∃ (n' kd : Int) (l : Addr) (v5 v6 : Option V), σ = [some (.ref m), some (.int n'), some (.int far), some (.ref l), some (.int kd), v5, v6] ∧ Zo H H1 ∧ H1 l = some (.lst (livV S.bs S.ds)) ∧ (∀ d p H', S.good far d → Zo H H' → H p = none → H' p = some (.tup d.vals) → D.rt (.ref p) H')) := by
    refine @Xf _ _ _ _ ((@Ze _ _ _ _ _ (@ZA _ _ _ _ _ _ _ _ (@PW.pt _ _ _ (@JV _ _ _ _ _ _ _ (@Zl _ _ _ _ _ _ _ _ (@op_gt _) (@qv _ 4 _ _ (by walk_at "w")) (@Zh _ _ _ _) (Zr _)) (@JV _ _ _ _ _ _ _ (@Zl _ _ _ _ _ _ _ _ (@op_lt _) (@qv _ 4 _ _ (by walk_at "w")) (@Zh _ _ _ _) (Zr _)) (@J4 _ _ _ _ (@Zl _ _ _ _ _ _ _ _ (@op_gt _) (@ZC _ _ _ _ _ _ _ _ _ (@ZJ _) rfl T.z_len PySem.boot_len (@Za _ _ _ _ _ (@qv _ 3 _ _ (by walk_at "w")) (@Zd _) (by rfl)) (by decide) (by decide) (by rfl) (by rfl)) (@Zh _ _ _ _) (Zr _)))))) (@Ze _ _ _ _ _ (@Zu _ _ (6) _ _ _ _ ZS.nd rfl (Or.inl rfl) (@Zt _ _ _ _ _ _ _ (@Ym _) (@qv _ 3 _ _ (by walk_at "w")) (@Zs _ _ _ _ _ _ _ _ (@Yo _) (@qv _ 1 _ _ (by walk_at "w")) (@ZC _ _ _ _ _ _ _ _ _ (@ZJ _) rfl T.z_len PySem.boot_len (@Za _ _ _ _ _ (@qv _ 3 _ _ (by walk_at "w")) (@Zd _) (by rfl)) (by decide) (by decide) (by rfl) (by rfl))) (fun _ _ => rfl)) (by rfl) (by walk_at "u")) (@Ze _ _ _ _ _ (@ZA _ _ _ _ _ _ _ _ (@Zl _ _ _ _ _ _ _ _ (@op_gt _) (@qv _ 4 _ _ (by walk_at "w")) (@Zh _ _ _ _) (Zr _)) (@Zf _ _ _ (@Zk _ _ _ _ (@Xq _ _ _ _ _ (@Za _ _ _ _ _ (@Zn _ _ _ _) (@Za _ _ _ _ _ (@qv _ 6 _ _ (by walk_at "w")) (@Zd _) (by rfl)) (by rfl))))) (@Zp _)) (@Zf _ _ _ (@ZA _ _ _ _ _ _ _ _ (@Zl _ _ _ _ _ _ _ _ (@op_lt _) (@JX _ _ _ _ _ _ _ _ _ _ _ _ PySem.F.plainAttrs_str PySem.F.slot_str_count PySem.F.type_str_count (@mt_count _) (@qv _ 6 _ _ (by walk_at "w")) (@Za _ _ _ _ _ (@Zn _ _ _ _) (@Zd _) (by rfl)) (by rfl) (by rfl) (by rfl) (by rfl) (by rfl)) (@Zh _ _ _ _) (Zr _)) (@Zf _ _ _ (@Zk _ _ _ _ (@Xq _ _ _ _ _ (@Za _ _ _ _ _ (@Zn _ _ _ _) (@Za _ _ _ _ _ (@qv _ 6 _ _ (by walk_at "w")) (@Zd _) (by rfl)) (by rfl))))) (@Zp _))))) (@Zp _)) @rest5)) ?_
    rintro D σ H1 ⟨n', kd, l, v5, v6, rfl, s1, hl, q⟩
    refine ⟨_, rfl, _, _, rfl, rfl, _, rfl, YA (fun c1 => ?_) (fun _ => Yf ⟨n', kd, l, v5, v6, rfl, s1, hl, q⟩)⟩
    refine ⟨_, rfl, _, _, rfl, rfl, _, rfl, YA (fun c2 => ?_) (fun _ => Yf ⟨n', kd, l, v5, v6, rfl, s1, hl, q⟩)⟩
    refine ⟨_, rfl, _, _, rfl, .inl ⟨_, SqL.of hl, rfl⟩, _, _, rfl, rfl, _, rfl, YA (fun c3 => ?_) (fun _ => ⟨n', kd, l, v5, v6, rfl, s1, hl, q⟩)⟩
    have hpos : (0 : Int) < ((livV S.bs S.ds).length : Nat) := of_decide_eq_true c3
    obtain ⟨v, hv⟩ := atI_in (xs := livV S.bs S.ds) (Int.emod_nonneg n' (show ((livV S.bs S.ds).length : Int) ≠ 0 by omega)) (Int.emod_lt_of_pos n' hpos)
    obtain ⟨nm, rfl, hb, hd⟩ := livV_at hv
    refine ⟨_, rfl, _, rfl, _, rfl, _, _, rfl, .inl ⟨_, SqL.of hl, rfl⟩, _, _, rfl, rfl, hpos, l, _, _, _, rfl, rfl, SqL.of hl, hv, ?_⟩
    refine ⟨_, rfl, _, _, rfl, rfl, _, rfl, YA (fun c4 => ?_) (fun _ => ?_)⟩
    · refine ⟨_, rfl, (by show 2 ≤ sizeLine; decide), fun p hp => ?_⟩
      exact q (.death nm) p _ ⟨hb, hd⟩ (s1.trans (Zm hp _)) (s1.free hp) Zc
    · refine ⟨_, rfl, rfl, nm, dot, rfl, rfl, _, _, rfl, rfl, _, rfl, YA (fun c5 => ?_) (fun _ => ⟨n', kd, l, v5, _, rfl, s1, hl, q⟩)⟩
      refine ⟨_, rfl, (by show 2 ≤ sizeLine; decide), fun p hp => ?_⟩
      exact q (.birth nm) p _ ⟨hb, hd, by have z := of_decide_eq_true c5; unfold dots; omega⟩ (s1.trans (Zm hp _)) (s1.free hp) Zc
  have rest3 : PSs (Xn CX0 P w0 K mg base ["_law_model_here", "_law_n", "_law_far", "_law_some", "_law_kind", "_law_word_here", "_law_name"] "_law_next_deed" (Zb Zw) f cdv A outer s H E).nox ((Zi Zw).drop 3) (fun D σ H1 => ∃ (n' kd : Int) (l : Addr) (v5 v6 : Option V), σ = [some (.ref m), some (.int n'), some (.int far), some (.ref l), some (.int kd), v5, v6] ∧ Zo H H1 ∧ H1 l = some (.lst (livV S.bs S.ds)) ∧ (∀ d p H', S.good far d → Zo H H' → H p = none → H' p = some (.tup d.vals) → D.rt (.ref p) H')) := by
    refine @Xf _ _ _ _ ((@Ze _ _ _ _ _ (@ZA _ _ _ _ _ _ _ _ (@PW.pt _ _ _ (@pw_or _ _ _ _ _ _ _ (@Zl _ _ _ _ _ _ _ _ (@Yc _) (@qv _ 4 _ _ (by walk_at "w")) (@Zh _ _ _ _) (Zr _)) (@pw_or1 _ _ _ _ (@PW.pt _ _ _ (@JV _ _ _ _ _ _ _ (@Zl _ _ _ _ _ _ _ _ (@op_lt _) (@qv _ 4 _ _ (by walk_at "w")) (@Zh _ _ _ _) (Zr _)) (@J4 _ _ _ _ (@Zl _ _ _ _ _ _ _ _ (@Yc _) (@ZC _ _ _ _ _ _ _ _ _ (@ZJ _) rfl T.z_len PySem.boot_len (@Za _ _ _ _ _ (@qv _ 3 _ _ (by walk_at "w")) (@Zd _) (by rfl)) (by decide) (by decide) (by rfl) (by rfl)) (@Zh _ _ _ _) (Zr _)))))))) (@Ze _ _ _ _ _ (@Zu _ _ (5) _ _ _ _ ZS.nd rfl (Or.inl rfl) (@Zy _ _ _ _ _ _ _ _ _ _ D_law_word (hr.mono (by decide)) (@Za _ _ _ _ _ (@Zs _ _ _ _ _ _ _ _ (@Xp _) (@qv _ 1 _ _ (by walk_at "w")) (@Zh _ _ _ _)) (@Zd _) (by rfl)) (by rfl) (by decide) (by rfl) (by rfl)) (by rfl) (by walk_at "u")) (@Zf _ _ _ (@ZA _ _ _ _ _ _ _ _ (@XS _ _ _ _ _ _ (@Yy _ _ _ _ _ (ZW hr) (@qv _ 5 _ _ (by walk_at "w")) (@Zt _ _ _ _ _ _ _ (@Zv _) (@qv _ 0 _ _ (by walk_at "w")) (@Zh _ _ _ _) (fun _ _ => rfl))) (by walk_at "n")) (@Zf _ _ _ (@Zk _ _ _ _ (@Xq _ _ _ _ _ (@Za _ _ _ _ _ (@Zn _ _ _ _) (@Za _ _ _ _ _ (@qv _ 5 _ _ (by walk_at "w")) (@Za _ _ _ _ _ (@Zs _ _ _ _ _ _ _ _ (@Yo _) (@qv _ 1 _ _ (by walk_at "w")) (@Zh _ _ _ _)) (@Zd _) (by rfl)) (by rfl)) (by rfl))))) (@Zp _)))) (@Zp _)) @rest4)) ?_
    rintro D σ H1 ⟨n', kd, l, v5, v6, rfl, s1, hl, q⟩
    obtain ⟨c, e1, e2, e3, B⟩ := (M.same s1).tup_of
    refine ⟨_, rfl, rfl, _, rfl, YA (fun _ => YY ?_) (fun _ => ⟨_, rfl, _, _, rfl, rfl, _, rfl, YA (fun _ => ⟨_, rfl, _, _, rfl, .inl ⟨_, SqL.of hl, rfl⟩, rfl, _, rfl, YA (fun _ => ?_) (fun _ => ?_)⟩) (fun _ => Yf ?_)⟩)⟩
    all_goals try exact ⟨n', kd, l, v5, v6, rfl, s1, hl, q⟩
    all_goals
      refine ⟨_, rfl, _, _, rfl, rfl, ⟨by decide, by decide⟩, _, rfl, fun z hz => ?_⟩
      refine ⟨_, rfl, _, rfl, m, _, _, _, rfl, rfl, SqT.of B.tup, rfl, e1, _, rfl, Yp.k (k := Sum.inr z) B.h1, _, rfl, ?_⟩
      rw [ZR]
      cases e : has S.bs z with
      | true => exact Yf ⟨n', kd, l, _, v6, rfl, s1, hl, q⟩
      | false =>
        refine YY ⟨_, rfl, _, rfl, _, _, rfl, rfl, (by show (0 : Int) < 121; decide), (by show 3 ≤ sizeLine; decide), fun p hp => ?_⟩
        have z0 := Int.emod_nonneg n' (show (121 : Int) ≠ 0 by omega)
        have z1 := Int.emod_lt_of_pos n' (show (0 : Int) < 121 by omega)
        exact q (.arrive z (n' % 121)) p _ ⟨hz, e, z0, by omega⟩ (s1.trans (Zm hp _)) (s1.free hp) Zc
  refine ⟨_, (@Ze _ _ _ _ _ (@Zu _ _ (3) _ _ _ _ ZS.nd rfl (Or.inl rfl) (@Zy _ _ _ _ _ _ _ _ _ _ D_law_living (hr.mono (by decide)) (@Za _ _ _ _ _ (@qv _ 0 _ _ (by walk_at "w")) (@Zd _) (by rfl)) (by rfl) (by decide) (by rfl) (by rfl)) (by rfl) (by walk_at "u")) (@Ze _ _ _ _ _ (@Zu _ _ (4) _ _ _ _ ZS.nd rfl (Or.inl rfl) (@Zs _ _ _ _ _ _ _ _ (@Yo _) (@qv _ 1 _ _ (by walk_at "w")) (@Zh _ _ _ _)) (by rfl) (by walk_at "u")) (@Ze _ _ _ _ _ (@Zu _ _ (1) _ _ _ _ ZS.nd rfl (Or.inl rfl) (@Zs _ _ _ _ _ _ _ _ (@Xp _) (@qv _ 1 _ _ (by walk_at "w")) (@Zh _ _ _ _)) (by rfl) (by walk_at "u")) @rest3))), ?_⟩
  refine ⟨_, rfl, m, S, R, rfl, M, hlen, fun l H1 s1 _ hl => ?_⟩
  exact ⟨_, rfl, _, _, rfl, rfl, (by show (0 : Int) < 9; decide), _, rfl, _, _, rfl, rfl, ⟨by decide, by decide⟩, _, _, l, _, _, rfl, s1, hl, q⟩
theorem ok_law_start {f : Addr} {fd : FuncData} (F : Fun K "_law_start" "_law_start" Xz f fd) (T : Txt K g mg) (D_law_word : Dn P w0 K mg base 1 "_law_word" ["_law_n"] (J3 K g)) : FnOk P w0 K mg base CX0 2 f fd ["_law_n"] (sp_law_start K g) := by
  refine F.ok Y9 (fun vs H Q E h => ?_) (fun cdv A outer s H vs Q E hr h => ?_)
  · obtain ⟨n, rfl, _⟩ := h
    rfl
  obtain ⟨n, rfl, q⟩ := h
  refine ⟨_, (
(@Ze _ _ _ _ _ (@Zu _ _ (1) _ _ _ _ Y9.nd rfl (Or.inl rfl) (@Xr _ _ _ _ (@Zd _)) (by rfl) (by walk_at "u")) (@Ze _ _ _ _ _ (@Zu _ _ (2) _ _ _ _ Y9.nd rfl (Or.inl rfl) (@Jm _ _) (by rfl) (by walk_at "u")) (@Ze _ _ _ _ _ (@JW _ _ _ _ _ _ _ _ PassesOwn.never rfl (@pi_range1 _ _ _ _ _ _ rfl T.z_range (@Za _ _ _ _ _ (@Zs _ _ _ _ _ _ _ _ (@Yz _) (@Zh _ _ _ _) (@Zs _ _ _ _ _ _ _ _ (@Yo _) (@qv _ 0 _ _ (by walk_at "w")) (@Zh _ _ _ _))) (@Zd _) (by rfl)) (by rfl)) (@ZP _ _ (3) _ Y9.nd rfl (Or.inl rfl) (by walk_at "u")) (@Ze _ _ _ _ _ (@Zu _ _ (0) _ _ _ _ Y9.nd rfl (Or.inl rfl) (@Zs _ _ _ _ _ _ _ _ (@Yz _) (@Zs _ _ _ _ _ _ _ _ (@Xp _) (@qv _ 0 _ _ (by walk_at "w")) (@Zh _ _ _ _)) (@Zs _ _ _ _ _ _ _ _ (@op_mul _) (@qv _ 3 _ _ (by walk_at "w")) (@Zh _ _ _ _))) (by rfl) (by walk_at "u")) (@Ze _ _ _ _ _ (@Zu _ _ (4) _ _ _ _ Y9.nd rfl (Or.inl rfl) (@Zy _ _ _ _ _ _ _ _ _ _ D_law_word (hr.mono (by decide)) (@Za _ _ _ _ _ (@Zs _ _ _ _ _ _ _ _ (@Xp _) (@qv _ 0 _ _ (by walk_at "w")) (@Zh _ _ _ _)) (@Zd _) (by rfl)) (by rfl) (by decide) (by rfl) (by rfl)) (by rfl) (by walk_at "u")) (@Zf _ _ _ (@ZA _ _ _ _ _ _ _ _ (@XS _ _ _ _ _ _ (@Yy _ _ _ _ _ (ZW hr) (@qv _ 4 _ _ (by walk_at "w")) (@qv _ 2 _ _ (by walk_at "w"))) (by walk_at "n")) (@Ze _ _ _ _ _ (@JC _ _ _ _ _ _ _ _ _ (ZW hr) (@qv _ 2 _ _ (by walk_at "w")) (@qv _ 4 _ _ (by walk_at "w")) (@pe_bl _ _ _ _) rfl) (@Zf _ _ _ (@ZG _ _ _ _ (@JX _ _ _ _ _ _ _ _ _ _ _ _ PySem.F.plainAttrs_list PySem.F.slot_list_append PySem.F.type_list_append (@XF _) (@qv _ 1 _ _ (by walk_at "w")) (@Za _ _ _ _ _ (@Xq _ _ _ _ _ (@Za _ _ _ _ _ (@Zn _ _ _ _) (@Za _ _ _ _ _ (@qv _ 4 _ _ (by walk_at "w")) (@Za _ _ _ _ _ (@Zs _ _ _ _ _ _ _ _ (@Yo _) (@qv _ 0 _ _ (by walk_at "w")) (@Zh _ _ _ _)) (@Zd _) (by rfl)) (by rfl)) (by rfl))) (@Zd _) (by rfl)) (by rfl) (by rfl) (by rfl) (by rfl) (by rfl)) (by rfl)))) (@Zp _))))) (by intro _ ; rfl)) (@Zf _ _ _ (@Zk _ _ _ _ (@qv _ 1 _ _ (by walk_at "w")))))))), ?_⟩
  refine ⟨Nat.zero_le _, fun l hl => ?_⟩
  intro dw hdw
  have b1 := Int.emod_lt_of_pos n (show (0 : Int) < 3 by decide)
  have b0 := Int.emod_nonneg n (show (3 : Int) ≠ 0 by decide)
  have ndl : l ≠ dw := fun e => by rw [e, Zc] at hdw; cases hdw
  have hdw0 : H dw = none := by rw [Zg (Ne.symm ndl)] at hdw; exact hdw
  refine ⟨_, rfl, _, _, rfl, rfl, (by show (0 : Int) < 3; decide), _, _, rfl, rfl, 1 + n % 3, rfl, by omega, by omega, for_range (n := (1 + n % 3).toNat) (fun i σ H2 => ∃ (n' : Int) (v3 v4 : Option V) (was : List (Str × Int)) (ps : List Addr), σ = [some (.int n'), some (.ref l), some (.ref dw), v3, v4] ∧ Zo H H2 ∧ (∀ a ∈ ps, H a = none) ∧ DeedsAt H2 l (was.map arr) ps ∧ H2 dw = some (.dK (trus was)) ∧ was.length ≤ i ∧ First was ∧ (0 < i → was ≠ [])) ?_ ?_ ?_⟩
  · refine ⟨n, none, none, [], [], rfl, (Zm hl _).trans (Zm hdw _), (fun _ h => nomatch h), ⟨?_, rfl, (fun i p d h => by simp at h)⟩, Zc, Nat.le_refl _, ⟨.nil, Nat.zero_le _, (fun _ h => nomatch h)⟩, fun h => absurd h (Nat.lt_irrefl 0)⟩
    rw [Zg ndl, Zc]
    rfl
  · rintro i σ H2 hi ⟨n', v3, v4, was, ps, rfl, s2, hps, DD, hw, hlw, FF, hne⟩
    have i3 : i < 3 := by omega
    refine ⟨_, rfl, _, _, rfl, rfl, ⟨by decide, by decide⟩, _, rfl, _, _, rfl, rfl, .inr ⟨by decide, by decide⟩, _, _, rfl, rfl, ?_⟩
    refine ⟨_, rfl, _, _, rfl, rfl, ⟨by decide, by decide⟩, _, rfl, fun z hz => ?_⟩
    refine ⟨_, rfl, _, rfl, dw, _, rfl, Yp.k (k := Sum.inr z) hw, _, rfl, ?_⟩
    rw [trus_has]
    by_cases hin : z ∈ was.map (·.1)
    · rw [decide_eq_true hin]
      exact Yf ⟨_, _, _, was, ps, rfl, s2, hps, DD, hw, by omega, FF, fun _ e => by rw [e] at hin; cases hin⟩
    · rw [decide_eq_false hin]
      have vn : Y6 (trus was) (Sum.inr z : Key) = none := by
        have t := trus_has was z
        rw [decide_eq_false hin] at t
        cases e : Y6 (trus was) (Sum.inr z : Key) with
        | none => rfl
        | some v => rw [e] at t; cases t
      refine YY ⟨_, rfl, _, rfl, dw, _, rfl, DPut.k (k := Sum.inr z) hw (ZB (by unfold trus; rw [List.length_map]; omega)), ?_⟩
      rw [XR _ vn]
      have nld : l ≠ dw := ndl
      refine ⟨_, rfl, .inl ⟨rfl, _, SqL.of (by rw [Zg nld]; exact DD.lst)⟩, _, rfl, _, rfl, _, _, rfl, rfl, (by show (0 : Int) < 67; decide), (by show 3 ≤ sizeLine; decide), fun p hp => ?_⟩
      have z0 := Int.emod_nonneg (n' / 3 + (0 + (i : Int)) * 104729) (show (67 : Int) ≠ 0 by omega)
      have z1 := Int.emod_lt_of_pos (n' / 3 + (0 + (i : Int)) * 104729) (show (0 : Int) < 67 by omega)
      have npd : p ≠ dw := fun e => by rw [e, Zc] at hp; cases hp
      have hp2 : H2 p = none := by rw [Zg npd] at hp; exact hp
      have npl : p ≠ l := fun e => by rw [e, DD.lst] at hp2; cases hp2
      have lw := DD.lst
      have pl : ps.length ≤ 3 := by rw [DD.len, List.length_map]; exact FF.len
      refine ⟨l, _, _, rfl, rfl, (by rw [Zg (Ne.symm npl), Zg nld]; exact lw), ZB (by rw [List.length_map]; omega), ?_⟩
      have tp : ∀ q ∈ ps, q ≠ dw := fun q hq e => by
        obtain ⟨o, ho⟩ := DD.live q (List.mem_cons_of_mem _ hq)
        obtain ⟨j, hj⟩ := List.mem_iff_getElem?.mp hq
        have hj2 : j < (was.map arr).length := by rw [← DD.len]; exact (List.getElem?_eq_some_iff.mp hj).1
        have t := DD.at_ j q _ hj (List.getElem?_eq_getElem hj2)
        rw [e, hw] at t
        cases t
      have D1 : DeedsAt (upd H2 dw (.dK (trus was ++ [((Sum.inr z : Key), V.bl true)]))) l (was.map arr) ps := DD.mv fun a ha o e => by
        rw [Zg]
        · exact e
        · rcases List.mem_cons.mp ha with rfl | ha
          · exact nld
          · exact tp a ha
      have D2 := D1.push (d := arr (z, (n' / 3 + (0 + (i : Int)) * 104729) % 67)) (p := p) (Zm hp (.tup (arr (z, (n' / 3 + (0 + (i : Int)) * 104729) % 67)).vals)) Zc
      refine ⟨_, _, _, was ++ [(z, (n' / 3 + (0 + (i : Int)) * 104729) % 67)], ps ++ [p], rfl, ?_, ?_, ?_, ?_, ?_, ?_, fun _ => by simp⟩
      · exact same_put1 ((same_put1 s2 hdw0).trans (Zm hp _)) hl
      · intro a ha
        rcases List.mem_append.mp ha with ha | ha
        · exact hps a ha
        · rw [List.mem_singleton.mp ha]; exact s2.free hp2
      · rw [List.map_append]; exact D2
      · rw [Zg (Ne.symm nld), Zg (Ne.symm npd), Zc]
        unfold trus
        rw [List.map_append]
        rfl
      · rw [List.length_append, List.length_singleton]; omega
      · refine ⟨nod_app FF.nod ((has_no was z).mpr hin), by rw [List.length_append, List.length_singleton]; omega, fun x hx => ?_⟩
        rcases List.mem_append.mp hx with hx | hx
        · exact FF.ok x hx
        · rw [List.mem_singleton.mp hx]; exact ⟨hz, z0, by show _ % 67 ≤ 120; omega⟩
  · rintro σ H2 ⟨n', v3, v4, was, ps, rfl, s2, hps, DD, hw, hlw, FF, hne⟩
    refine ⟨_, rfl, q l was ps H2 s2 (fun a ha => ?_) FF (hne (by omega)) DD⟩
    rcases List.mem_cons.mp ha with rfl | ha
    · exact hl
    · exact hps a ha
theorem ok_law_do {f : Addr} {fd : FuncData} (F : Fun K "_law_do" "_law_do" s_law_do f fd) (T : Txt K g mg) (D_World_comes : Dm P w0 K mg base (CXR P w0 base) g.World 4 "comes" ["self", "word"] (JR K g)) (D_World_pass_years : Dm P w0 K mg base (CXR P w0 base) g.World 2 "pass_years" ["self", "many"] (Xi K g)) (D_World_arrive : Dm P w0 K mg base (CXR P w0 base) g.World 5 "arrive" ["self", "word", "age"] (Jr K g)) (D_World_birth : Dm P w0 K mg base (CXR P w0 base) g.World 5 "birth" ["self", "name"] (JS K g)) (D_World_death : Dm P w0 K mg base (CXR P w0 base) g.World 5 "death" ["self", "name"] (JQ K g)) : FnOk P w0 K mg base CX0 6 f fd ["_law_world", "_law_deed"] (sp_law_do K g) := by
  refine F.ok sc_law_do (fun vs H Q E h => ?_) (fun cdv A outer s H vs Q E hr h => ?_)
  · obtain ⟨w, S, R, p, d, far, k, rfl, _⟩ := h
    rfl
  obtain ⟨w, S, R, p, d, far, k, rfl, W, hp, O, hk, hg, hfar, q⟩ := h
  refine ⟨_, (
(@Ze _ _ _ _ _ (@ZA _ _ _ _ _ _ _ _ (@Zl _ _ _ _ _ _ _ _ (@Yc _) (@Zt _ _ _ _ _ _ _ (@Zv _) (@qv _ 1 _ _ (by walk_at "w")) (@Zh _ _ _ _) (fun _ _ => rfl)) (@Zn _ _ _ _) (Zr _)) (@Zf _ _ _ (@Zk _ _ _ _ (@ZN _ _ _ _ _ _ _ _ _ _ _ _ _ _ _ _ Jv D_World_pass_years (hr.mono (by decide)) (@qv _ 0 _ _ (by walk_at "w")) (@Za _ _ _ _ _ (@Zt _ _ _ _ _ _ _ (@Zv _) (@qv _ 1 _ _ (by walk_at "w")) (@Zh _ _ _ _) (fun _ _ => rfl)) (@Zd _) (by rfl)) (by rfl) (by rfl) (by rfl)))) (@Zp _)) (@Ze _ _ _ _ _ (@ZA _ _ _ _ _ _ _ _ (@Zl _ _ _ _ _ _ _ _ (@Yc _) (@Zt _ _ _ _ _ _ _ (@Zv _) (@qv _ 1 _ _ (by walk_at "w")) (@Zh _ _ _ _) (fun _ _ => rfl)) (@Zn _ _ _ _) (Zr _)) (@Zf _ _ _ (@Zk _ _ _ _ (@ZN _ _ _ _ _ _ _ _ _ _ _ _ _ _ _ _ Jv D_World_arrive (hr.mono (by decide)) (@qv _ 0 _ _ (by walk_at "w")) (@Za _ _ _ _ _ (@Zt _ _ _ _ _ _ _ (@Zv _) (@qv _ 1 _ _ (by walk_at "w")) (@Zh _ _ _ _) (fun _ _ => rfl)) (@Za _ _ _ _ _ (@Zt _ _ _ _ _ _ _ (@Zv _) (@qv _ 1 _ _ (by walk_at "w")) (@Zh _ _ _ _) (fun _ _ => rfl)) (@Zd _) (by rfl)) (by rfl)) (by rfl) (by rfl) (by rfl)))) (@Zp _)) (@Ze _ _ _ _ _ (@ZA _ _ _ _ _ _ _ _ (@Zl _ _ _ _ _ _ _ _ (@Yc _) (@Zt _ _ _ _ _ _ _ (@Zv _) (@qv _ 1 _ _ (by walk_at "w")) (@Zh _ _ _ _) (fun _ _ => rfl)) (@Zn _ _ _ _) (Zr _)) (@Zf _ _ _ (@Zk _ _ _ _ (@ZN _ _ _ _ _ _ _ _ _ _ _ _ _ _ _ _ Jv D_World_birth (hr.mono (by decide)) (@qv _ 0 _ _ (by walk_at "w")) (@Za _ _ _ _ _ (@Zt _ _ _ _ _ _ _ (@Zv _) (@qv _ 1 _ _ (by walk_at "w")) (@Zh _ _ _ _) (fun _ _ => rfl)) (@Zd _) (by rfl)) (by rfl) (by rfl) (by rfl)))) (@Zp _)) (@Ze _ _ _ _ _ (@ZA _ _ _ _ _ _ _ _ (@Zl _ _ _ _ _ _ _ _ (@Yc _) (@Zt _ _ _ _ _ _ _ (@Zv _) (@qv _ 1 _ _ (by walk_at "w")) (@Zh _ _ _ _) (fun _ _ => rfl)) (@Zn _ _ _ _) (Zr _)) (@Zf _ _ _ (@Zk _ _ _ _ (@ZN _ _ _ _ _ _ _ _ _ _ _ _ _ _ _ _ Jv D_World_death (hr.mono (by decide)) (@qv _ 0 _ _ (by walk_at "w")) (@Za _ _ _ _ _ (@Zt _ _ _ _ _ _ _ (@Zv _) (@qv _ 1 _ _ (by walk_at "w")) (@Zh _ _ _ _) (fun _ _ => rfl)) (@Zd _) (by rfl)) (by rfl) (by rfl) (by rfl)))) (@Zp _)) (@Zf _ _ _ (@Zk _ _ _ _ (@ZN _ _ _ _ _ _ _ _ _ _ _ _ _ _ _ _ Jv D_World_comes (hr.mono (by decide)) (@qv _ 0 _ _ (by walk_at "w")) (@Za _ _ _ _ _ (@Zt _ _ _ _ _ _ _ (@Zv _) (@qv _ 1 _ _ (by walk_at "w")) (@Zh _ _ _ _) (fun _ _ => rfl)) (@Zd _) (by rfl)) (by rfl) (by rfl) (by rfl))))))))), ?_⟩
  have lb := O.lb
  have ld := O.ld
  have lc := O.lc
  obtain ⟨dx, b, hd, RL, hw, L, hh, eR, n1, n2⟩ := W.ex
  cases d with
  | arrive ww aa =>
    refine ⟨_, rfl, p, _, _, _, rfl, rfl, SqT.of hp, rfl, rfl, _, rfl, ZX (by decide +kernel) ?_⟩
    refine ⟨_, rfl, p, _, _, _, rfl, rfl, SqT.of hp, rfl, rfl, _, rfl, ifEq ?_⟩
    refine ⟨_, rfl, w, dx, _, rfl, hw, rfl, _, rfl, p, _, _, _, rfl, rfl, SqT.of hp, rfl, _, rfl, p, _, _, _, rfl, rfl, SqT.of hp, rfl, w, S, R, ww, aa, rfl, W, by have := (gw_len hg.1).2; omega, by omega, (fun e => absurd hg.2.2 e), (fun _ e => by rw [hg.1] at e; cases e), (fun _ _ e => by rw [hg.2.1] at e; cases e), fun _ _ _ R' H' kp gr W' => ?_⟩
    exact q _ R' H' kp gr W'
  | birth nn =>
    refine ⟨_, rfl, p, _, _, _, rfl, rfl, SqT.of hp, rfl, rfl, _, rfl, ZX (by decide +kernel) ?_⟩
    refine ⟨_, rfl, p, _, _, _, rfl, rfl, SqT.of hp, rfl, rfl, _, rfl, ZX (by decide +kernel) ?_⟩
    refine ⟨_, rfl, p, _, _, _, rfl, rfl, SqT.of hp, rfl, rfl, _, rfl, ifEq ?_⟩
    refine ⟨_, rfl, w, dx, _, rfl, hw, rfl, _, rfl, p, _, _, _, rfl, rfl, SqT.of hp, rfl, w, S, R, nn, rfl, W, by omega, by have := O.few nn; omega, (fun e => by rw [hg.1] at e; cases e), (fun _ e => by rw [hg.2.1] at e; cases e), (fun _ _ e => by have := hg.2.2; omega), fun _ _ _ R' H' kp gr W' => ?_⟩
    exact q _ R' H' kp gr W'
  | death nn =>
    refine ⟨_, rfl, p, _, _, _, rfl, rfl, SqT.of hp, rfl, rfl, _, rfl, ZX (by decide +kernel) ?_⟩
    refine ⟨_, rfl, p, _, _, _, rfl, rfl, SqT.of hp, rfl, rfl, _, rfl, ZX (by decide +kernel) ?_⟩
    refine ⟨_, rfl, p, _, _, _, rfl, rfl, SqT.of hp, rfl, rfl, _, rfl, ZX (by decide +kernel) ?_⟩
    refine ⟨_, rfl, p, _, _, _, rfl, rfl, SqT.of hp, rfl, rfl, _, rfl, ifEq ?_⟩
    refine ⟨_, rfl, w, dx, _, rfl, hw, rfl, _, rfl, p, _, _, _, rfl, rfl, SqT.of hp, rfl, w, S, R, nn, rfl, W, by omega, (fun e => by rw [hg.1] at e; cases e), (fun _ e => by rw [hg.2] at e; cases e), fun _ _ H' kp W' => ?_⟩
    exact q _ R H' kp (Y5.refl _ _) W'
  | comes ww =>
    refine ⟨_, rfl, p, _, _, _, rfl, rfl, SqT.of hp, rfl, rfl, _, rfl, ZX (by decide +kernel) ?_⟩
    refine ⟨_, rfl, p, _, _, _, rfl, rfl, SqT.of hp, rfl, rfl, _, rfl, ZX (by decide +kernel) ?_⟩
    refine ⟨_, rfl, p, _, _, _, rfl, rfl, SqT.of hp, rfl, rfl, _, rfl, ZX (by decide +kernel) ?_⟩
    refine ⟨_, rfl, p, _, _, _, rfl, rfl, SqT.of hp, rfl, rfl, _, rfl, ZX (by decide +kernel) ?_⟩
    refine ⟨_, rfl, w, dx, _, rfl, hw, rfl, _, rfl, p, _, _, _, rfl, rfl, SqT.of hp, rfl, w, S, R, ww, rfl, W, by have := (gw_len hg.1).2; omega, by omega, (fun e => by rw [hg.1] at e; cases e), (fun _ e => by rw [hg.2] at e; cases e), fun _ _ H' kp W' => ?_⟩
    exact q _ R H' kp (Y5.refl _ _) W'
  | years kk =>
    refine ⟨_, rfl, p, _, _, _, rfl, rfl, SqT.of hp, rfl, rfl, _, rfl, ifEq ?_⟩
    refine ⟨_, rfl, w, dx, _, rfl, hw, rfl, _, rfl, p, _, _, _, rfl, rfl, SqT.of hp, rfl, w, S, R, kk, rfl, W, (fun e => absurd ⟨hg.1, by have := hg.2; omega⟩ e), fun _ H' kp W' => ?_⟩
    exact q _ R H' kp (Y5.refl _ _) W'
theorem ok_law_path {f : Addr} {fd : FuncData} (F : Fun K "_law_path" "_law_path" X5 f fd) (T : Txt K g mg)  : FnOk P w0 K mg base CX0 1 f fd ["_law_model_here", "_law_n"] (sp_law_path K g) := by
  refine F.ok Y1 (fun vs H Q E h => ?_) (fun cdv A outer s H vs Q E hr h => ?_)
  · obtain ⟨m, S, R, n, rfl, _⟩ := h
    rfl
  obtain ⟨m, S, R, n, rfl, M, W, hlen, ⟨w0, hw0, _⟩, q⟩ := h
  refine ⟨_, (
(@Ze _ _ _ _ _ (@Zu _ _ (2) _ _ _ _ Y1.nd rfl (Or.inl rfl) (@Yx _ _ _ _ _ _ _ _ _ (@call_listD _ rfl) rfl T.z_list PyProof.Rows.boot_list (@Za _ _ _ _ _ (@Zt _ _ _ _ _ _ _ (@Zv _) (@qv _ 0 _ _ (by walk_at "w")) (@Zh _ _ _ _) (fun _ _ => rfl)) (@Zd _) (by rfl)) (by decide) (by decide) (by rfl) (by rfl)) (by rfl) (by walk_at "u")) (@Ze _ _ _ _ _ (@Zu _ _ (3) _ _ _ _ Y1.nd rfl (Or.inl rfl) (@Zt _ _ _ _ _ _ _ (@Ym _) (@qv _ 2 _ _ (by walk_at "w")) (@Zs _ _ _ _ _ _ _ _ (@Yo _) (@qv _ 1 _ _ (by walk_at "w")) (@ZC _ _ _ _ _ _ _ _ _ (@ZJ _) rfl T.z_len PySem.boot_len (@Za _ _ _ _ _ (@qv _ 2 _ _ (by walk_at "w")) (@Zd _) (by rfl)) (by decide) (by decide) (by rfl) (by rfl))) (fun _ _ => rfl)) (by rfl) (by walk_at "u")) (@Ze _ _ _ _ _ (@Zu _ _ (1) _ _ _ _ Y1.nd rfl (Or.inl rfl) (@Zs _ _ _ _ _ _ _ _ (@Xp _) (@qv _ 1 _ _ (by walk_at "w")) (@ZC _ _ _ _ _ _ _ _ _ (@ZJ _) rfl T.z_len PySem.boot_len (@Za _ _ _ _ _ (@qv _ 2 _ _ (by walk_at "w")) (@Zd _) (by rfl)) (by decide) (by decide) (by rfl) (by rfl))) (by rfl) (by walk_at "u")) (@Ze _ _ _ _ _ (@JW _ _ _ _ _ _ _ _ PassesOwn.never rfl (@pi_range1 _ _ _ _ _ _ rfl T.z_range (@Za _ _ _ _ _ (@Zt _ _ _ _ _ _ _ (@Ym _) (@Xr _ _ _ _ (@Za _ _ _ _ _ (@Zh _ _ _ _) (@Za _ _ _ _ _ (@Zh _ _ _ _) (@Za _ _ _ _ _ (@Zh _ _ _ _) (@Za _ _ _ _ _ (@Zh _ _ _ _) (@Za _ _ _ _ _ (@Zh _ _ _ _) (@Zd _) (by rfl)) (by rfl)) (by rfl)) (by rfl)) (by rfl))) (@Zs _ _ _ _ _ _ _ _ (@Yo _) (@qv _ 1 _ _ (by walk_at "w")) (@Zh _ _ _ _)) (fun _ _ => rfl)) (@Zd _) (by rfl)) (by rfl)) (@ZP _ _ (4) _ Y1.nd rfl (Or.inl rfl) (by walk_at "u")) (@Ze _ _ _ _ _ (@Zu _ _ (1) _ _ _ _ Y1.nd rfl (Or.inl rfl) (@Zs _ _ _ _ _ _ _ _ (@Xp _) (@qv _ 1 _ _ (by walk_at "w")) (@Zh _ _ _ _)) (by rfl) (by walk_at "u")) (@Zf _ _ _ (@ZA _ _ _ _ _ _ _ _ (@Zl _ _ _ _ _ _ _ _ (@op_lt _) (@JX _ _ _ _ _ _ _ _ _ _ _ _ PySem.F.plainAttrs_str PySem.F.slot_str_count PySem.F.type_str_count (@mt_count _) (@qv _ 3 _ _ (by walk_at "w")) (@Za _ _ _ _ _ (@Zn _ _ _ _) (@Zd _) (by rfl)) (by rfl) (by rfl) (by rfl) (by rfl) (by rfl)) (@Zh _ _ _ _) (Zr _)) (@Zf _ _ _ (@Zu _ _ (3) _ _ _ _ Y1.nd rfl (Or.inl rfl) (@Zs _ _ _ _ _ _ _ _ (@YC _) (@Zs _ _ _ _ _ _ _ _ (@YC _) (@qv _ 3 _ _ (by walk_at "w")) (@Zn _ _ _ _)) (@Yx _ _ _ _ _ _ _ _ _ (@JF _) rfl T.z_str PyProof.Rows.boot_str (@Za _ _ _ _ _ (@Zs _ _ _ _ _ _ _ _ (@Yz _) (@Zh _ _ _ _) (@Zs _ _ _ _ _ _ _ _ (@Yo _) (@qv _ 1 _ _ (by walk_at "w")) (@Zh _ _ _ _))) (@Zd _) (by rfl)) (by decide) (by decide) (by rfl) (by rfl))) (by rfl) (by walk_at "u"))) (@Zp _)))) (by intro _ ; rfl)) (@Zf _ _ _ (@Zk _ _ _ _ (@qv _ 3 _ _ (by walk_at "w"))))))))), ?_⟩
  obtain ⟨c, e1, e2, e3, B⟩ := M.tup_of
  refine ⟨_, rfl, m, _, _, _, rfl, rfl, SqT.of B.tup, rfl, e1, _, rfl, .inl B.h1, fun l hl => ?_⟩
  rw [keysK]
  have s1 := Zm hl (.lst ((Xm S.bs).map V.str))
  have hl1 : upd H l (.lst ((Xm S.bs).map V.str)) l = some (.lst ((Xm S.bs).map V.str)) := Zc
  generalize upd H l (.lst ((Xm S.bs).map V.str)) = H1 at s1 hl1 ⊢
  have kl : ((Xm S.bs).map V.str).length = S.bs.length := by unfold Xm; rw [List.length_map, List.length_map]
  have hpos0 : 0 < S.bs.length := by
    have := (JD S.bs w0).mp hw0
    cases e : S.bs with
    | nil => rw [e] at this; cases this
    | cons x r => simp
  have hpos : (0 : Int) < (((Xm S.bs).map V.str).length : Nat) := by omega
  obtain ⟨v, hv⟩ := atI_in (xs := (Xm S.bs).map V.str) (Int.emod_nonneg n (show ((((Xm S.bs).map V.str).length : Nat) : Int) ≠ 0 by omega)) (Int.emod_lt_of_pos n hpos)
  obtain ⟨nm, rfl, hnm⟩ : ∃ nm, v = .str nm ∧ has S.bs nm = true := by
    unfold atI at hv
    obtain ⟨j, _, e⟩ := Option.bind_eq_some_iff.mp hv
    exact keys_at e
  refine ⟨_, rfl, _, rfl, _, rfl, _, _, rfl, .inl ⟨_, SqL.of hl1, rfl⟩, _, _, rfl, rfl, hpos, l, _, _, _, rfl, rfl, SqL.of hl1, hv, ?_⟩
  refine ⟨_, rfl, _, rfl, _, _, rfl, .inl ⟨_, SqL.of hl1, rfl⟩, _, _, rfl, rfl, ⟨hpos, by omega⟩, ?_⟩
  refine ⟨(by show 5 ≤ sizeLine; decide), fun l2 hl2 => ?_⟩
  have s2 := Zm hl2 (.lst [V.int 0, .int 1, .int 0, .int 2, .int 1])
  have z0 := Int.emod_nonneg (n / ((((Xm S.bs).map V.str).length : Nat) : Int)) (show (5 : Int) ≠ 0 by decide)
  have z1 := Int.emod_lt_of_pos (n / ((((Xm S.bs).map V.str).length : Nat) : Int)) (show (0 : Int) < 5 by decide)
  obtain ⟨t, ht, ht2⟩ : ∃ t : Nat, atI [V.int 0, .int 1, .int 0, .int 2, .int 1] ((n / ((((Xm S.bs).map V.str).length : Nat) : Int)) % 5) = some (.int (t : Int)) ∧ t ≤ 2 := by
    rcases (show (n / ((((Xm S.bs).map V.str).length : Nat) : Int)) % 5 = 0 ∨ (n / ((((Xm S.bs).map V.str).length : Nat) : Int)) % 5 = 1 ∨ (n / ((((Xm S.bs).map V.str).length : Nat) : Int)) % 5 = 2 ∨ (n / ((((Xm S.bs).map V.str).length : Nat) : Int)) % 5 = 3 ∨ (n / ((((Xm S.bs).map V.str).length : Nat) : Int)) % 5 = 4 by omega) with e | e | e | e | e <;> rw [e]
    · exact ⟨0, rfl, by decide⟩
    · exact ⟨1, rfl, by decide⟩
    · exact ⟨0, rfl, by decide⟩
    · exact ⟨2, rfl, by decide⟩
    · exact ⟨1, rfl, by decide⟩
  refine ⟨_, rfl, _, _, rfl, rfl, (by show (0 : Int) < 5; decide), l2, _, _, _, rfl, rfl, SqL.of Zc, ht, ?_⟩
  have d5 : ∀ x : Str, pok x = true → dots x ≤ 5 := fun x hx => by
    unfold pok at hx
    simp only [Bool.and_eq_true, decide_eq_true_eq] at hx
    rw [dots_eq]; exact hx.1.2
  have nn : nr S.bs nm ≠ Str.empty := by
    have h0 : nm.length ≠ 0 := fun e => by rw [len0 e, has_emp W] at hnm; cases hnm
    rw [Yd h0 hnm]
    exact fun e => h0 (by rw [e]; rfl)
  refine ⟨_, rfl, by omega, by omega, for_range (n := (t : Int).toNat) (fun i σ H2 => ∃ (n2 : Int) (z : Str) (v4 : Option V), σ = [some (.ref m), some (.int n2), some (.ref l), some (.str z), v4] ∧ Zo H H2 ∧ pok z = true ∧ nr S.bs z ≠ Str.empty) ⟨(n / ((((Xm S.bs).map V.str).length : Nat) : Int)), nm, none, rfl, s1.trans s2, W.wrt nm hnm, nn⟩ ?_ ?_⟩
  · rintro i σ H2 hi ⟨n2, z, v4, rfl, s3, hz, hnz⟩
    refine ⟨_, rfl, _, _, rfl, rfl, ⟨by decide, by decide⟩, ?_⟩
    refine ⟨_, rfl, rfl, z, dot, rfl, rfl, _, _, rfl, rfl, _, rfl, YA (fun cc => ?_) (fun _ => ⟨_, z, _, rfl, s3, hz, hnz⟩)⟩
    have hd : dots z < 5 := by have w := of_decide_eq_true cc; unfold dots; omega
    have zl := Je hz
    have y0 := Int.emod_nonneg (n2 / 5) (show (3 : Int) ≠ 0 by decide)
    have y1 := Int.emod_lt_of_pos (n2 / 5) (show (0 : Int) < 3 by decide)
    obtain ⟨j, hj, hj3⟩ : ∃ j : Nat, 1 + n2 / 5 % 3 = (j : Int) + 1 ∧ j < 3 := ⟨(n2 / 5 % 3).toNat, by omega, by omega⟩
    have c1 : (0 : Int) ≤ (j : Int) + 1 := by omega
    have c2 : (j : Int) + 1 < 131 := by omega
    have tl := ts_len c1 c2
    refine ⟨_, rfl, z, _, rfl, rfl, ZM (by show z.length + 1 ≤ 500; omega), _, rfl, _, _, rfl, rfl, (by show (0 : Int) < 3; decide), _, _, rfl, rfl, (j : Int) + 1, (by show [V.int (1 + n2 / 5 % 3)] = _; rw [hj]), log_small c1 c2, _, _, rfl, rfl, ZM (by rw [show (z ++ ("." : Str)).length = z.length + 1 from XO _ _]; omega), ?_⟩
    refine ⟨_, kid z j, _, rfl, s3, pok_kid hz hd (by omega), ?_⟩
    rw [nr_kid]
    split
    · exact fun e => kid_len z j (by rw [e]; rfl)
    · exact hnz
  · rintro σ H2 ⟨n2, z, v4, rfl, s3, hz, hnz⟩
    exact ⟨_, rfl, q z H2 s3 hz hnz⟩
theorem ok_law_near {f : Addr} {fd : FuncData} (F : Fun K "_law_near" "_law_near" X6 f fd) (T : Txt K g mg)  : FnOk P w0 K mg base CX0 1 f fd ["_law_model_here", "_law_name"] (sp_law_near K g) := by
  refine F.ok sc_law_near (fun vs H Q E h => ?_) (fun cdv A outer s H vs Q E hr h => ?_)
  · obtain ⟨m, S, RM, n, rfl, _⟩ := h
    rfl
  obtain ⟨m, S, RM, n, rfl, M, hx, q⟩ := h
  refine ⟨_, (
(@Ze _ _ _ _ _ (@ps_while _ _ _ _ _ _ PassesOwn.never (@PW.pt _ _ _ (@JV _ _ _ _ _ _ _ (@Zl _ _ _ _ _ _ _ _ (@op_ne _) (@qv _ 1 _ _ (by walk_at "w")) (@Zn _ _ _ _) (Zr _)) (@J4 _ _ _ _ (@XS _ _ _ _ _ _ (@Yy _ _ _ _ _ (ZW hr) (@qv _ 1 _ _ (by walk_at "w")) (@Zt _ _ _ _ _ _ _ (@Zv _) (@qv _ 0 _ _ (by walk_at "w")) (@Zh _ _ _ _) (fun _ _ => rfl))) (by walk_at "n"))))) (@Zf _ _ _ (@ZA _ _ _ _ _ _ _ _ (@Zl _ _ _ _ _ _ _ _ (@op_in_str _) (@Zn _ _ _ _) (@qv _ 1 _ _ (by walk_at "w")) rfl) (@Zf _ _ _ (@Zu _ _ (1) _ _ _ _ sc_law_near.nd rfl (Or.inl rfl) (@pe_slice _ _ _ _ _ _ _ _ _ _ (@sl_str _) (@qv _ 1 _ _ (by walk_at "w")) (@po_none _) (@po_some _ _ _ (@JX _ _ _ _ _ _ _ _ _ _ _ _ PySem.F.plainAttrs_str PySem.F.slot_str_rfind PySem.F.type_str_rfind (@mt_rfind _) (@qv _ 1 _ _ (by walk_at "w")) (@Za _ _ _ _ _ (@Zn _ _ _ _) (@Zd _) (by rfl)) (by rfl) (by rfl) (by rfl) (by rfl) (by rfl)))) (by rfl) (by walk_at "u"))) (@Zf _ _ _ (@Zu _ _ (1) _ _ _ _ sc_law_near.nd rfl (Or.inl rfl) (@Zn _ _ _ _) (by rfl) (by walk_at "u")))))) (@Zf _ _ _ (@Zk _ _ _ _ (@qv _ 1 _ _ (by walk_at "w")))))), ?_⟩
  obtain ⟨c, e1, e2, e3, B⟩ := M.tup_of
  refine ⟨fun mm σ H2 => ∃ z : Str, mm = z.length ∧ σ = [some (.ref m), some (.str z)] ∧ z.length ≤ 200 ∧ nr S.bs z = nr S.bs n ∧ H2 = H, ⟨_, n, rfl, rfl, hx, rfl, rfl⟩, ?_⟩
  rintro mm σ H2 ⟨z, rfl, rfl, hz, hnr, rfl⟩
  refine ⟨_, rfl, rfl, _, rfl, ?_⟩
  by_cases h0 : z.length = 0
  · have e0 := len0 h0
    rw [show (!decide (V.str z = V.str "")) = false by rw [e0]; decide +kernel]
    refine Yf (Yf ⟨_, rfl, ?_⟩)
    have e : nr S.bs n = z := by rw [← hnr, e0, nr_nil]
    rw [← e]
    exact q
  · rw [show (!decide (V.str z = V.str "")) = true by rw [decide_eq_false (fun e => h0 (by injection e with e; rw [e]; rfl))]; rfl]
    refine YY ?_
    refine ⟨_, rfl, _, rfl, m, _, _, _, rfl, rfl, SqT.of B.tup, rfl, e1, _, rfl, Yp.k (k := Sum.inr z) B.h1, _, rfl, ?_⟩
    rw [ZR]
    cases hh : has S.bs z with
    | true =>
      refine Yf ⟨_, rfl, ?_⟩
      have e : nr S.bs n = z := by rw [← hnr, Yd h0 hh]
      rw [← e]
      exact q
    | false =>
      have hu := up_len h0
      refine YY ⟨fun σ' H' => σ' = [some (.ref m), some (.str (up z))] ∧ H' = H2, fun σ' H' ⟨e1, e2⟩ => ⟨(up z).length, hu, up z, rfl, e1, by omega, by rw [← hnr, nr_up h0 hh], e2⟩, ?_⟩
      refine ⟨_, rfl, _, _, rfl, rfl, _, rfl, ?_⟩
      rw [in_dot]
      by_cases hd : 46 ∈ z.cps.toList
      · rw [decide_eq_true hd]
        refine YY ?_
        have hne : nms z ≠ [] := fun e => by
          have e2 : pcs z = [wd z] := by rw [XT, e]
          have e3 := Y3 z
          rw [e2] at e3
          have e4 : wd z = z := e3
          exact JY (x := z) (p := wd z) (by rw [e2]; simp) (by rw [e4]; exact hd)
        obtain ⟨i, hi1, hi2⟩ := up_more hne
        refine ⟨_, rfl, _, rfl, rfl, z, dot, rfl, rfl, _, rfl, z, rfl, ZM (by omega), ?_⟩
        rw [hi1]
        exact ⟨by rw [← hi2]; rfl, rfl⟩
      · rw [decide_eq_false hd]
        refine Yf ⟨?_, rfl⟩
        have e : up z = Str.empty := by
          unfold up
          rcases StrLaws.last_spec z dot with ⟨e, _⟩ | ⟨i, e, w, _⟩
          · rw [e]
          · exact absurd (List.mem_of_getElem? ((at_iff z i).mp w)) hd
        rw [e]
        rfl
theorem ok_law_age {f : Addr} {fd : FuncData} (F : Fun K "_law_age" "_law_age" JL f fd) (T : Txt K g mg)  : FnOk P w0 K mg base CX0 1 f fd ["_law_model_here", "_law_name"] (sp_law_age K g) := by
  refine F.ok sc_law_age (fun vs H Q E h => ?_) (fun cdv A outer s H vs Q E hr h => ?_)
  · obtain ⟨m, S, R, n, y, rfl, _⟩ := h
    rfl
  obtain ⟨m, S, R, n, y, rfl, M, hy, q⟩ := h
  refine ⟨_, (
(@Zf _ _ _ (@Zk _ _ _ _ (@Zs _ _ _ _ _ _ _ _ (@op_sub _) (@pe_dget2 _ _ _ _ _ _ _ _ _ (ZW hr) (@Zt _ _ _ _ _ _ _ (@Zv _) (@qv _ 0 _ _ (by walk_at "w")) (@Zh _ _ _ _) (fun _ _ => rfl)) (@qv _ 1 _ _ (by walk_at "w")) (@Zt _ _ _ _ _ _ _ (@Ym _) (@Zt _ _ _ _ _ _ _ (@Zv _) (@qv _ 0 _ _ (by walk_at "w")) (@Zh _ _ _ _) (fun _ _ => rfl)) (@Zh _ _ _ _) (fun _ _ => rfl)) ⟨rfl, rfl, rfl, rfl⟩) (@pe_dget _ _ _ _ _ _ (ZW hr) (@Zt _ _ _ _ _ _ _ (@Zv _) (@qv _ 0 _ _ (by walk_at "w")) (@Zh _ _ _ _) (fun _ _ => rfl)) (@qv _ 1 _ _ (by walk_at "w")) (fun _ _ => rfl)))))), ?_⟩
  obtain ⟨c, e1, e2, e3, B⟩ := M.tup_of
  have gb := Yp.k (H := H) (k := (Sum.inr n : Key)) B.h1
  rw [Jh, hy] at gb
  have gd := Yp.k (H := H) (k := (Sum.inr n : Key)) B.h2
  rw [Jh] at gd
  refine ⟨_, rfl, m, _, _, _, rfl, rfl, SqT.of B.tup, rfl, e2, rfl, .inl ⟨_, .inl B.h2⟩, _, rfl, _, rfl, m, _, _, _, rfl, rfl, SqT.of B.tup, rfl, c, _, _, _, rfl, rfl, SqL.of B.clk, rfl, _, gd, _, rfl, m, _, _, _, rfl, rfl, SqT.of B.tup, rfl, _, rfl, e1, _, rfl, gb, (yr S.ds n).getD S.y, y, ?_, rfl, q⟩
  cases yr S.ds n <;> rfl
theorem ok_law_members {f : Addr} {fd : FuncData} (F : Fun K "_law_members" "_law_members" YI f fd) (T : Txt K g mg) (D_law_kids : Dn P w0 K mg base 1 "_law_kids" ["_law_model_here", "_law_name"] (Xt K g)) : FnOk P w0 K mg base CX0 2 f fd ["_law_model_here", "_law_name", "_law_out"] (XH K g) := by
  refine F.ok sc_law_members (fun vs H Q E h => ?_) (fun cdv A outer s H vs Q E hr h => ?_)
  · obtain ⟨m, S, R, n, o, os, rfl, _⟩ := h
    rfl
  obtain ⟨m, S, R, n, o, os, rfl, M, ho, wf, hlen, hn, q⟩ := h
  refine ⟨_, (
(@Zf _ _ _ (@Zk _ _ _ _ (@pe_lc _ _ _ ("_law_child") _ _ _ ([("_law_out", s.heap.objs.size + 1)]) _ ([("_law_out", 2)]) _ _ _ rfl (@YB _ _ _ _ (@Zy _ _ _ _ _ _ _ _ _ _ D_law_kids (hr.mono (by decide)) (@Za _ _ _ _ _ (@qv _ 0 _ _ (by walk_at "w")) (@Za _ _ _ _ _ (@qv _ 1 _ _ (by walk_at "w")) (@Zd _) (by rfl)) (by rfl)) (by rfl) (by decide) (by rfl) (by rfl))) (fun _ _ _ _ _ => (@Xl _ _ _ (@Zl _ _ _ _ _ _ _ _ (show OpR _ (compareOp .NotIn) (rIn K true) from (@op_notIn_seq _)) (@qv _ 0 _ _ (by walk_at "w")) (@qv _ 1 _ _ (by walk_at "w")) rfl))) (fun _ _ _ _ _ => (@qv _ 0 _ _ (by walk_at "w"))) rfl (by decide +kernel) rfl (by decide +kernel) rfl (fun _ _ h => h) (Ju rfl) (fun p hp => by rw [List.mem_singleton.mp hp]; exact ⟨rfl, rfl, by first | exact .inl rfl | exact .inr rfl⟩) (by decide +kernel) (by intro _ ; rfl))))), ?_⟩
  unfold tRet
  refine lcS (ss := ZQ S n) (fun l1 H1 => Zo H H1 ∧ H1 l1 = some (.lst ((ZQ S n).map V.str)) ∧ H l1 = none) (fun c => !decide (c ∈ os)) V.str ?_ (fun a H1 h => SqL.of h.2.1) (by have := Ja wf n; omega) ?_ ?_ ?_
  · intro R0 r
    walk_at "go"
    exact ⟨by have := wf.few n; omega, fun l H' s f h => r l H' ⟨s, by rw [h, kidVL]; rfl, f⟩⟩
  · rintro a0 H1 x H2 ⟨s1, h1, _⟩ hx s R0 r
    refine ⟨_, rfl, _, rfl, o, _, rfl, .inl ((s1.trans s).seq ho), rfl, flat_strs os, _, rfl, ?_⟩
    rw [show (if true = true then !inV (V.str x) (os.map V.str) else inV (V.str x) (os.map V.str)) = !decide (x ∈ os) from by rw [if_pos rfl, inV_strs]]
    exact r H2 (Zo.refl _)
  · exact fun a H1 x H2 _ hx _ s R0 r => ⟨_, rfl, r H2 (Zo.refl _)⟩
  · rintro a0 H1 D H2 ⟨s1, h1, _⟩ hD s h
    exact q D H2 (s1.trans s) (s1.free hD) h
theorem ok_law_young {f : Addr} {fd : FuncData} (F : Fun K "_law_young" "_law_young" Xy f fd) (T : Txt K g mg) (D_law_members : Dn P w0 K mg base 2 "_law_members" ["_law_model_here", "_law_name", "_law_out"] (XH K g)) (D_law_age : Dn P w0 K mg base 1 "_law_age" ["_law_model_here", "_law_name"] (sp_law_age K g)) : FnOk P w0 K mg base CX0 3 f fd ["_law_model_here", "_law_name", "_law_age_here", "_law_out"] (sp_law_young K g) := by
  refine F.ok sc_law_young (fun vs H Q E h => ?_) (fun cdv A outer s H vs Q E hr h => ?_)
  · obtain ⟨m, S, R, n, a, o, os, rfl, _⟩ := h
    rfl
  obtain ⟨m, S, R, n, a, o, os, rfl, M, ho, wf, hlen, hn, q⟩ := h
  refine ⟨_, (
(@Ze _ _ _ _ _ (@ps_setLC _ (4) _ _ _ _ _ ("_law_child") _ _ _ ([("_law_model_here", s.heap.objs.size + 1)]) _ ([("_law_model_here", 0)]) _ _ _ sc_law_young.nd rfl (Or.inl rfl) rfl (@YB _ _ _ _ (@Zy _ _ _ _ _ _ _ _ _ _ D_law_members (hr.mono (by decide)) (@Za _ _ _ _ _ (@qv _ 0 _ _ (by walk_at "w")) (@Za _ _ _ _ _ (@qv _ 1 _ _ (by walk_at "w")) (@Za _ _ _ _ _ (@qv _ 3 _ _ (by walk_at "w")) (@Zd _) (by rfl)) (by rfl)) (by rfl)) (by rfl) (by decide) (by rfl) (by rfl))) (fun _ _ _ _ _ => (@Xl _ _ _ (@XS _ _ _ _ _ _ (@Yy _ _ _ _ _ (ZW hr) (@qv _ 0 _ _ (by walk_at "w")) (@Zt _ _ _ _ _ _ _ (show IxR _ (rIxT K) from (@Zv _)) (@qv _ 1 _ _ (by walk_at "w")) (@Zh _ _ _ _) (fun _ _ => rfl))) (by walk_at "n")))) (fun _ _ _ _ _ => (@qv _ 0 _ _ (by walk_at "w"))) rfl (by decide +kernel) rfl (by decide +kernel) rfl (L2.cl_sub (fun p hp => by simp only [List.mem_cons, List.not_mem_nil, or_false] at hp; rcases hp with rfl <;> rfl)) (Ju rfl) (fun p hp => by rw [List.mem_singleton.mp hp]; exact ⟨rfl, rfl, by first | exact .inl rfl | exact .inr rfl⟩) (by decide +kernel) (by intro _ ; rfl) (by rfl) (by walk_at "u")) (@Zf _ _ _ (@Zk _ _ _ _ (@pe_lc _ _ _ ("_law_child") _ _ _ ([("_law_model_here", s.heap.objs.size + 1), ("_law_age_here", s.heap.objs.size + 2)]) _ ([("_law_age_here", 2), ("_law_model_here", 0)]) _ _ _ rfl (@YB _ _ _ _ (@qv _ 4 _ _ (by walk_at "w"))) (fun _ _ _ _ _ => (@Xl _ _ _ (@Zl _ _ _ _ _ _ _ _ (@op_lt _) (@Zy _ _ _ _ _ _ _ _ _ _ D_law_age (hr.mono (by decide)) (@Za _ _ _ _ _ (@qv _ 2 _ _ (by walk_at "w")) (@Za _ _ _ _ _ (@qv _ 0 _ _ (by walk_at "w")) (@Zd _) (by rfl)) (by rfl)) (by rfl) (by decide) (by rfl) (by rfl)) (@qv _ 1 _ _ (by walk_at "w")) (Zr _)))) (fun _ _ _ _ _ => (@qv _ 0 _ _ (by walk_at "w"))) rfl (by decide +kernel) rfl (by decide +kernel) rfl (L2.cl_sub (fun p hp => by simp only [List.mem_cons, List.not_mem_nil, or_false] at hp; rcases hp with rfl | rfl <;> rfl)) (Ju rfl) (fun p hp => by simp only [List.mem_cons, List.not_mem_nil, or_false] at hp; rcases hp with rfl | rfl <;> exact ⟨rfl, rfl, by first | exact .inl rfl | exact .inr rfl⟩) (by decide +kernel) (by intro _ ; rfl)))))), ?_⟩
  unfold tSeq tAsg
  refine lcS (ss := YZ S n os) (fun l1 H1 => Zo H H1 ∧ H1 l1 = some (.lst ((YZ S n os).map V.str)) ∧ H l1 = none) (fun c => !has S.ds c) V.str ?_ (fun a H1 h => SqL.of h.2.1) (by have := J0 wf (n := n) (os := os); omega) ?_ ?_ ?_
  · intro R0 r
    walk_at "go"
    exact fun l H' s f h => r l H' ⟨s, h, f⟩
  · rintro a0 H1 x H2 ⟨s1, h1, _⟩ hx s R0 r
    obtain ⟨c, e1, e2, e3, B⟩ := (M.same (s1.trans s)).tup_of
    refine ⟨_, rfl, _, rfl, m, _, _, _, rfl, rfl, SqT.of B.tup, rfl, e2, _, rfl, Yp.k (k := Sum.inr x) B.h2, _, rfl, ?_⟩
    rw [ZR]
    exact r H2 (Zo.refl _)
  · exact fun a H1 x H2 _ hx _ s R0 r => ⟨_, rfl, r H2 (Zo.refl _)⟩
  rintro a0 H1 D1 H2 ⟨s1, h1, _⟩ hD1 s2 h2
  have s02 := s1.trans s2
  unfold gName tRet
  dsimp only
  refine lcS (ss := (YZ S n os).filter fun c => !has S.ds c) (fun l1 H1 => Zo H H1 ∧ H1 l1 = some (.lst (((YZ S n os).filter fun c => !has S.ds c).map V.str)) ∧ H l1 = none) (fun c => decide (JG S c < a)) V.str ?_ (fun a H1 h => SqL.of h.2.1) (by have := J0 wf (n := n) (os := os); have := List.length_filter_le (fun c => !has S.ds c) (YZ S n os); omega) ?_ ?_ ?_
  · intro R0 r
    exact ⟨_, rfl, r D1 H2 ⟨s02, h2, s1.free hD1⟩⟩
  · rintro a0 H1 x H2 ⟨s1, h1, _⟩ hx s R0 r
    have hk := Ye wf (Y4 (List.mem_filter.mp hx).1)
    obtain ⟨y, hy⟩ := Jg hk
    refine ⟨_, rfl, _, rfl, m, S, R, x, y, rfl, M.same (s1.trans s), hy, ?_⟩
    rw [age_yr hy]
    walk_at "go"
    exact r _ (Zo.refl _)
  · exact fun a H1 x H2 _ hx _ s R0 r => ⟨_, rfl, r H2 (Zo.refl _)⟩
  · rintro a0 H1 D H2 ⟨s1, h1, _⟩ hD s h
    exact q D _ (s1.trans s) (s1.free hD) (by rw [h, young_eq])
theorem ok_law_seated {f : Addr} {fd : FuncData} (F : Fun K "_law_seated" "_law_seated" Xa f fd) (T : Txt K g mg) (D_law_members : Dn P w0 K mg base 2 "_law_members" ["_law_model_here", "_law_name", "_law_out"] (XH K g)) (D_law_age : Dn P w0 K mg base 1 "_law_age" ["_law_model_here", "_law_name"] (sp_law_age K g)) : FnOk P w0 K mg base CX0 3 f fd ["_law_model_here", "_law_name", "_law_age_here", "_law_out"] (J5 K g) := by
  refine F.ok sc_law_seated (fun vs H Q E h => ?_) (fun cdv A outer s H vs Q E hr h => ?_)
  · obtain ⟨m, S, R, n, a, o, os, rfl, _⟩ := h
    rfl
  obtain ⟨m, S, R, n, a, o, os, rfl, M, ho, wf, hlen, hn, q⟩ := h
  refine ⟨_, (
(@Zf _ _ _ (@Zk _ _ _ _ (@pe_lc _ _ _ ("_law_child") _ _ _ ([("_law_model_here", s.heap.objs.size + 1), ("_law_age_here", s.heap.objs.size + 2)]) _ ([("_law_age_here", 2), ("_law_model_here", 0)]) _ _ _ rfl (@YB _ _ _ _ (@Zy _ _ _ _ _ _ _ _ _ _ D_law_members (hr.mono (by decide)) (@Za _ _ _ _ _ (@qv _ 0 _ _ (by walk_at "w")) (@Za _ _ _ _ _ (@qv _ 1 _ _ (by walk_at "w")) (@Za _ _ _ _ _ (@qv _ 3 _ _ (by walk_at "w")) (@Zd _) (by rfl)) (by rfl)) (by rfl)) (by rfl) (by decide) (by rfl) (by rfl))) (fun _ _ _ _ _ => (@Xl _ _ _ (@Zl _ _ _ _ _ _ _ _ (@op_ge _) (@Zy _ _ _ _ _ _ _ _ _ _ D_law_age (hr.mono (by decide)) (@Za _ _ _ _ _ (@qv _ 2 _ _ (by walk_at "w")) (@Za _ _ _ _ _ (@qv _ 0 _ _ (by walk_at "w")) (@Zd _) (by rfl)) (by rfl)) (by rfl) (by decide) (by rfl) (by rfl)) (@qv _ 1 _ _ (by walk_at "w")) (Zr _)))) (fun _ _ _ _ _ => (@qv _ 0 _ _ (by walk_at "w"))) rfl (by decide +kernel) rfl (by decide +kernel) rfl (L2.cl_sub (fun p hp => by simp only [List.mem_cons, List.not_mem_nil, or_false] at hp; rcases hp with rfl | rfl <;> rfl)) (Ju rfl) (fun p hp => by simp only [List.mem_cons, List.not_mem_nil, or_false] at hp; rcases hp with rfl | rfl <;> exact ⟨rfl, rfl, by first | exact .inl rfl | exact .inr rfl⟩) (by decide +kernel) (by intro _ ; rfl))))), ?_⟩
  unfold tRet
  refine lcS (ss := YZ S n os) (fun l1 H1 => Zo H H1 ∧ H1 l1 = some (.lst ((YZ S n os).map V.str)) ∧ H l1 = none) (fun c => decide (a ≤ JG S c)) V.str ?_ (fun a H1 h => SqL.of h.2.1) (by have := J0 wf (n := n) (os := os); omega) ?_ ?_ ?_
  · intro R0 r
    walk_at "go"
    exact fun l H' s f h => r l H' ⟨s, h, f⟩
  · rintro a0 H1 x H2 ⟨s1, h1, _⟩ hx s R0 r
    have hk := Ye wf (Y4 hx)
    obtain ⟨y, hy⟩ := Jg hk
    refine ⟨_, rfl, _, rfl, m, S, R, x, y, rfl, M.same (s1.trans s), hy, ?_⟩
    rw [age_yr hy]
    walk_at "go"
    exact r H2 (Zo.refl _)
  · exact fun a H1 x H2 _ hx _ s R0 r => ⟨_, rfl, r H2 (Zo.refl _)⟩
  · rintro a0 H1 D H2 ⟨s1, h1, _⟩ hD s h
    exact q D H2 (s1.trans s) (s1.free hD) h
theorem ok_law_class {f : Addr} {fd : FuncData} (F : Fun K "_law_class" "_law_class" XB f fd) (T : Txt K g mg) (D_law_near : Dn P w0 K mg base 1 "_law_near" ["_law_model_here", "_law_name"] (sp_law_near K g)) (D_law_young : Dn P w0 K mg base 3 "_law_young" ["_law_model_here", "_law_name", "_law_age_here", "_law_out"] (sp_law_young K g)) (D_law_seated : Dn P w0 K mg base 3 "_law_seated" ["_law_model_here", "_law_name", "_law_age_here", "_law_out"] (J5 K g)) : FnOk P w0 K mg base CX0 4 f fd ["_law_model_here", "_law_name", "_law_age_here", "_law_out"] (sp_law_class K g) := by
  refine F.ok sc_law_class (fun vs H Q E h => ?_) (fun cdv A outer s H vs Q E hr h => ?_)
  · obtain ⟨m, S, R, n, a, o, os, rfl, _⟩ := h
    rfl
  obtain ⟨m, S, R, n, a, o, os, rfl, M, ho, wf, hlen, on, q⟩ := h
  refine ⟨_, (
(@Ze _ _ _ _ _ (@Zu _ _ (4) _ _ _ _ sc_law_class.nd rfl (Or.inl rfl) (@Zy _ _ _ _ _ _ _ _ _ _ D_law_near (hr.mono (by decide)) (@Za _ _ _ _ _ (@qv _ 0 _ _ (by walk_at "w")) (@Za _ _ _ _ _ (@qv _ 1 _ _ (by walk_at "w")) (@Zd _) (by rfl)) (by rfl)) (by rfl) (by decide) (by rfl) (by rfl)) (by rfl) (by walk_at "u")) (@Ze _ _ _ _ _ (@ZA _ _ _ _ _ _ _ _ (@PW.pt _ _ _ (@pw_or _ _ _ _ _ _ _ (@XS _ _ _ _ _ _ (@Yy _ _ _ _ _ (ZW hr) (@qv _ 4 _ _ (by walk_at "w")) (@Zt _ _ _ _ _ _ _ (@Zv _) (@qv _ 0 _ _ (by walk_at "w")) (@Zh _ _ _ _) (fun _ _ => rfl))) (by walk_at "n")) (@pw_or1 _ _ _ _ (@Zl _ _ _ _ _ _ _ _ (@op_gt _) (@ZC _ _ _ _ _ _ _ _ _ (@ZJ _) rfl T.z_len PySem.boot_len (@Za _ _ _ _ _ (@Zy _ _ _ _ _ _ _ _ _ _ D_law_young (hr.mono (by decide)) (@Za _ _ _ _ _ (@qv _ 0 _ _ (by walk_at "w")) (@Za _ _ _ _ _ (@qv _ 1 _ _ (by walk_at "w")) (@Za _ _ _ _ _ (@qv _ 2 _ _ (by walk_at "w")) (@Za _ _ _ _ _ (@qv _ 3 _ _ (by walk_at "w")) (@Zd _) (by rfl)) (by rfl)) (by rfl)) (by rfl)) (by rfl) (by decide) (by rfl) (by rfl)) (@Zd _) (by rfl)) (by decide) (by decide) (by rfl) (by rfl)) (@Zh _ _ _ _) (Zr _))))) (@Zf _ _ _ (@Zk _ _ _ _ (@Zn _ _ _ _))) (@Zp _)) (@Zf _ _ _ (@Zk _ _ _ _ (@Zt _ _ _ _ _ _ _ (@Ym _) (@Xr _ _ _ _ (@Za _ _ _ _ _ (@Zn _ _ _ _) (@Za _ _ _ _ _ (@Zn _ _ _ _) (@Zd _) (by rfl)) (by rfl))) (@Yx _ _ _ _ _ _ _ _ _ (@call_int1 _) rfl T.z_int PyProof.Rows.boot_int (@Za _ _ _ _ _ (@pe_cmpR _ _ _ _ _ _ _ _ (@op_gt _) (@ZC _ _ _ _ _ _ _ _ _ (@ZJ _) rfl T.z_len PySem.boot_len (@Za _ _ _ _ _ (@Zy _ _ _ _ _ _ _ _ _ _ D_law_seated (hr.mono (by decide)) (@Za _ _ _ _ _ (@qv _ 0 _ _ (by walk_at "w")) (@Za _ _ _ _ _ (@qv _ 1 _ _ (by walk_at "w")) (@Za _ _ _ _ _ (@qv _ 2 _ _ (by walk_at "w")) (@Za _ _ _ _ _ (@qv _ 3 _ _ (by walk_at "w")) (@Zd _) (by rfl)) (by rfl)) (by rfl)) (by rfl)) (by rfl) (by decide) (by rfl) (by rfl)) (@Zd _) (by rfl)) (by decide) (by decide) (by rfl) (by rfl)) (@Zh _ _ _ _) (Zr _)) (@Zd _) (by rfl)) (by decide) (by decide) (by rfl) (by rfl)) (fun _ _ => rfl))))))), ?_⟩
  have nl := Je on.1
  have cl := cl_law (a := a) (os := os) on
  unfold clS at q
  refine ⟨_, rfl, _, rfl, m, S, R, n, rfl, M, by omega, ?_⟩
  obtain ⟨c, e1, e2, e3, B⟩ := M.tup_of
  refine ⟨_, rfl, _, rfl, m, _, _, _, rfl, rfl, SqT.of B.tup, rfl, e2, _, rfl, Yp.k (k := Sum.inr (nr S.bs n)) B.h2, _, rfl, ?_⟩
  rw [ZR]
  cases hd : has S.ds (nr S.bs n) with
  | false =>
    rw [hd] at cl
    rw [← cl] at q
    exact YY (q H (Zo.refl _))
  | true =>
    rw [hd] at cl
    refine Yf ⟨_, rfl, _, rfl, _, rfl, _, rfl, m, S, R, n, a, o, os, rfl, M, ho, wf, hlen, by omega, fun l1 H1 s1 f1 h1 => ?_⟩
    refine ⟨_, _, rfl, .inl ⟨_, SqL.of h1, rfl⟩, _, _, rfl, rfl, _, rfl, ?_⟩
    rw [List.length_map]
    have cl' : decide ((0 : Int) < ((Xg S n a os).length : Nat)) = (al S.bs S.ds (nr S.bs n) || !(Xg S n a os).isEmpty) := cl
    rw [← cl'] at q
    refine YA (fun c2 => ?_) (fun c2 => ?_)
    · have c3 : decide ((0 : Int) < ((Xg S n a os).length : Nat)) = true := c2
      rw [c3] at q
      exact q H1 s1
    · have c3 : decide ((0 : Int) < ((Xg S n a os).length : Nat)) = false := Bool.eq_false_iff.mpr c2
      rw [c3] at q
      refine ⟨(by show 2 ≤ sizeLine; decide), fun l2 hl2 => ?_⟩
      have s2 := Zm hl2 (.lst [V.str "failed", V.str "met"])
      have s12 := s1.trans s2
      refine ⟨_, rfl, _, rfl, _, rfl, _, rfl, m, S, R, n, a, o, os, rfl, M.same s12, s12.seq ho, wf, hlen, by omega, fun l3 H3 s3 f3 h3 => ?_⟩
      refine ⟨_, _, rfl, .inl ⟨_, SqL.of h3, rfl⟩, _, _, rfl, rfl, .inr ⟨_, rfl, l2, _, _, _, rfl, rfl, SqL.of (s3 _ _ Zc), pick2 _, ?_⟩⟩
      rw [List.length_map]
      have sn := seat_ne (S := S) (n := n) (a := a) (os := os)
      have z := q H3 (s12.trans s3)
      cases hs : Jf S n a os with
      | true =>
        rw [hs] at z sn
        rw [show decide ((0 : Int) < ((XQ S n a os).length : Nat)) = true from sn.symm]
        exact z
      | false =>
        rw [hs] at z sn
        rw [show decide ((0 : Int) < ((XQ S n a os).length : Nat)) = false from sn.symm]
        exact z
theorem ok_law_made {f : Addr} {fd : FuncData} (F : Fun K "_law_made" "_law_made" Yn f fd) (T : Txt K g mg) (D_law_path : Dn P w0 K mg base 1 "_law_path" ["_law_model_here", "_law_n"] (sp_law_path K g)) (D_law_kids : Dn P w0 K mg base 1 "_law_kids" ["_law_model_here", "_law_name"] (Xt K g)) : FnOk P w0 K mg base CX0 2 f fd ["_law_model_here", "_law_n"] (sp_law_made K g) := by
  refine F.ok Y2 (fun vs H Q E h => ?_) (fun cdv A outer s H vs Q E hr h => ?_)
  · obtain ⟨m, S, R, n, rfl, _⟩ := h
    rfl
  obtain ⟨m, S, R, n, rfl, M, wf, hlen, RT, q⟩ := h
  have rest5 : PSs (Xn CX0 P w0 K mg base ["_law_model_here", "_law_n", "_law_name", "_law_age_here", "_law_out"] "_law_made" (Zb Yn) f cdv A outer s H E).nox ((Zi Yn).drop 5) (fun D σ H1 => ∃ (x : Str) (a n' : Int) (v4 : Option V), σ = [some (.ref m), some (.int n'), some (.str x), some (.int a), v4] ∧ Zo H H1 ∧ okN S x ∧ 0 ≤ a ∧ a ≤ 120 ∧ D.rt = Q) := by
    refine @Xf _ _ _ _ ((@Ze _ _ _ _ _ (@ps_setLC _ (4) _ _ _ _ _ ("_law_child") _ _ _ ([("_law_model_here", s.heap.objs.size + 1)]) _ ([("_law_model_here", 0)]) _ _ _ Y2.nd rfl (Or.inl rfl) rfl (@YB _ _ _ _ (@Zy _ _ _ _ _ _ _ _ _ _ D_law_kids (hr.mono (by decide)) (@Za _ _ _ _ _ (@qv _ 0 _ _ (by walk_at "w")) (@Za _ _ _ _ _ (@qv _ 2 _ _ (by walk_at "w")) (@Zd _) (by rfl)) (by rfl)) (by rfl) (by decide) (by rfl) (by rfl))) (fun _ _ _ _ _ => (@Xl _ _ _ (@XS _ _ _ _ _ _ (@pc_din _ _ _ _ _ (ZW hr) (@qv _ 0 _ _ (by walk_at "w")) (@Zt _ _ _ _ _ _ _ (show IxR _ (rIxT K) from (@Zv _)) (@qv _ 1 _ _ (by walk_at "w")) (@Zh _ _ _ _) (fun _ _ => rfl))) (by walk_at "n")))) (fun _ _ _ _ _ => (@qv _ 0 _ _ (by walk_at "w"))) rfl (by decide +kernel) rfl (by decide +kernel) rfl (fun _ _ h => h) (Ju rfl) (fun p hp => by rw [List.mem_singleton.mp hp]; exact ⟨rfl, rfl, by first | exact .inl rfl | exact .inr rfl⟩) (by decide +kernel) (by intro _ ; rfl) (by rfl) (by walk_at "u")) (@Zf _ _ _ (@Zk _ _ _ _ (@Xq _ _ _ _ _ (@Za _ _ _ _ _ (@qv _ 2 _ _ (by walk_at "w")) (@Za _ _ _ _ _ (@qv _ 3 _ _ (by walk_at "w")) (@Za _ _ _ _ _ (@qv _ 4 _ _ (by walk_at "w")) (@Zd _) (by rfl)) (by rfl)) (by rfl))))))) ?_
    rintro D σ H1 ⟨x, a, n', v4, rfl, s1, ox, ha0, ha1, hq⟩
    have M1 := M.same s1
    have xl := Je ox.1
    unfold tSeq tAsg
    dsimp only
    refine lcS (ss := ZQ S x) (fun l1 H9 => Zo H1 H9 ∧ H9 l1 = some (.lst ((ZQ S x).map V.str)) ∧ H1 l1 = none) (fun c => has S.ds c) V.str ?_ (fun a H1 h => SqL.of h.2.1) (by have := Ja wf x; omega) ?_ ?_ ?_
    · intro R0 r
      walk_at "go"
      exact ⟨by omega, by have := wf.few x; omega, fun l H' s f h => r l H' ⟨s, by rw [h, kidVL]; rfl, f⟩⟩
    · rintro a0 H9 y H2 ⟨s9, h9, _⟩ hy s R0 r
      obtain ⟨c, e1, e2, e3, B⟩ := (M1.same (s9.trans s)).tup_of
      refine ⟨_, rfl, _, rfl, m, _, _, _, rfl, rfl, SqT.of B.tup, rfl, e2, _, rfl, Yp.k (k := Sum.inr y) B.h2, _, rfl, ?_⟩
      rw [ZR]
      exact r H2 (Zo.refl _)
    · exact fun a H1 x H2 _ hx _ s R0 r => ⟨_, rfl, r H2 (Zo.refl _)⟩
    rintro a0 H9 o H2 ⟨s9, h9, _⟩ hD1 s2 h2
    have s12 := s9.trans s2
    walk_at "go"
    intro p hp
    rw [hq]
    have sA := s1.trans s12
    exact q x a o p _ (sA.trans (Zm hp _)) (s1.free (s9.free hD1)) (sA.free hp) (outL_cl wf hlen ox ha0 ha1) (Zm hp _ _ _ h2) Zc
  have rest3 : PSs (Xn CX0 P w0 K mg base ["_law_model_here", "_law_n", "_law_name", "_law_age_here", "_law_out"] "_law_made" (Zb Yn) f cdv A outer s H E).nox ((Zi Yn).drop 3) (fun D σ H1 => ∃ (x : Str) (n' : Int) (v3 v4 : Option V), σ = [some (.ref m), some (.int n'), some (.str x), v3, v4] ∧ Zo H H1 ∧ okN S x ∧ D.rt = Q) := by
    refine @Xf _ _ _ _ ((@Ze _ _ _ _ _ (@Zu _ _ (3) _ _ _ _ Y2.nd rfl (Or.inl rfl) (@Zs _ _ _ _ _ _ _ _ (@Yo _) (@qv _ 1 _ _ (by walk_at "w")) (@Zh _ _ _ _)) (by rfl) (by walk_at "u")) (@Ze _ _ _ _ _ (@ZA _ _ _ _ _ _ _ _ (@Zl _ _ _ _ _ _ _ _ (@Yc _) (@Zs _ _ _ _ _ _ _ _ (@Yo _) (@Zs _ _ _ _ _ _ _ _ (@Xp _) (@qv _ 1 _ _ (by walk_at "w")) (@Zh _ _ _ _)) (@Zh _ _ _ _)) (@Zh _ _ _ _) (Zr _)) (@Zf _ _ _ (@Zu _ _ (3) _ _ _ _ Y2.nd rfl (Or.inl rfl) (@Zs _ _ _ _ _ _ _ _ (@Yo _) (@Zs _ _ _ _ _ _ _ _ (@Xp _) (@qv _ 1 _ _ (by walk_at "w")) (@Zh _ _ _ _)) (@Zh _ _ _ _)) (by rfl) (by walk_at "u"))) (@Zp _)) @rest5))) ?_
    rintro D σ H1 ⟨x, n', v3, v4, rfl, s1, ox, hq⟩
    have b0 := Int.emod_nonneg n' (show (31 : Int) ≠ 0 by decide)
    have b1 := Int.emod_lt_of_pos n' (show (0 : Int) < 31 by decide)
    have b2 := Int.emod_nonneg (n' / 155) (show (121 : Int) ≠ 0 by decide)
    have b3 := Int.emod_lt_of_pos (n' / 155) (show (0 : Int) < 121 by decide)
    walk_at "go"
    refine YA (fun c => ?_) (fun c => ?_)
    · walk_at "go"
      exact ⟨by omega, hq⟩
    · exact ⟨x, _, n', v4, rfl, s1, ox, b0, by omega, hq⟩
  refine ⟨_, (@Ze _ _ _ _ _ (@Zu _ _ (2) _ _ _ _ Y2.nd rfl (Or.inl rfl) (@Zy _ _ _ _ _ _ _ _ _ _ D_law_path (hr.mono (by decide)) (@Za _ _ _ _ _ (@qv _ 0 _ _ (by walk_at "w")) (@Za _ _ _ _ _ (@qv _ 1 _ _ (by walk_at "w")) (@Zd _) (by rfl)) (by rfl)) (by rfl) (by decide) (by rfl) (by rfl)) (by rfl) (by walk_at "u")) (@Ze _ _ _ _ _ (@Zu _ _ (1) _ _ _ _ Y2.nd rfl (Or.inl rfl) (@Zs _ _ _ _ _ _ _ _ (@Xp _) (@qv _ 1 _ _ (by walk_at "w")) (@Zh _ _ _ _)) (by rfl) (by walk_at "u")) (@Ze _ _ _ _ _ (@ZA _ _ _ _ _ _ _ _ (@Zl _ _ _ _ _ _ _ _ (@op_gt _) (@JX _ _ _ _ _ _ _ _ _ _ _ _ PySem.F.plainAttrs_str PySem.F.slot_str_count PySem.F.type_str_count (@mt_count _) (@qv _ 2 _ _ (by walk_at "w")) (@Za _ _ _ _ _ (@Zn _ _ _ _) (@Zd _) (by rfl)) (by rfl) (by rfl) (by rfl) (by rfl) (by rfl)) (@Zh _ _ _ _) (Zr _)) (@Zf _ _ _ (@Zu _ _ (2) _ _ _ _ Y2.nd rfl (Or.inl rfl) (@Zt _ _ _ _ _ _ _ (@Ym _) (@JX _ _ _ _ _ _ _ _ _ _ _ _ PySem.F.plainAttrs_str PySem.F.slot_str_split PySem.F.type_str_split (@mt_split _) (@qv _ 2 _ _ (by walk_at "w")) (@Za _ _ _ _ _ (@Zn _ _ _ _) (@Zd _) (by rfl)) (by rfl) (by rfl) (by rfl) (by rfl) (by rfl)) (@Zh _ _ _ _) (fun _ _ => rfl)) (by rfl) (by walk_at "u"))) (@Zp _)) @rest3))), ?_⟩
  walk_at "go"
  intro x H1 s1 hx hnx
  have xl := Je hx
  walk_at "go"
  refine YA (fun c => ?_) (fun c => ?_)
  · have h2 : (Builtin.Str.partsBetween x (Builtin.Str.occurrences x dot 0 x.length (x.length + 1)) dot.length).length ≤ sizeLine := by
      rw [PyProof.Rows.len_partsBetween]
      have := StrLaws.occ_length_le x dot 0 x.length (x.length + 1)
      exact ZM (by omega)
    refine ⟨_, rfl, rfl, x, dot, rfl, rfl, by decide +kernel, ZM (by omega), h2, fun l2 hl2 => ?_⟩
    have s2 := Zm hl2 (.lst ((pcs x).map V.str))
    have e0 : (pcs x).map V.str = V.str (wd x) :: (nms x).map V.str := by rw [XT]; rfl
    refine ⟨l2, (pcs x).map V.str, _, V.str (wd x), rfl, rfl, SqL.of Zc, by rw [e0]; exact atI_nat (j := 0) rfl, ?_⟩
    exact ⟨wd x, _, _, _, rfl, s1.trans s2, okN_wd wf ⟨hx, hnx⟩, rfl⟩
  · exact ⟨x, _, _, _, rfl, s1, ⟨hx, hnx⟩, rfl⟩
theorem ok_law_fits {f : Addr} {fd : FuncData} (F : Fun K "_law_fits" "_law_fits" Z1 f fd) (T : Txt K g mg) (D_class_stand : Dn P w0 K mg base 7 "class_stand" ["world", "name", "age", "out"] (XI K g)) (D_class_since : Dn P w0 K mg base 9 "class_since" ["world", "name", "age", "out", "day"] (JP K g)) (D_seats : Dn P w0 K mg base 6 "seats" ["world", "name", "age", "out"] (sp_seats K g)) (D_law_class : Dn P w0 K mg base 4 "_law_class" ["_law_model_here", "_law_name", "_law_age_here", "_law_out"] (sp_law_class K g)) (D_law_num : Dn P w0 K mg base 1 "_law_num" ["_law_found"] (sp_law_num K g)) : FnOk P w0 K mg base CX0 10 f fd ["_law_world", "_law_model_here", "_law_made_here", "_law_told"] (sp_law_fits K g) := by
  refine F.ok Yl (fun vs H Q E h => ?_) (fun cdv A outer s H vs Q E hr h => ?_)
  · obtain ⟨w, m, S, R, RM, lm, lt, cs, qs, td0, rfl, _⟩ := h
    rfl
  obtain ⟨w, m, S, R, RM, lm, lt, cs, qs, td0, rfl, W, M, hlen, A0, hok, hcs, T0, ltR, ltM, ltA, htl, hgood, q⟩ := h
  have wf := W.wf
  have rest7 : PSs (Xn CX0 P w0 K mg base ["_law_world", "_law_model_here", "_law_made_here", "_law_told", "_law_k", "_law_name", "_law_age_here", "_law_out", "_law_given", "_law_now", "_law_year", "_law_state"] "_law_fits" (Zb Z1) f cdv A outer s H E).nox ((forBody ((Zi Z1).getD 0 (.Pass ⟨0, 0, 0, 0⟩))).drop 7) (fun D σ H4 => ∃ (i : Nat) (t : Td) (td : List Td) (v5 v6 v7 v8 v9 v10 : Option V), σ = [some (.ref w), some (.ref m), some (.ref lm), some (.ref lt), some (.int i), v5, v6, v7, v8, v9, v10, some (.ref t.p)] ∧ H4 t.p = some (.tup [.str t.s, t.v, .ref t.l]) ∧ H4 t.l = some (.lst (t.ss.map V.str)) ∧ t.l ≠ lt ∧ ToldAt H4 lt td ∧ i ≤ td.length ∧ td.length ≤ 200 ∧ ∀ H' td', ZD [lt] H4 H' → ToldAt H' lt td' → ((i < td.length ∧ td' = td.set i t) ∨ (i = td.length ∧ td' = td ++ [t])) → D.nx [some (.ref w), some (.ref m), some (.ref lm), some (.ref lt), some (.int i), v5, v6, v7, v8, v9, v10, some (.ref t.p)] H') := by
    refine @Xf _ _ _ _ ((@Zf _ _ _ (@ZA _ _ _ _ _ _ _ _ (@Zl _ _ _ _ _ _ _ _ (@op_lt _) (@qv _ 4 _ _ (by walk_at "w")) (@ZC _ _ _ _ _ _ _ _ _ (@ZJ _) rfl T.z_len PySem.boot_len (@Za _ _ _ _ _ (@qv _ 3 _ _ (by walk_at "w")) (@Zd _) (by rfl)) (by decide) (by decide) (by rfl) (by rfl)) (Zr _)) (@Zf _ _ _ (@ps_asg _ _ _ _ _ _ (@qv _ 11 _ _ (by walk_at "w")) (@pg_sub _ _ _ _ _ _ _ (@qv _ 3 _ _ (by walk_at "w")) (@qv _ 4 _ _ (by walk_at "w")) (@set_list _) (by intro _ ; rfl)) (by rfl) (by rfl) (by rfl))) (@Zf _ _ _ (@ZG _ _ _ _ (@JX _ _ _ _ _ _ _ _ _ _ _ _ PySem.F.plainAttrs_list PySem.F.slot_list_append PySem.F.type_list_append (@XF _) (@qv _ 3 _ _ (by walk_at "w")) (@Za _ _ _ _ _ (@qv _ 11 _ _ (by walk_at "w")) (@Zd _) (by rfl)) (by rfl) (by rfl) (by rfl) (by rfl) (by rfl)) (by rfl)))))) ?_
    rintro D σ H4 ⟨i, t, td, v5, v6, v7, v8, v9, v10, rfl, hp, hl, nl, T, hi, h90, fin⟩
    have tlen : (td.map fun t => V.ref t.p).length = td.length := List.length_map _
    have lS : (td.map fun t => V.ref t.p).length < sizeLine := ZB (by rw [tlen]; omega)
    refine ⟨_, rfl, _, rfl, _, _, rfl, .inl ⟨_, SqL.of T.lst, rfl⟩, _, _, rfl, rfl, _, rfl, YA (fun c => ?_) (fun c => ?_)⟩
    · have ci : i < td.length := by have z := of_decide_eq_true c; rw [tlen] at z; omega
      refine ⟨_, rfl, _, rfl, _, rfl, lt, _, _, _, rfl, rfl, T.lst, by rw [tlen]; exact ixN_nat ci, ?_⟩
      have z := T.upd_ hp hl nl (td.set i t) (fun u hu => List.mem_or_eq_of_mem_set hu)
      rw [List.map_set] at z
      exact fin _ _ YG z (.inl ⟨ci, rfl⟩)
    · have ci : i = td.length := by
        have z : ¬ ((i : Int) < (((td.map fun t => V.ref t.p).length : Nat) : Int)) := fun w => c (decide_eq_true w)
        rw [tlen] at z
        omega
      refine ⟨_, rfl, .inl ⟨rfl, _, SqL.of T.lst⟩, _, rfl, lt, _, _, rfl, rfl, T.lst, lS, ?_⟩
      have z := T.upd_ hp hl nl (td ++ [t]) (fun u hu => by
        rcases List.mem_append.mp hu with h | h
        · exact .inl h
        · exact .inr (List.mem_singleton.mp h))
      rw [List.map_append] at z
      exact fin _ _ YG z (.inr ⟨ci, rfl⟩)
  have rest6 : PSs (Xn CX0 P w0 K mg base ["_law_world", "_law_model_here", "_law_made_here", "_law_told", "_law_k", "_law_name", "_law_age_here", "_law_out", "_law_given", "_law_now", "_law_year", "_law_state"] "_law_fits" (Zb Z1) f cdv A outer s H E).nox ((forBody ((Zi Z1).getD 0 (.Pass ⟨0, 0, 0, 0⟩))).drop 6) (fun D σ H4 => ∃ (i : Nat) (t : Td) (td : List Td) (v5 v6 v7 v8 v9 v10 : Option V), σ = [some (.ref w), some (.ref m), some (.ref lm), some (.ref lt), some (.int i), v5, v6, v7, v8, v9, v10, some (.ref t.p)] ∧ H4 t.p = some (.tup [.str t.s, t.v, .ref t.l]) ∧ H4 t.l = some (.lst (t.ss.map V.str)) ∧ t.l ≠ lt ∧ ToldAt H4 lt td ∧ i ≤ td.length ∧ td.length ≤ 200 ∧ Three t.s ∧ (t.v = .non ∨ ∃ M, t.v = .int M) ∧ (∀ c ∈ t.ss, PyData.strOk c = true) ∧ (∀ t', td[i]? = some t' → t'.s = "hangs" ∨ (t'.s = t.s ∧ t'.v = t.v ∧ t'.ss = t.ss)) ∧ ∀ H' td', ZD [lt] H4 H' → ToldAt H' lt td' → ((i < td.length ∧ td' = td.set i t) ∨ (i = td.length ∧ td' = td ++ [t])) → D.nx [some (.ref w), some (.ref m), some (.ref lm), some (.ref lt), some (.int i), v5, v6, v7, v8, v9, v10, some (.ref t.p)] H') := by
    refine @Xf _ _ _ _ ((@Ze _ _ _ _ _ (@ZA _ _ _ _ _ _ _ _ (@PW.pt _ _ _ (@JV _ _ _ _ _ _ _ (@Zl _ _ _ _ _ _ _ _ (@op_lt _) (@qv _ 4 _ _ (by walk_at "w")) (@ZC _ _ _ _ _ _ _ _ _ (@ZJ _) rfl T.z_len PySem.boot_len (@Za _ _ _ _ _ (@qv _ 3 _ _ (by walk_at "w")) (@Zd _) (by rfl)) (by decide) (by decide) (by rfl) (by rfl)) (Zr _)) (@JV _ _ _ _ _ _ _ (@Zl _ _ _ _ _ _ _ _ (@op_ne _) (@Zt _ _ _ _ _ _ _ (@Zv _) (@Zt _ _ _ _ _ _ _ (@Ym _) (@qv _ 3 _ _ (by walk_at "w")) (@qv _ 4 _ _ (by walk_at "w")) (fun _ _ => rfl)) (@Zh _ _ _ _) (fun _ _ => rfl)) (@Zn _ _ _ _) (Zr _)) (@J4 _ _ _ _ (@Zl _ _ _ _ _ _ _ _ (@op_neD _ hr.units) (@Zt _ _ _ _ _ _ _ (@Ym _) (@qv _ 3 _ _ (by walk_at "w")) (@qv _ 4 _ _ (by walk_at "w")) (fun _ _ => rfl)) (@qv _ 11 _ _ (by walk_at "w")) (Zr _)))))) (@Zf _ _ _ (@Zk _ _ _ _ (@pe_bl _ _ _ _))) (@Zp _)) @rest7)) ?_
    rintro D σ H4 ⟨i, t, td, v5, v6, v7, v8, v9, v10, rfl, hp, hl, nl, T, hi, h90, h3, hv, hss, hq, fin⟩
    have tlen : (td.map fun t => V.ref t.p).length = td.length := List.length_map _
    have go7 : ∃ (i' : Nat) (t' : Td) (td' : List Td) (v5' v6' v7' v8' v9' v10' : Option V), ([some (.ref w), some (.ref m), some (.ref lm), some (.ref lt), some (.int i), v5, v6, v7, v8, v9, v10, some (.ref t.p)] : St) = [some (.ref w), some (.ref m), some (.ref lm), some (.ref lt), some (.int i'), v5', v6', v7', v8', v9', v10', some (.ref t'.p)] ∧ H4 t'.p = some (.tup [.str t'.s, t'.v, .ref t'.l]) ∧ H4 t'.l = some (.lst (t'.ss.map V.str)) ∧ t'.l ≠ lt ∧ ToldAt H4 lt td' ∧ i' ≤ td'.length ∧ td'.length ≤ 200 ∧ ∀ H' td2, ZD [lt] H4 H' → ToldAt H' lt td2 → ((i' < td'.length ∧ td2 = td'.set i' t') ∨ (i' = td'.length ∧ td2 = td' ++ [t'])) → D.nx [some (.ref w), some (.ref m), some (.ref lm), some (.ref lt), some (.int i'), v5', v6', v7', v8', v9', v10', some (.ref t'.p)] H' := ⟨i, t, td, v5, v6, v7, v8, v9, v10, rfl, hp, hl, nl, T, hi, h90, fin⟩
    refine ⟨_, rfl, _, rfl, _, _, rfl, .inl ⟨_, SqL.of T.lst, rfl⟩, _, _, rfl, rfl, _, rfl, YA (fun c => ?_) (fun c => ?_)⟩
    · have ci : i < td.length := by have z := of_decide_eq_true c; rw [tlen] at z; omega
      obtain ⟨t', ht'⟩ : ∃ t', td[i]? = some t' := ⟨_, List.getElem?_eq_getElem ci⟩
      have e4 : atI (td.map fun t => V.ref t.p) (i : Int) = some (.ref t'.p) := atI_nat (by rw [List.getElem?_map, ht']; rfl)
      have at' := T.at_ t' (List.mem_of_getElem? ht')
      refine ⟨_, rfl, _, rfl, lt, _, _, _, rfl, rfl, SqL.of T.lst, e4, _, _, _, _, rfl, rfl, SqT.of at'.1, rfl, rfl, _, rfl, ?_⟩
      by_cases c2 : t'.s = "hangs"
      · rw [c2]
        exact ifEqN (Yf go7)
      · refine ifNeN (beq_eq_false_iff_ne.mpr c2) ?_
        rcases hq t' ht' with z | ⟨e1, e2, e3⟩
        · exact absurd z c2
        · rw [e1, e2, e3] at at'
          exact ⟨_, rfl, _, rfl, lt, _, _, _, rfl, rfl, SqL.of T.lst, e4, _, rfl, ne_trip at'.1 hp at'.2 hl (three_ok h3) hv hss ⟨_, rfl, Yf go7⟩⟩
    · exact Yf go7
  have hl9 : S.bs.length ≤ 900 := by omega
  have rest3 : PSs (Xn CX0 P w0 K mg base ["_law_world", "_law_model_here", "_law_made_here", "_law_told", "_law_k", "_law_name", "_law_age_here", "_law_out", "_law_given", "_law_now", "_law_year", "_law_state"] "_law_fits" (Zb Z1) f cdv A outer s H E).nox ((forBody ((Zi Z1).getD 0 (.Pass ⟨0, 0, 0, 0⟩))).drop 3) (fun D σ H6 => ∃ (i : Nat) (c : Cl) (o gv : Addr) (v : V) (td : List Td) (v11 : Option V), σ = [some (.ref w), some (.ref m), some (.ref lm), some (.ref lt), some (.int i), some (.str c.n), some (.int c.a), some (.ref o), some (.ref gv), some (.str (clS S c.n c.a c.os)), some v, v11] ∧ WorldAt g H6 w S R ∧ YD H6 m S RM ∧ H6 o = some (.lst (c.os.map V.str)) ∧ H6 gv = some (.lst (c.os.map V.str)) ∧ c.ok S ∧ ((clS S c.n c.a c.os = "hangs" ∧ v = .non) ∨ (clS S c.n c.a c.os ≠ "hangs" ∧ ∃ M, v = .int M ∧ Csin S c.n c.a c.os 0 M)) ∧ ToldAt H6 lt td ∧ i ≤ td.length ∧ td.length ≤ 200 ∧ (∀ t', td[i]? = some t' → t'.s = "hangs" ∨ Wc S c t'.s t'.v t'.ss) ∧ ∀ H7 (t : Td) H' td', Zo H6 H7 → H6 t.p = none → H6 t.l = none → Wc S c t.s t.v t.ss → ZD [lt] H7 H' → ToldAt H' lt td' → ((i < td.length ∧ td' = td.set i t) ∨ (i = td.length ∧ td' = td ++ [t])) → D.nx [some (.ref w), some (.ref m), some (.ref lm), some (.ref lt), some (.int i), some (.str c.n), some (.int c.a), some (.ref o), some (.ref gv), some (.str (clS S c.n c.a c.os)), some v, some (.ref t.p)] H') := by
    refine @Xf _ _ _ _ ((@Ze _ _ _ _ _ (@ZA _ _ _ _ _ _ _ _ (@PW.pt _ _ _ (@pw_or _ _ _ _ _ _ _ (@Zl _ _ _ _ _ _ _ _ (@op_neD _ hr.units) (@qv _ 8 _ _ (by walk_at "w")) (@qv _ 7 _ _ (by walk_at "w")) (Zr _)) (@pw_or _ _ _ _ _ _ _ (@Zl _ _ _ _ _ _ _ _ (@op_ne _) (@qv _ 9 _ _ (by walk_at "w")) (@Zy _ _ _ _ _ _ _ _ _ _ D_law_class (hr.mono (by decide)) (@Za _ _ _ _ _ (@qv _ 1 _ _ (by walk_at "w")) (@Za _ _ _ _ _ (@qv _ 5 _ _ (by walk_at "w")) (@Za _ _ _ _ _ (@qv _ 6 _ _ (by walk_at "w")) (@Za _ _ _ _ _ (@qv _ 7 _ _ (by walk_at "w")) (@Zd _) (by rfl)) (by rfl)) (by rfl)) (by rfl)) (by rfl) (by decide) (by rfl) (by rfl)) (Zr _)) (@pw_or1 _ _ _ _ (@Zl _ _ _ _ _ _ _ _ (@op_ne _) (@pe_cmpR _ _ _ _ _ _ _ _ (@Yc _) (@qv _ 9 _ _ (by walk_at "w")) (@Zn _ _ _ _) (Zr _)) (@pe_cmpR _ _ _ _ _ _ _ _ (@op_isN _) (@qv _ 10 _ _ (by walk_at "w")) (@pe_non _ _ _) (Zr _)) (Zr _)))))) (@Zf _ _ _ (@Zk _ _ _ _ (@pe_bl _ _ _ _))) (@Zp _)) (@Ze _ _ _ _ _ (@ZA _ _ _ _ _ _ _ _ (@PW.pt _ _ _ (@JV _ _ _ _ _ _ _ (@Zl _ _ _ _ _ _ _ _ (@op_notN _) (@qv _ 10 _ _ (by walk_at "w")) (@pe_non _ _ _) (Zr _)) (@J4 _ _ _ _ (@pt_not _ _ _ _ (@Xj _ _ _ (@Zy _ _ _ _ _ _ _ _ _ _ D_law_num (hr.mono (by decide)) (@Za _ _ _ _ _ (@qv _ 10 _ _ (by walk_at "w")) (@Zd _) (by rfl)) (by rfl) (by decide) (by rfl) (by rfl)) (by intro _ ; rfl)))))) (@Zf _ _ _ (@Zk _ _ _ _ (@pe_bl _ _ _ _))) (@Zp _)) (@Ze _ _ _ _ _ (@Zu _ _ (11) _ _ _ _ Yl.nd rfl (Or.inl rfl) (@Xq _ _ _ _ _ (@Za _ _ _ _ _ (@qv _ 9 _ _ (by walk_at "w")) (@Za _ _ _ _ _ (@qv _ 10 _ _ (by walk_at "w")) (@Za _ _ _ _ _ (@Zy _ _ _ _ _ _ _ _ _ _ D_seats (hr.mono (by decide)) (@Za _ _ _ _ _ (@qv _ 0 _ _ (by walk_at "w")) (@Za _ _ _ _ _ (@qv _ 5 _ _ (by walk_at "w")) (@Za _ _ _ _ _ (@qv _ 6 _ _ (by walk_at "w")) (@Za _ _ _ _ _ (@Yx _ _ _ _ _ _ _ _ _ (show Jw _ (.type "list") (rListS K) from (@call_listS _)) rfl T.z_list PyProof.Rows.boot_list (@Za _ _ _ _ _ (@qv _ 7 _ _ (by walk_at "w")) (@Zd _) (by rfl)) (by decide) (by decide) (by rfl) (by rfl)) (@Zd _) (by rfl)) (by rfl)) (by rfl)) (by rfl)) (by rfl) (by decide) (by rfl) (by rfl)) (@Zd _) (by rfl)) (by rfl)) (by rfl))) (by rfl) (by walk_at "u")) @rest6)))) ?_
    rintro D σ H6 ⟨i, c, o, gv, v, td, v11, rfl, W6, M6, ho, hgv, okc, hv, T6, hi, h90, hq, fin⟩
    obtain ⟨on, a0, a1, oss, ol⟩ := okc
    have hoS := SqL.of (K := K) ho
    have hgS := SqL.of (K := K) hgv
    refine ⟨_, rfl, _, rfl, ne_strD (SqL.of hgv) (SqL.of ho) oss ⟨_, rfl, Yf ?_⟩⟩
    walk_at "go"
    intro H7 s7
    walk_at "go"
    refine ifEqN ?_
    have ho7 := SqL.of (K := K) (s7 _ _ ho)
    rcases hv with ⟨eh, rfl⟩ | ⟨eh, M, rfl, hM⟩
    · walk_at "go"
      rw [show decide (V.str (clS S c.n c.a c.os) = V.str "hangs") = decide (V.non = V.non) from by rw [str_dec, decide_eq_true eh, decide_eq_true rfl]]
      refine ifEqN ?_
      walk_at "go"
      refine ⟨.inl ho7, fun l8 hl8 => ?_⟩
      have s8 := Zm hl8 (.lst (c.os.map V.str))
      have h8 : upd H7 l8 (.lst (c.os.map V.str)) l8 = some (.lst (c.os.map V.str)) := Zc
      generalize upd H7 l8 (.lst (c.os.map V.str)) = H8 at *
      have W8 := (W6.same s7).same s8
      have hS8 := SqL.of (K := K) h8
      walk_at "go"
      intro l9 H9 s9 f9 h9
      have s69 := (s7.trans s8).trans s9
      walk_at "go"
      intro p hp
      have sp := Zm hp (.tup [.str (clS S c.n c.a c.os), .non, .ref l9])
      have fl9 : H6 l9 = none := (s7.trans s8).free f9
      have wc : Wc S c (clS S c.n c.a c.os) .non (XQ S c.n c.a c.os) := ⟨rfl, rfl, .inl ⟨eh, rfl⟩⟩
      refine ⟨i, ⟨clS S c.n c.a c.os, .non, XQ S c.n c.a c.os, p, l9⟩, td, _, _, _, _, _, _, rfl, Zc, sp _ _ h9, (fun z => by have z' : l9 = lt := z; rw [z', T6.lst] at fl9; cases fl9), T6.same (s69.trans sp), hi, h90, clS_three _ _ _ _, ?_, (fun y hy => kidsOf_ok wf (seatL_sub hy)), (fun t' ht' => (hq t' ht').imp id fun z => z.uniq wc), fun H' td' k' T' hor => fin _ ⟨clS S c.n c.a c.os, .non, XQ S c.n c.a c.os, p, l9⟩ H' td' (s69.trans sp) (s69.free hp) fl9 wc k' T' hor⟩
      exact .inl rfl
    · walk_at "go"
      rw [show decide (V.str (clS S c.n c.a c.os) = V.str "hangs") = decide (V.int M = V.non) from by rw [str_dec, decide_eq_false eh, decide_eq_false (fun z => by cases z)]]
      refine ifEqN ?_
      walk_at "go"
      refine ⟨.inl ho7, fun l8 hl8 => ?_⟩
      have s8 := Zm hl8 (.lst (c.os.map V.str))
      have h8 : upd H7 l8 (.lst (c.os.map V.str)) l8 = some (.lst (c.os.map V.str)) := Zc
      generalize upd H7 l8 (.lst (c.os.map V.str)) = H8 at *
      have W8 := (W6.same s7).same s8
      have hS8 := SqL.of (K := K) h8
      walk_at "go"
      intro l9 H9 s9 f9 h9
      have s69 := (s7.trans s8).trans s9
      walk_at "go"
      intro p hp
      have sp := Zm hp (.tup [.str (clS S c.n c.a c.os), .int M, .ref l9])
      have fl9 : H6 l9 = none := (s7.trans s8).free f9
      have wc : Wc S c (clS S c.n c.a c.os) (.int M) (XQ S c.n c.a c.os) := ⟨rfl, rfl, .inr ⟨eh, M, rfl, hM⟩⟩
      refine ⟨i, ⟨clS S c.n c.a c.os, .int M, XQ S c.n c.a c.os, p, l9⟩, td, _, _, _, _, _, _, rfl, Zc, sp _ _ h9, (fun z => by have z' : l9 = lt := z; rw [z', T6.lst] at fl9; cases fl9), T6.same (s69.trans sp), hi, h90, clS_three _ _ _ _, ?_, (fun y hy => kidsOf_ok wf (seatL_sub hy)), (fun t' ht' => (hq t' ht').imp id fun z => z.uniq wc), fun H' td' k' T' hor => fin _ ⟨clS S c.n c.a c.os, .int M, XQ S c.n c.a c.os, p, l9⟩ H' td' (s69.trans sp) (s69.free hp) fl9 wc k' T' hor⟩
      exact .inr ⟨M, rfl⟩
  refine ⟨_, (
(@Ze _ _ _ _ _ (@JW _ _ _ _ _ _ _ _ PassesOwn.never rfl (@pi_enum _ _ _ _ _ _ _ _ rfl T.z_enumerate (@Za _ _ _ _ _ (@qv _ 2 _ _ (by walk_at "w")) (@Zd _) (by rfl)) (by rfl)) (@pg_tup _ _ _ _ _ _ rfl (@Z2 _ _ _ _ _ (@ZP _ _ (4) _ Yl.nd rfl (Or.inl rfl) (by walk_at "u")) (@Z2 _ _ _ _ _ (@pg_tup _ _ _ _ _ _ rfl (@Z2 _ _ _ _ _ (@ZP _ _ (5) _ Yl.nd rfl (Or.inl rfl) (by walk_at "u")) (@Z2 _ _ _ _ _ (@ZP _ _ (6) _ Yl.nd rfl (Or.inl rfl) (by walk_at "u")) (@Z2 _ _ _ _ _ (@ZP _ _ (7) _ Yl.nd rfl (Or.inl rfl) (by walk_at "u")) (@pgs_nil _) (by rfl)) (by rfl)) (by rfl)) (by rfl) (by rfl)) (@pgs_nil _) (by rfl)) (by rfl)) (by rfl) (by rfl)) (@Ze _ _ _ _ _ (@Zu _ _ (8) _ _ _ _ Yl.nd rfl (Or.inl rfl) (@Yx _ _ _ _ _ _ _ _ _ (show Jw _ (.type "list") (rListS K) from (@call_listS _)) rfl T.z_list PyProof.Rows.boot_list (@Za _ _ _ _ _ (@qv _ 7 _ _ (by walk_at "w")) (@Zd _) (by rfl)) (by decide) (by decide) (by rfl) (by rfl)) (by rfl) (by walk_at "u")) (@Ze _ _ _ _ _ (@Zu _ _ (9) _ _ _ _ Yl.nd rfl (Or.inl rfl) (@Zy _ _ _ _ _ _ _ _ _ _ D_class_stand (hr.mono (by decide)) (@Za _ _ _ _ _ (@qv _ 0 _ _ (by walk_at "w")) (@Za _ _ _ _ _ (@qv _ 5 _ _ (by walk_at "w")) (@Za _ _ _ _ _ (@qv _ 6 _ _ (by walk_at "w")) (@Za _ _ _ _ _ (@qv _ 8 _ _ (by walk_at "w")) (@Zd _) (by rfl)) (by rfl)) (by rfl)) (by rfl)) (by rfl) (by decide) (by rfl) (by rfl)) (by rfl) (by walk_at "u")) (@Ze _ _ _ _ _ (@Zu _ _ (10) _ _ _ _ Yl.nd rfl (Or.inl rfl) (@Zy _ _ _ _ _ _ _ _ _ _ D_class_since (hr.mono (by decide)) (@Za _ _ _ _ _ (@qv _ 0 _ _ (by walk_at "w")) (@Za _ _ _ _ _ (@qv _ 5 _ _ (by walk_at "w")) (@Za _ _ _ _ _ (@qv _ 6 _ _ (by walk_at "w")) (@Za _ _ _ _ _ (@qv _ 8 _ _ (by walk_at "w")) (@Za _ _ _ _ _ (@Zh _ _ _ _) (@Zd _) (by rfl)) (by rfl)) (by rfl)) (by rfl)) (by rfl)) (by rfl) (by decide) (by rfl) (by rfl)) (by rfl) (by walk_at "u")) @rest3))) (by intro _ ; rfl)) (@Zf _ _ _ (@Zk _ _ _ _ (@pe_bl _ _ _ _))))), ?_⟩
  refine ⟨_, rfl, lm, rfl, ⟨_, SqL.of A0.lst⟩, for_enum (xs := qs.map fun q => V.ref q.1) (fun i σ H2 => ∃ (v4 v5 v6 v7 v8 v9 v10 v11 : Option V) (td : List Td), σ = [some (.ref w), some (.ref m), some (.ref lm), some (.ref lt), v4, v5, v6, v7, v8, v9, v10, v11] ∧ ZD [lt] H H2 ∧ ToldAt H2 lt td ∧ (∀ x ∈ trg lt td, x ∈ trg lt td0 ∨ H x = none) ∧ i ≤ td.length ∧ td.length ≤ cs.length ∧ (∀ (k : Nat) (t : Td) (c : Cl), k < i → td[k]? = some t → cs[k]? = some c → Wc S c t.s t.v t.ss) ∧ (∀ (k : Nat), i ≤ k → td[k]? = td0[k]?)) ⟨_, _, _, _, _, _, _, _, td0, rfl, ZD.refl _ _, T0, (fun x h => .inl h), Nat.zero_le _, htl, (fun k t c h => absurd h (Nat.not_lt_zero k)), fun k _ => rfl⟩ ?_ ?_ ?_⟩
  · rintro i σ H2 _ ⟨v4, v5, v6, v7, v8, v9, v10, v11, td, rfl, k2, _⟩
    exact SqL.of (k2.1 _ _ (fun z => ltA (by rw [← List.mem_singleton.mp z]; simp [rgn])) A0.lst)
  · rintro i x σ H2 Tt hx ⟨v4, v5, v6, v7, v8, v9, v10, v11, td, rfl, k2, T2, fr, h1, h2, h3, h4⟩ hTt
    have sT := Zm hTt (.tup [V.int i, x])
    have W3 := (W.keep k2 (fun a ha hb => ltR (by rw [← List.mem_singleton.mp hb]; exact ha))).same sT
    have M3 := (M.keep k2 (fun a ha hb => ltM (by rw [← List.mem_singleton.mp hb]; exact ha))).same sT
    have A3 := (A0.keep k2 (fun a ha hb => ltA (by rw [← List.mem_singleton.mp hb]; exact ha))).same sT
    obtain ⟨q1, c, rfl, hq1, hc, htup, hlst⟩ := A3.get hx
    have okc := hok c (List.mem_of_getElem? hc)
    obtain ⟨on, a0, a1, oss, ol⟩ := okc
    have T3 := T2.same sT
    have k3 : ZD [lt] H (upd H2 Tt (.tup [V.int i, V.ref q1.1])) := k2.same sT
    refine ⟨Tt, _, rfl, SqT.of Zc, rfl, _, _, rfl, _, _, rfl, ?_⟩
    generalize upd H2 Tt (.tup [V.int i, V.ref q1.1]) = H3 at *
    have htup' : H3 q1.1 = some (.tup [.str c.n, .int c.a, .ref q1.2]) := htup
    walk_at "go"
    intro gv hgv
    have s4 := Zm hgv (.lst (c.os.map V.str))
    have hg4 : upd H3 gv (.lst (c.os.map V.str)) gv = some (.lst (c.os.map V.str)) := Zc
    generalize upd H3 gv (.lst (c.os.map V.str)) = H4 at *
    have W4 := W3.same s4
    have hgS := SqL.of (K := K) hg4
    have pn := on.1
    walk_at "go"
    intro H5 s5
    have W5 := W4.same s5
    have hgS5 := s5.seq hgS
    walk_at "go"
    refine ⟨fun eh H6 s6 => ?_, fun Mx H6 hM s6 => ?_⟩
    · have s36 := (s4.trans s5).trans s6
      refine ⟨i, c, q1.2, gv, .non, td, v11, rfl, W3.same s36, M3.same s36, s36 _ _ hlst, (s5.trans s6) _ _ hg4, ⟨on, a0, a1, oss, ol⟩, .inl ⟨eh, rfl⟩, T3.same s36, h1, by omega, (fun t' e => by rw [h4 i (Nat.le_refl _)] at e; exact hgood i t' c e hc), fun H7 t H' td' s67 fp fl wc k' T' hor => ?_⟩
      have s37 := s36.trans s67
      have len' : td'.length = if i < td.length then td.length else td.length + 1 := by
        rcases hor with ⟨a, rfl⟩ | ⟨a, rfl⟩
        · rw [if_pos a, List.length_set]
        · rw [if_neg (by omega), List.length_append, List.length_singleton]
      have hic : i < cs.length := (List.getElem?_eq_some_iff.mp hc).1
      refine ⟨_, _, _, _, _, _, _, _, td', rfl, (k3.same s37).tr k' (fun x hx => .inl hx), T', (fun x hx => ?_), (by split at len' <;> omega), (by split at len' <;> omega), (fun k t2 c2 hk e1 e2 => ?_), fun k hk => ?_⟩
      · have sub : ∀ u ∈ td', u ∈ td ∨ u = t := fun u hu => by
          rcases hor with ⟨a, rfl⟩ | ⟨a, rfl⟩
          · exact List.mem_or_eq_of_mem_set hu
          · rcases List.mem_append.mp hu with h | h
            · exact .inl h
            · exact .inr (List.mem_singleton.mp h)
        rcases trg_of hx with rfl | ⟨u, hu, e⟩
        · exact .inl (by simp [trg])
        · rcases sub u hu with h | rfl
          · rcases e with rfl | rfl
            · exact fr _ (trg_p h)
            · exact fr _ (trg_l h)
          · rcases e with rfl | rfl
            · exact .inr (k3.2 _ (s36.free fp))
            · exact .inr (k3.2 _ (s36.free fl))
      · by_cases ck : k = i
        · subst ck
          rw [hc] at e2
          cases e2
          have : td'[k]? = some t := by
            rcases hor with ⟨a, rfl⟩ | ⟨a, rfl⟩
            · rw [List.getElem?_set_self a]
            · rw [a, List.getElem?_append_right (Nat.le_refl _), Nat.sub_self]; rfl
          rw [this] at e1
          cases e1
          exact wc
        · refine h3 k t2 c2 (by omega) ?_ e2
          rcases hor with ⟨a, rfl⟩ | ⟨a, rfl⟩
          · rw [List.getElem?_set_ne (Ne.symm ck)] at e1; exact e1
          · rw [List.getElem?_append_left (by omega)] at e1; exact e1
      · rw [← h4 k (by omega)]
        rcases hor with ⟨a, rfl⟩ | ⟨a, rfl⟩
        · rw [List.getElem?_set_ne (by omega)]
        · rw [List.getElem?_eq_none (by rw [List.length_append, List.length_singleton]; omega), List.getElem?_eq_none (by omega)]
    · have s36 := (s4.trans s5).trans s6
      refine ⟨i, c, q1.2, gv, .int Mx, td, v11, rfl, W3.same s36, M3.same s36, s36 _ _ hlst, (s5.trans s6) _ _ hg4, ⟨on, a0, a1, oss, ol⟩, .inr ⟨hM.1, Mx, rfl, hM⟩, T3.same s36, h1, by omega, (fun t' e => by rw [h4 i (Nat.le_refl _)] at e; exact hgood i t' c e hc), fun H7 t H' td' s67 fp fl wc k' T' hor => ?_⟩
      have s37 := s36.trans s67
      have len' : td'.length = if i < td.length then td.length else td.length + 1 := by
        rcases hor with ⟨a, rfl⟩ | ⟨a, rfl⟩
        · rw [if_pos a, List.length_set]
        · rw [if_neg (by omega), List.length_append, List.length_singleton]
      have hic : i < cs.length := (List.getElem?_eq_some_iff.mp hc).1
      refine ⟨_, _, _, _, _, _, _, _, td', rfl, (k3.same s37).tr k' (fun x hx => .inl hx), T', (fun x hx => ?_), (by split at len' <;> omega), (by split at len' <;> omega), (fun k t2 c2 hk e1 e2 => ?_), fun k hk => ?_⟩
      · have sub : ∀ u ∈ td', u ∈ td ∨ u = t := fun u hu => by
          rcases hor with ⟨a, rfl⟩ | ⟨a, rfl⟩
          · exact List.mem_or_eq_of_mem_set hu
          · rcases List.mem_append.mp hu with h | h
            · exact .inl h
            · exact .inr (List.mem_singleton.mp h)
        rcases trg_of hx with rfl | ⟨u, hu, e⟩
        · exact .inl (by simp [trg])
        · rcases sub u hu with h | rfl
          · rcases e with rfl | rfl
            · exact fr _ (trg_p h)
            · exact fr _ (trg_l h)
          · rcases e with rfl | rfl
            · exact .inr (k3.2 _ (s36.free fp))
            · exact .inr (k3.2 _ (s36.free fl))
      · by_cases ck : k = i
        · subst ck
          rw [hc] at e2
          cases e2
          have : td'[k]? = some t := by
            rcases hor with ⟨a, rfl⟩ | ⟨a, rfl⟩
            · rw [List.getElem?_set_self a]
            · rw [a, List.getElem?_append_right (Nat.le_refl _), Nat.sub_self]; rfl
          rw [this] at e1
          cases e1
          exact wc
        · refine h3 k t2 c2 (by omega) ?_ e2
          rcases hor with ⟨a, rfl⟩ | ⟨a, rfl⟩
          · rw [List.getElem?_set_ne (Ne.symm ck)] at e1; exact e1
          · rw [List.getElem?_append_left (by omega)] at e1; exact e1
      · rw [← h4 k (by omega)]
        rcases hor with ⟨a, rfl⟩ | ⟨a, rfl⟩
        · rw [List.getElem?_set_ne (by omega)]
        · rw [List.getElem?_eq_none (by rw [List.length_append, List.length_singleton]; omega), List.getElem?_eq_none (by omega)]
  · rintro σ H2 ⟨v4, v5, v6, v7, v8, v9, v10, v11, td, rfl, k2, T2, fr, h1, h2, h3, h4⟩
    rw [List.length_map, A0.len] at h1
    exact q td H2 k2 T2 fr (by omega) (fun k t c e1 e2 => h3 k t c (by rw [List.length_map, A0.len]; exact (List.getElem?_eq_some_iff.mp e2).1) e1 e2)
theorem ok_law_last {f : Addr} {fd : FuncData} (F : Fun K "_law_last" "_law_last" X7 f fd) (T : Txt K g mg) (D_law_kids : Dn P w0 K mg base 1 "_law_kids" ["_law_model_here", "_law_name"] (Xt K g)) : FnOk P w0 K mg base CX0 2 f fd ["_law_model_here", "_law_made_here"] (sp_law_last K g) := by
  refine F.ok Xu (fun vs H Q E h => ?_) (fun cdv A outer s H vs Q E hr h => ?_)
  · obtain ⟨m, S, R, lm, cs, qs, rfl, _⟩ := h
    rfl
  obtain ⟨m, S, R, lm, cs, qs, rfl, M, wf, hlen, A0, hok, hcs, q⟩ := h
  refine ⟨_, (
(@Ze _ _ _ _ _ (@Zu _ _ (2) _ _ _ _ Xu.nd rfl (Or.inl rfl) (@Xr _ _ _ _ (@Zd _)) (by rfl) (by walk_at "u")) (@Ze _ _ _ _ _ (@JW _ _ _ _ _ _ _ _ PassesOwn.never rfl (@YB _ _ _ _ (@qv _ 1 _ _ (by walk_at "w"))) (@pg_tup _ _ _ _ _ _ rfl (@Z2 _ _ _ _ _ (@ZP _ _ (3) _ Xu.nd rfl (Or.inl rfl) (by walk_at "u")) (@Z2 _ _ _ _ _ (@ZP _ _ (4) _ Xu.nd rfl (Or.inl rfl) (by walk_at "u")) (@Z2 _ _ _ _ _ (@ZP _ _ (5) _ Xu.nd rfl (Or.inl rfl) (by walk_at "u")) (@pgs_nil _) (by rfl)) (by rfl)) (by rfl)) (by rfl) (by rfl)) (@Zf _ _ _ (@JW _ _ _ _ _ _ _ _ PassesOwn.never rfl (@YB _ _ _ _ (@Zs _ _ _ _ _ _ _ _ (@op_cat _) (@Xr _ _ _ _ (@Za _ _ _ _ _ (@qv _ 3 _ _ (by walk_at "w")) (@Zd _) (by rfl))) (@Zy _ _ _ _ _ _ _ _ _ _ D_law_kids (hr.mono (by decide)) (@Za _ _ _ _ _ (@qv _ 0 _ _ (by walk_at "w")) (@Za _ _ _ _ _ (@qv _ 3 _ _ (by walk_at "w")) (@Zd _) (by rfl)) (by rfl)) (by rfl) (by decide) (by rfl) (by rfl)))) (@ZP _ _ (6) _ Xu.nd rfl (Or.inl rfl) (by walk_at "u")) (@Zf _ _ _ (@ZA _ _ _ _ _ _ _ _ (@PW.pt _ _ _ (@JV _ _ _ _ _ _ _ (@XS _ _ _ _ _ _ (@pc_din _ _ _ _ _ (ZW hr) (@qv _ 6 _ _ (by walk_at "w")) (@Zt _ _ _ _ _ _ _ (@Zv _) (@qv _ 0 _ _ (by walk_at "w")) (@Zh _ _ _ _) (fun _ _ => rfl))) (by walk_at "n")) (@JV _ _ _ _ _ _ _ (@XS _ _ _ _ _ _ (@Yy _ _ _ _ _ (ZW hr) (@qv _ 6 _ _ (by walk_at "w")) (@Zt _ _ _ _ _ _ _ (@Zv _) (@qv _ 0 _ _ (by walk_at "w")) (@Zh _ _ _ _) (fun _ _ => rfl))) (by walk_at "n")) (@J4 _ _ _ _ (@Zl _ _ _ _ _ _ _ _ (@op_notInD _ hr.units) (@Xq _ _ _ _ _ (@Za _ _ _ _ _ (@Zn _ _ _ _) (@Za _ _ _ _ _ (@qv _ 6 _ _ (by walk_at "w")) (@Zd _) (by rfl)) (by rfl))) (@qv _ 2 _ _ (by walk_at "w")) rfl))))) (@Zf _ _ _ (@ZG _ _ _ _ (@JX _ _ _ _ _ _ _ _ _ _ _ _ PySem.F.plainAttrs_list PySem.F.slot_list_append PySem.F.type_list_append (@XF _) (@qv _ 2 _ _ (by walk_at "w")) (@Za _ _ _ _ _ (@Xq _ _ _ _ _ (@Za _ _ _ _ _ (@Zn _ _ _ _) (@Za _ _ _ _ _ (@qv _ 6 _ _ (by walk_at "w")) (@Zd _) (by rfl)) (by rfl))) (@Zd _) (by rfl)) (by rfl) (by rfl) (by rfl) (by rfl) (by rfl)) (by rfl))) (@Zp _))) (by intro _ ; rfl))) (by intro _ ; rfl)) (@Zf _ _ _ (@Zk _ _ _ _ (@Zs _ _ _ _ _ _ _ _ (@op_cat _) (@qv _ 2 _ _ (by walk_at "w")) (@Xr _ _ _ _ (@Za _ _ _ _ _ (@Xq _ _ _ _ _ (@Za _ _ _ _ _ (@Zn _ _ _ _) (@Za _ _ _ _ _ (@Zh _ _ _ _) (@Zd _) (by rfl)) (by rfl))) (@Za _ _ _ _ _ (@Xq _ _ _ _ _ (@Za _ _ _ _ _ (@Zn _ _ _ _) (@Za _ _ _ _ _ (@Zh _ _ _ _) (@Zd _) (by rfl)) (by rfl))) (@Zd _) (by rfl)) (by rfl))))))))), ?_⟩
  walk_at "go"
  intro D hD
  have sD := Zm hD (.lst [])
  have hDl : upd H D (.lst []) D = some (.lst []) := Zc
  have DD0 : DeedsAt (upd H D (.lst [])) D (([] : List Str).map Deed.death) [] := ⟨Zc, rfl, fun i p d h => by simp at h⟩
  have M1 := M.same sD
  have A1 := A0.same sD
  have nDM : D ∉ R := fun z => by obtain ⟨o, e⟩ := M.live D z; rw [hD] at e; cases e
  have nDA : D ∉ rgn lm qs := fun z => by obtain ⟨o, e⟩ := A0.live D z; rw [hD] at e; cases e
  generalize upd H D (.lst []) = HA at *
  have fewL : ∀ dl : List Str, dl.Nodup → (∀ n ∈ dl, has S.bs n = true ∧ has S.ds n = false) → dl.length ≤ 98 := fun dl h1 h2 => by
    have := nod_len (l := dl) (m := S.bs.map (·.1)) h1 (fun x hx => (JD _ _).mp (h2 x hx).1)
    rw [List.length_map] at this
    omega
  walk_at "go"
  refine ⟨⟨_, SqL.of A1.lst⟩, for_list (xs := qs.map fun q => V.ref q.1) (fun i σ H2 => ∃ (dl : List Str) (ps : List Addr) (v3 v4 v5 v6 : Option V), σ = [some (.ref m), some (.ref lm), some (.ref D), v3, v4, v5, v6] ∧ ZD [D] HA H2 ∧ DeedsAt H2 D (dl.map Deed.death) ps ∧ (∀ a ∈ ps, HA a = none) ∧ (dl.Nodup ∧ ∀ n ∈ dl, has S.bs n = true ∧ has S.ds n = false)) ⟨[], [], _, _, _, _, rfl, ZD.refl _ _, DD0, (fun _ h => nomatch h), List.nodup_nil, fun _ h => nomatch h⟩ ?_ ?_ ?_⟩
  · rintro i σ H2 _ ⟨dl, ps, v3, v4, v5, v6, rfl, k2, _⟩
    exact SqL.of (A1.keep k2 (fun a ha hb => nDA (by rw [← List.mem_singleton.mp hb]; exact ha))).lst
  · rintro i x σ H2 hx ⟨dl, ps, v3, v4, v5, v6, rfl, k2, DD, fr, nd, hal⟩
    have M2 := M1.keep k2 (fun a ha hb => nDM (by rw [← List.mem_singleton.mp hb]; exact ha))
    have A2 := A1.keep k2 (fun a ha hb => nDA (by rw [← List.mem_singleton.mp hb]; exact ha))
    obtain ⟨q1, c, rfl, hq1, hc, htup, hlst⟩ := A2.get hx
    have htup' : H2 q1.1 = some (.tup [.str c.n, .int c.a, .ref q1.2]) := htup
    obtain ⟨on, a0, a1, oss, ol⟩ := hok c (List.mem_of_getElem? hc)
    walk_at "go"
    intro l3 hl3
    have s3 := Zm hl3 (.lst [V.str c.n])
    have h3 : upd H2 l3 (.lst [V.str c.n]) l3 = some (.lst [V.str c.n]) := Zc
    generalize upd H2 l3 (.lst [V.str c.n]) = H3 at *
    have nl := Je on.1
    have fk := wf.few c.n
    have kl := Ja wf c.n
    refine ⟨_, rfl, _, rfl, m, S, R, c.n, rfl, M2.same s3, wf, by omega, by omega, fun l4 H4 s4 f4 h4 => ?_⟩
    have h4' : H4 l4 = some (.lst ((ZQ S c.n).map V.str)) := by rw [h4, kidVL]; rfl
    refine ⟨l3, l4, _, _, rfl, rfl, s4 _ _ h3, h4', ZM (by rw [List.length_map]; show 1 + _ ≤ 500; omega), fun l5 hl5 => ?_⟩
    have s5 := Zm hl5 (.lst ([V.str c.n] ++ (ZQ S c.n).map V.str))
    have h5 : upd H4 l5 (.lst ([V.str c.n] ++ (ZQ S c.n).map V.str)) l5 = some (.lst ((c.n :: ZQ S c.n).map V.str)) := Zc
    generalize upd H4 l5 (.lst ([V.str c.n] ++ (ZQ S c.n).map V.str)) = H5 at *
    have s25 := (s3.trans s4).trans s5
    have nlD : l5 ≠ D := fun z => by
      have e := (s3.trans s4) _ _ DD.lst
      rw [← z, hl5] at e
      cases e
    refine ⟨l5, rfl, ⟨_, SqL.of h5⟩, for_list (xs := (c.n :: ZQ S c.n).map V.str) (fun j σ H6 => ∃ (dl : List Str) (ps : List Addr) (v6 : Option V), σ = [some (.ref m), some (.ref lm), some (.ref D), some (.str c.n), some (.int c.a), some (.ref q1.2), v6] ∧ ZD [D] H5 H6 ∧ DeedsAt H6 D (dl.map Deed.death) ps ∧ (∀ a ∈ ps, HA a = none) ∧ (dl.Nodup ∧ ∀ n ∈ dl, has S.bs n = true ∧ has S.ds n = false)) ⟨dl, ps, _, rfl, ZD.refl _ _, DD.same s25, fr, nd, hal⟩ ?_ ?_ ?_⟩
    · rintro j σ H6 _ ⟨dl, ps, v6, rfl, k6, _⟩
      exact SqL.of (k6.1 _ _ (fun z => nlD (List.mem_singleton.mp z)) h5)
    · rintro j y σ H6 hy ⟨dl, ps, v6, rfl, k6, D6, fr6, nd6, hal6⟩
      obtain ⟨o1, rfl, ho1⟩ : ∃ o1 : Str, y = .str o1 ∧ PyData.strOk o1 = true := by
        obtain ⟨z, hz, e⟩ := List.mem_map.mp (List.mem_of_getElem? hy)
        refine ⟨z, e.symm, ?_⟩
        rcases List.mem_cons.mp hz with rfl | hz
        · exact pok_ok on.1
        · exact kidsOf_ok wf hz
      have kA : ZD [D] HA H6 := (k2.same s25).tr k6 (fun x hx => .inl hx)
      have M6 := M1.keep kA (fun a ha hb => nDM (by rw [← List.mem_singleton.mp hb]; exact ha))
      obtain ⟨cc, e1, e2, e3, B⟩ := M6.tup_of
      refine ⟨_, rfl, _, rfl, m, _, _, _, rfl, rfl, SqT.of B.tup, rfl, e1, _, rfl, Yp.k (k := Sum.inr o1) B.h1, _, rfl, ?_⟩
      rw [ZR]
      cases hk : has S.bs o1 with
      | false => exact Yf (Yf ⟨dl, ps, _, rfl, k6, D6, fr6, nd6, hal6⟩)
      | true =>
        refine YY ?_
        refine ⟨_, rfl, _, rfl, m, _, _, _, rfl, rfl, SqT.of B.tup, rfl, e2, _, rfl, Yp.k (k := Sum.inr o1) B.h2, _, rfl, ?_⟩
        rw [ZR]
        cases hd : has S.ds o1 with
        | true => exact Yf (Yf ⟨dl, ps, _, rfl, k6, D6, fr6, nd6, hal6⟩)
        | false =>
          refine YY ?_
          walk_at "go"
          intro p7 hp7
          have s7 := Zm hp7 (.tup [V.str "death", V.str o1])
          have h7 : upd H6 p7 (.tup [V.str "death", V.str o1]) p7 = some (.tup (Deed.vals (.death o1))) := Zc
          have D7 := D6.same s7
          have lay := lay_dea (n := o1) ho1
          refine ⟨_, rfl, dl.map deaD, deaD o1, rds_deas D7, rds_dea h7, lay_deas (fun n hn => wf.ok (hal6 n hn).1), lay.1, lay.2, _, rfl, ?_⟩
          rw [any_deas]
          by_cases cin : o1 ∈ dl
          · rw [decide_eq_true cin]
            exact Yf ⟨dl, ps, _, rfl, k6.same s7, D7, fr6, nd6, hal6⟩
          · rw [decide_eq_false cin]
            refine YY ?_
            have few := fewL dl nd6 hal6
            have pl := D7.len
            rw [List.length_map] at pl
            have lS : (ps.map V.ref).length < sizeLine := ZB (by rw [List.length_map]; omega)
            have hDl7 := D7.lst
            generalize upd H6 p7 (.tup [V.str "death", V.str o1]) = H7 at *
            refine ⟨_, rfl, .inl ⟨rfl, _, SqL.of D7.lst⟩, ?_⟩
            walk_at "go"
            intro p8 hp8
            have s8 := Zm hp8 (.tup [V.str "death", V.str o1])
            have h8 : upd H7 p8 (.tup [V.str "death", V.str o1]) p8 = some (.tup (Deed.vals (.death o1))) := Zc
            have D8 := D7.same s8
            have hDl8 := D8.lst
            have fp8 : HA p8 = none := (kA.same s7).2 p8 hp8
            have D9 := D7.push (d := .death o1) s8 h8
            have k9 : ZD [D] H5 (upd (upd H7 p8 (.tup [V.str "death", V.str o1])) D (.lst (ps.map V.ref ++ [V.ref p8]))) := ((k6.same s7).same s8).tr YG (fun x hx => .inl hx)
            refine ⟨D, _, _, rfl, rfl, hDl8, lS, ⟨dl ++ [o1], ps ++ [p8], _, rfl, k9, by rw [List.map_append]; exact D9, ?_, ?_, ?_⟩⟩
            · intro x hx
              rcases List.mem_append.mp hx with hx | hx
              · exact fr6 x hx
              · rw [List.mem_singleton.mp hx]; exact fp8
            · exact List.nodup_append.mpr ⟨nd6, by simp, fun x hx y hy => by rw [List.mem_singleton.mp hy]; exact fun e => cin (e ▸ hx)⟩
            · intro x hx
              rcases List.mem_append.mp hx with hx | hx
              · exact hal6 x hx
              · rw [List.mem_singleton.mp hx]; exact ⟨hk, hd⟩
    · rintro σ H6 ⟨dl, ps, v6, rfl, k6, D6, fr6, nd6, hal6⟩
      exact ⟨dl, ps, _, _, _, _, rfl, (k2.same s25).tr k6 (fun x hx => .inl hx), D6, fr6, nd6, hal6⟩
  · rintro σ H2 ⟨dl, ps, v3, v4, v5, v6, rfl, k2, DD, fr, nd, hal⟩
    walk_at "go"
    intro p3 hp3
    have s3 := Zm hp3 (.tup [V.str "years", V.int 60])
    have h3 : upd H2 p3 (.tup [V.str "years", V.int 60]) p3 = some (.tup (Deed.vals (.years 60))) := Zc
    generalize upd H2 p3 (.tup [V.str "years", V.int 60]) = H3 at *
    walk_at "go"
    intro p4 hp4
    have s4 := Zm hp4 (.tup [V.str "years", V.int 60])
    have h4 : upd H3 p4 (.tup [V.str "years", V.int 60]) p4 = some (.tup (Deed.vals (.years 60))) := Zc
    generalize upd H3 p4 (.tup [V.str "years", V.int 60]) = H4 at *
    walk_at "go"
    intro l5 hl5
    have s5 := Zm hl5 (.lst [V.ref p3, V.ref p4])
    have h5 : upd H4 l5 (.lst [V.ref p3, V.ref p4]) l5 = some (.lst [V.ref p3, V.ref p4]) := Zc
    generalize upd H4 l5 (.lst [V.ref p3, V.ref p4]) = H5 at *
    have s25 := (s3.trans s4).trans s5
    have D5 := DD.same s25
    have few := fewL dl nd hal
    have pl := D5.len
    rw [List.length_map] at pl
    refine ⟨D, l5, _, _, rfl, rfl, D5.lst, h5, ZM (by rw [List.length_map]; show ps.length + 2 ≤ 500; omega), fun l6 hl6 => ?_⟩
    have s6 := Zm hl6 (.lst (ps.map V.ref ++ [V.ref p3, V.ref p4]))
    have kA : ZD [D] HA (upd H5 l6 (.lst (ps.map V.ref ++ [V.ref p3, V.ref p4]))) := (k2.same s25).same s6
    have sH : Zo H (upd H5 l6 (.lst (ps.map V.ref ++ [V.ref p3, V.ref p4]))) := fun x o e => kA.1 x o (fun z => by rw [List.mem_singleton.mp z, hD] at e; cases e) (sD x o e)
    have D6 : DeedsAt (upd H5 l6 (.lst (ps.map V.ref ++ [V.ref p3, V.ref p4]))) l6 (dl.map Deed.death ++ [.years 60, .years 60]) (ps ++ [p3, p4]) := by
      refine ⟨by rw [Zc, List.map_append]; rfl, by rw [List.length_append, List.length_append, List.length_map, pl]; rfl, fun i p d e1 e2 => s6 _ _ ?_⟩
      by_cases ci : i < ps.length
      · rw [List.getElem?_append_left ci] at e1
        rw [List.getElem?_append_left (by rw [List.length_map]; omega)] at e2
        exact D5.at_ i p d e1 e2
      · rw [List.getElem?_append_right (by omega)] at e1
        rw [List.getElem?_append_right (by rw [List.length_map]; omega), List.length_map, ← pl] at e2
        rcases Nat.lt_or_ge (i - ps.length) 1 with z | z
        · rw [show i - ps.length = 0 by omega] at e1 e2
          cases e1; cases e2
          exact (s4.trans s5) _ _ h3
        · rcases Nat.lt_or_ge (i - ps.length) 2 with z2 | z2
          · rw [show i - ps.length = 1 by omega] at e1 e2
            cases e1; cases e2
            exact s5 _ _ h4
          · rw [List.getElem?_eq_none (by simpa using z2)] at e1; cases e1
    refine q l6 dl (ps ++ [p3, p4]) _ sH (fun x hx => ?_) ⟨nd, hal⟩ D6
    rcases List.mem_cons.mp hx with rfl | hx
    · exact sD.free (k2.2 _ (s25.free hl6))
    · rcases List.mem_append.mp hx with hx | hx
      · exact sD.free (fr x hx)
      · rcases List.mem_cons.mp hx with rfl | hx
        · exact sD.free (k2.2 _ hp3)
        · rw [List.mem_singleton.mp hx]; exact sD.free (k2.2 _ (s3.free hp4))
theorem ok_law {f : Addr} {fd : FuncData} (F : Fun K "law" "law" Jk f fd) (T : Txt K g mg) (D_law_rich : Dn P w0 K mg base 1 "_law_rich" ["_law_cell", "_law_place"] (sp_law_rich K g)) (D_law_model : Dn P w0 K mg base 1 "_law_model" ["_law_year"] (sp_law_model K g)) (D_law_start : Dn P w0 K mg base 2 "_law_start" ["_law_n"] (sp_law_start K g)) (D_law_last : Dn P w0 K mg base 2 "_law_last" ["_law_model_here", "_law_made_here"] (sp_law_last K g)) (D_law_cell_at : Dn P w0 K mg base 1 "_law_cell_at" ["_law_script", "_law_k"] (JN K g)) (D_law_do : Dn P w0 K mg base 6 "_law_do" ["_law_world", "_law_deed"] (sp_law_do K g)) (D_law_play : Dn P w0 K mg base 2 "_law_play" ["_law_model_here", "_law_deed"] (sp_law_play K g)) (D_law_next_deed : Dn P w0 K mg base 2 "_law_next_deed" ["_law_model_here", "_law_n", "_law_far"] (XY K g)) (D_law_fits : Dn P w0 K mg base 10 "_law_fits" ["_law_world", "_law_model_here", "_law_made_here", "_law_told"] (sp_law_fits K g)) (D_law_made : Dn P w0 K mg base 2 "_law_made" ["_law_model_here", "_law_n"] (sp_law_made K g)) (K_World : Dk P w0 K mg base (CXR P w0 base) g.World 3 "World" ["self", "year"] (XJ K g)) : FnOk P w0 K mg base CX0 11 f fd ["_law_script"] (sp_law K g) := by
  refine F.ok Jt (fun vs H Q E h => ?_) (fun cdv A outer s H vs Q E hr h => ?_)
  · obtain ⟨a, ns, rfl, _⟩ := h
    rfl
  obtain ⟨a, ns, rfl, hS, hlen, q⟩ := h
  have turn5 : PSs (Xn CX0 P w0 K mg base ["_law_script", "_law_made_here", "_law_told", "_law_n", "_law_model_here", "_law_world", "_law_deeds", "_law_k", "_law_m", "_law_deed"] "law" (Zb Jk) f cdv A outer s H E).nox ((forBody ((Zi Jk).getD 6 (.Pass ⟨0, 0, 0, 0⟩))).drop 5) (fun D σ H4 => ∃ (a m w l lm lt : Addr) (n kk mm : Int) (S2 : Mo) (R1 RM RX : List Addr) (xs : List Cl × List Td) (i : Nat) (p : Addr), σ = [some (.ref a), some (.ref lm), some (.ref lt), some (.int n), some (.ref m), some (.ref w), some (.ref l), some (.int kk), some (.int mm), some (.ref p)] ∧ WorldAt g H4 w S2 R1 ∧ YD H4 m S2 RM ∧ S2.bs.length ≤ 98 ∧ TX H4 lm lt S2 i xs RX ∧ i ≤ 95 ∧ Dj RX R1 ∧ Dj RX RM ∧ ∀ H' xs' RX', ZD RX H4 H' → Y5 H4 RX RX' → TX H' lm lt S2 i xs' RX' → ∀ v7 v8 v9, D.nx [some (.ref a), some (.ref lm), some (.ref lt), some (.int n), some (.ref m), some (.ref w), some (.ref l), v7, v8, v9] H') := by
    refine @Xf _ _ _ _ ((@Zf _ _ _ (@ZA _ _ _ _ _ _ _ _ (@pt_not _ _ _ _ (@Xj _ _ _ (@Zy _ _ _ _ _ _ _ _ _ _ D_law_fits (hr.mono (by decide)) (@Za _ _ _ _ _ (@qv _ 5 _ _ (by walk_at "w")) (@Za _ _ _ _ _ (@qv _ 4 _ _ (by walk_at "w")) (@Za _ _ _ _ _ (@qv _ 1 _ _ (by walk_at "w")) (@Za _ _ _ _ _ (@qv _ 2 _ _ (by walk_at "w")) (@Zd _) (by rfl)) (by rfl)) (by rfl)) (by rfl)) (by rfl) (by decide) (by rfl) (by rfl)) (by intro _ ; rfl))) (@Zf _ _ _ (@Zk _ _ _ _ (@pe_bl _ _ _ _))) (@Zp _)))) ?_
    rintro D σ H4 ⟨a, m, w, l, lm, lt, n, kk, mm, S2, R1, RM, RX, xs, i, p, rfl, W, M, hl98, E, hi, dER, dEM, fin⟩
    obtain ⟨qs, A, hR, n1, n2⟩ := E.ex
    have hI := E.few
    refine ⟨_, rfl, _, rfl, _, rfl, _, rfl, w, m, S2, R1, RM, lm, lt, xs.1, qs, xs.2, rfl, W, M, hl98, A, E.ok, by omega, E.td, dER lt (by rw [hR]; exact List.mem_append_right _ (by simp [trg])), dEM lt (by rw [hR]; exact List.mem_append_right _ (by simp [trg])), n1, E.le, E.good, fun td' H' k' T' fr' len' gd' => ?_⟩
    obtain ⟨E', K', G'⟩ := E.told A hR n1 n2 k' T' fr' len' gd'
  
    exact ⟨_, rfl, Yf (fin _ _ _ K' G' E' _ _ _)⟩
  have ifb : PSs (Xn CX0 P w0 K mg base ["_law_script", "_law_made_here", "_law_told", "_law_n", "_law_model_here", "_law_world", "_law_deeds", "_law_k", "_law_m", "_law_deed"] "law" (Zb Jk) f cdv A outer s H E).nox (forBody ((forBody ((Zi Jk).getD 6 (.Pass ⟨0, 0, 0, 0⟩))).getD 4 (.Pass ⟨0, 0, 0, 0⟩))) (fun D σ H2 => ∃ (a m w l lm lt : Addr) (n kk mm : Int) (S2 : Mo) (R1 RM RX : List Addr) (xs : List Cl × List Td) (b : Nat) (p : Addr), σ = [some (.ref a), some (.ref lm), some (.ref lt), some (.int n), some (.ref m), some (.ref w), some (.ref l), some (.int kk), some (.int mm), some (.ref p)] ∧ YD H2 m S2 RM ∧ Wf S2.bs S2.ds ∧ S2.bs.length ≤ 98 ∧ Root S2 ∧ TX H2 lm lt S2 b xs RX ∧ Dj RX RM ∧ xs.1.length + 2 ≤ 2 * b ∧ b ≤ 95 ∧ ∀ H' xs' RX', ZD RX H2 H' → Y5 H2 RX RX' → TX H' lm lt S2 b xs' RX' → D.nx [some (.ref a), some (.ref lm), some (.ref lt), some (.int n), some (.ref m), some (.ref w), some (.ref l), some (.int kk), some (.int mm), some (.ref p)] H') := by
    refine @Xf _ _ _ _ ((@Ze _ _ _ _ _ (@ZG _ _ _ _ (@JX _ _ _ _ _ _ _ _ _ _ _ _ PySem.F.plainAttrs_list PySem.F.slot_list_append PySem.F.type_list_append (@XF _) (@qv _ 1 _ _ (by walk_at "w")) (@Za _ _ _ _ _ (@Zy _ _ _ _ _ _ _ _ _ _ D_law_made (hr.mono (by decide)) (@Za _ _ _ _ _ (@qv _ 4 _ _ (by walk_at "w")) (@Za _ _ _ _ _ (@Zy _ _ _ _ _ _ _ _ _ _ D_law_rich (hr.mono (by decide)) (@Za _ _ _ _ _ (@Zs _ _ _ _ _ _ _ _ (@Yo _) (@qv _ 8 _ _ (by walk_at "w")) (@Zh _ _ _ _)) (@Za _ _ _ _ _ (@Zs _ _ _ _ _ _ _ _ (@Yz _) (@qv _ 7 _ _ (by walk_at "w")) (@Zh _ _ _ _)) (@Zd _) (by rfl)) (by rfl)) (by rfl) (by decide) (by rfl) (by rfl)) (@Zd _) (by rfl)) (by rfl)) (by rfl) (by decide) (by rfl) (by rfl)) (@Zd _) (by rfl)) (by rfl) (by rfl) (by rfl) (by rfl) (by rfl)) (by rfl)) (@Zf _ _ _ (@ZG _ _ _ _ (@JX _ _ _ _ _ _ _ _ _ _ _ _ PySem.F.plainAttrs_list PySem.F.slot_list_append PySem.F.type_list_append (@XF _) (@qv _ 1 _ _ (by walk_at "w")) (@Za _ _ _ _ _ (@Zy _ _ _ _ _ _ _ _ _ _ D_law_made (hr.mono (by decide)) (@Za _ _ _ _ _ (@qv _ 4 _ _ (by walk_at "w")) (@Za _ _ _ _ _ (@Zy _ _ _ _ _ _ _ _ _ _ D_law_rich (hr.mono (by decide)) (@Za _ _ _ _ _ (@Zs _ _ _ _ _ _ _ _ (@Yo _) (@qv _ 8 _ _ (by walk_at "w")) (@Zh _ _ _ _)) (@Za _ _ _ _ _ (@Zs _ _ _ _ _ _ _ _ (@Yz _) (@qv _ 7 _ _ (by walk_at "w")) (@Zh _ _ _ _)) (@Zd _) (by rfl)) (by rfl)) (by rfl) (by decide) (by rfl) (by rfl)) (@Zd _) (by rfl)) (by rfl)) (by rfl) (by decide) (by rfl) (by rfl)) (@Zd _) (by rfl)) (by rfl) (by rfl) (by rfl) (by rfl) (by rfl)) (by rfl))))) ?_
    rintro D σ H2 ⟨a, m, w, l, lm, lt, n, kk, mm, S2, R1, RM, RX, xs, b, p, rfl, M2, wf2, hl98, rt, E2, dEM, h2b, hb95, fin⟩
    obtain ⟨qs, A, hR, n1, n2⟩ := E2.ex
    refine ⟨_, rfl, .inl ⟨rfl, _, SqL.of A.lst⟩, ?_⟩
    walk_at "go"
    intro r3
    walk_at "go"
    intro x3 a3 o3 p3 H3 s3 fo3 fp3 ok3 ho3 hp3
    obtain ⟨vs3, RX3, hv3, vl3, E3', K3, G3⟩ := E2.push (c := ⟨x3, a3, outL S2 x3, 0⟩) fo3 fp3 s3 ho3 hp3 ok3 (by omega)
  
    have lS3 : vs3.length < sizeLine := ZB (by omega)
    refine ⟨lm, _, _, rfl, rfl, hv3, lS3, ?_⟩
    have M3 := M2.keep K3 dEM.symm
    have l3 : (xs.1 ++ [(⟨x3, a3, outL S2 x3, 0⟩ : Cl)]).length < 2 * b := by rw [List.length_append, List.length_singleton]; omega
    have dEM3 := XU dEM M2.live G3
    generalize upd H3 lm (.lst (vs3 ++ [.ref p3])) = HC at *
    generalize (xs.1 ++ [(⟨x3, a3, outL S2 x3, 0⟩ : Cl)]) = cs3 at *
    obtain ⟨qs3, A3, _⟩ := E3'.ex
    have few3 := E3'.few
    refine ⟨_, rfl, .inl ⟨rfl, _, SqL.of A3.lst⟩, ?_⟩
    walk_at "go"
    intro r4
    walk_at "go"
    intro x4 a4 o4 p4 H4 s4 fo4 fp4 ok4 ho4 hp4
    obtain ⟨vs4, RX4, hv4, vl4, E4', K4, G4⟩ := E3'.push (c := ⟨x4, a4, outL S2 x4, 0⟩) fo4 fp4 s4 ho4 hp4 ok4 (by exact l3)
  
    have lS4 : vs4.length < sizeLine := ZB (by rw [vl4]; show cs3.length ≤ 1000; omega)
    refine ⟨lm, _, _, rfl, rfl, hv4, lS4, ?_⟩
    exact fin _ _ RX4 (K3.tr K4 (fun x hx => G3 x hx)) (fun x hx => (G4 x hx).elim (G3 x) fun z => .inr (K3.2 x z)) E4'
  have turn : PSs (Xn CX0 P w0 K mg base ["_law_script", "_law_made_here", "_law_told", "_law_n", "_law_model_here", "_law_world", "_law_deeds", "_law_k", "_law_m", "_law_deed"] "law" (Zb Jk) f cdv A outer s H E).nox ((forBody ((Zi Jk).getD 6 (.Pass ⟨0, 0, 0, 0⟩))).drop 2) (fun D σ H9 => ∃ (a m w l : Addr) (lm : Addr) (lt : Addr) (n kk mm : Int) (S : Mo) (R RM RX : List Addr) (xs : List Cl × List Td) (i dl : Nat) (p : Addr) (d : Deed) (dps : List Addr) , σ = [some (.ref a), some (.ref lm), some (.ref lt), some (.int n), some (.ref m), some (.ref w), some (.ref l), some (.int kk), some (.int mm), some (.ref p)] ∧ WorldAt g H9 w S R ∧ YD H9 m S RM ∧ Dj RM R ∧ TX H9 lm lt S i xs RX ∧ Dj RX R ∧ Dj RX RM ∧ S.Ok i ∧ i < 90 ∧ kk = 0 + (i : Int) ∧ H9 l = some (.lst (dps.map V.ref)) ∧ dps.length = dl ∧ l ∉ R ++ RM ++ RX ∧ H9 p = some (.tup d.vals) ∧ S.good 25 d ∧ Root (S.step d) ∧ ∀ R' H' xs' RX' v7 v8 v9, ZD (R ++ RM ++ RX) H9 H' → Y5 H9 R R' → Y5 H9 RX RX' → WorldAt g H' w (S.step d) R' → YD H' m (S.step d) RM → Dj RM R' → TX H' lm lt (S.step d) (i + 1) xs' RX' → Dj RX' R' → Dj RX' RM → D.nx [some (.ref a), some (.ref lm), some (.ref lt), some (.int n), some (.ref m), some (.ref w), some (.ref l), v7, v8, v9] H') := by
    refine @Xf _ _ _ _ ((@Ze _ _ _ _ _ (@ZG _ _ _ _ (@Zy _ _ _ _ _ _ _ _ _ _ D_law_do (hr.mono (by decide)) (@Za _ _ _ _ _ (@qv _ 5 _ _ (by walk_at "w")) (@Za _ _ _ _ _ (@qv _ 9 _ _ (by walk_at "w")) (@Zd _) (by rfl)) (by rfl)) (by rfl) (by decide) (by rfl) (by rfl)) (by rfl)) (@Ze _ _ _ _ _ (@ZG _ _ _ _ (@Zy _ _ _ _ _ _ _ _ _ _ D_law_play (hr.mono (by decide)) (@Za _ _ _ _ _ (@qv _ 4 _ _ (by walk_at "w")) (@Za _ _ _ _ _ (@qv _ 9 _ _ (by walk_at "w")) (@Zd _) (by rfl)) (by rfl)) (by rfl) (by decide) (by rfl) (by rfl)) (by rfl)) (@Ze _ _ _ _ _ (@ZA _ _ _ _ _ _ _ _ (@PW.pt _ _ _ (@pw_or _ _ _ _ _ _ _ (@Zl _ _ _ _ _ _ _ _ (@Yc _) (@qv _ 7 _ _ (by walk_at "w")) (@Zs _ _ _ _ _ _ _ _ (@op_sub _) (@ZC _ _ _ _ _ _ _ _ _ (@ZJ _) rfl T.z_len PySem.boot_len (@Za _ _ _ _ _ (@qv _ 6 _ _ (by walk_at "w")) (@Zd _) (by rfl)) (by decide) (by decide) (by rfl) (by rfl)) (@Zh _ _ _ _)) (Zr _)) (@pw_or1 _ _ _ _ (@Zl _ _ _ _ _ _ _ _ (@Yc _) (@Zs _ _ _ _ _ _ _ _ (@Yo _) (@qv _ 7 _ _ (by walk_at "w")) (@Zh _ _ _ _)) (@Zh _ _ _ _) (Zr _))))) @ifb (@Zp _)) @turn5)))) ?_
    rintro D σ H9 ⟨a, m, w, l, lm, lt, n, kk, mm, S, R, RM, RX, xs, i, dl, p, d, dps, rfl, W, M, dj, E, dER, dEM, O, hi, hkk, hl9, hdl, nl9, hp, hg, rt, qn⟩
    refine ⟨_, rfl, _, rfl, w, S, R, p, d, 25, i, rfl, W, hp, O, by omega, hg, by decide, fun v R1 H1 k1 gr W1 => ?_⟩
    have hp1 := k1.1 p _ (W.no_tup hp) hp
    refine ⟨_, rfl, _, rfl, m, S, RM, p, d, 25, i, rfl, M.keep k1 dj, hp1, O, by omega, hg, fun H2 k2 M2 => ?_⟩
    have dj1 : Dj RM R1 := dj.grow M.live gr
    have O2 := O.step hg (by omega)
    have W2 := W1.keep k2 dj1.symm
    have E1 := TX.keep E k1 dER
    have E2 := (fun e h1 h2 => TX.step e h1 h2 (by omega)) (TX.keep E1 k2 dEM) hg O
    have dER1 : Dj RX R1 := dER.grow (TX.live E) gr
    have hl2 : H2 l = some (.lst (dps.map V.ref)) := k2.1 _ _ (fun z => nl9 (by simp [z])) (k1.1 _ _ (fun z => nl9 (by simp [z])) hl9)
    have nlX : l ∉ RX := fun z => nl9 (by simp [z])
    have kA : ZD (R ++ RM ++ RX) H9 H2 := (k1.wide (fun x hx => by simp [hx])).tr k2 (fun x hx => .inl (by simp [hx]))
    have lb2 := O2.lb
    have fr2 : ∀ x, H2 x = none → H9 x = none := fun x hx => kA.2 x hx
    have fin : ∀ H' xs' RX', ZD RX H2 H' → Y5 H2 RX RX' → TX H' lm lt (S.step d) (i + 1) xs' RX' → ∀ v7 v8 v9, D.nx [some (.ref a), some (.ref lm), some (.ref lt), some (.int n), some (.ref m), some (.ref w), some (.ref l), v7, v8, v9] H' := fun H' xs' RX' kx gx E' v7 v8 v9 =>
      qn R1 H' xs' RX' v7 v8 v9 (kA.tr kx (fun x hx => .inl (by simp [hx]))) gr (fun x hx => (gx x hx).imp id (fr2 x)) (W2.keep kx dER1.symm) (M2.keep kx dEM.symm) dj1 E' (fun x hx hx2 => (gx x hx).elim (fun z => dER1 x z hx2) (fun z => by obtain ⟨o, e⟩ := W2.live x hx2; rw [z] at e; cases e)) (fun x hx hx2 => (gx x hx).elim (fun z => dEM x z hx2) (fun z => by obtain ⟨o, e⟩ := M2.live x hx2; rw [z] at e; cases e))
    clear qn kA
    generalize hSd : S.step d = S2 at *
    clear M W hSd k1 k2 hg hp1 gr O hp W1 E1 E fr2 hl9 nl9
    have wf2 := O2.wf
    have hl98 : S2.bs.length ≤ 98 := by omega
    have hI := E2.few
    have nxt : ∀ H' xs' RX', ZD RX H2 H' → Y5 H2 RX RX' → TX H' lm lt S2 (i + 1) xs' RX' → (fun (D : Ends) (σ : St) (H4 : Hp) => ∃ (a m w l lm lt : Addr) (n kk mm : Int) (S2 : Mo) (R1 RM RX : List Addr) (xs : List Cl × List Td) (i : Nat) (p : Addr), σ = [some (.ref a), some (.ref lm), some (.ref lt), some (.int n), some (.ref m), some (.ref w), some (.ref l), some (.int kk), some (.int mm), some (.ref p)] ∧ WorldAt g H4 w S2 R1 ∧ YD H4 m S2 RM ∧ S2.bs.length ≤ 98 ∧ TX H4 lm lt S2 i xs RX ∧ i ≤ 95 ∧ Dj RX R1 ∧ Dj RX RM ∧ ∀ H' xs' RX', ZD RX H4 H' → Y5 H4 RX RX' → TX H' lm lt S2 i xs' RX' → ∀ v7 v8 v9, D.nx [some (.ref a), some (.ref lm), some (.ref lt), some (.int n), some (.ref m), some (.ref w), some (.ref l), v7, v8, v9] H') D [some (.ref a), some (.ref lm), some (.ref lt), some (.int n), some (.ref m), some (.ref w), some (.ref l), some (.int kk), some (.int mm), some (.ref p)] H' := fun H' xs' RX' k1 g1 e1 => ⟨a, m, w, l, lm, lt, n, kk, mm, S2, R1, RM, RX', xs', i + 1, p, rfl, W2.keep k1 dER1.symm, M2.keep k1 dEM.symm, hl98, e1, by omega, XU dER1 W2.live g1, XU dEM M2.live g1, fun H'' xs'' RX'' k2 g2 e2 v7 v8 v9 => fin H'' xs'' RX'' (k1.tr k2 (fun x hx => g1 x hx)) (fun x hx => (g2 x hx).elim (g1 x) fun z => .inr (k1.2 x z)) e2 v7 v8 v9⟩
    have E3 := E2.mono (Nat.le_succ i)
    have skip : (fun (D : Ends) (σ : St) (H4 : Hp) => ∃ (a m w l lm lt : Addr) (n kk mm : Int) (S2 : Mo) (R1 RM RX : List Addr) (xs : List Cl × List Td) (i : Nat) (p : Addr), σ = [some (.ref a), some (.ref lm), some (.ref lt), some (.int n), some (.ref m), some (.ref w), some (.ref l), some (.int kk), some (.int mm), some (.ref p)] ∧ WorldAt g H4 w S2 R1 ∧ YD H4 m S2 RM ∧ S2.bs.length ≤ 98 ∧ TX H4 lm lt S2 i xs RX ∧ i ≤ 95 ∧ Dj RX R1 ∧ Dj RX RM ∧ ∀ H' xs' RX', ZD RX H4 H' → Y5 H4 RX RX' → TX H' lm lt S2 i xs' RX' → ∀ v7 v8 v9, D.nx [some (.ref a), some (.ref lm), some (.ref lt), some (.int n), some (.ref m), some (.ref w), some (.ref l), v7, v8, v9] H') D [some (.ref a), some (.ref lm), some (.ref lt), some (.int n), some (.ref m), some (.ref w), some (.ref l), some (.int kk), some (.int mm), some (.ref p)] H2 := nxt H2 xs RX (ZD.refl _ _) (Y5.refl _ _) E3
    have big : (fun (D : Ends) (σ : St) (H2 : Hp) => ∃ (a m w l lm lt : Addr) (n kk mm : Int) (S2 : Mo) (R1 RM RX : List Addr) (xs : List Cl × List Td) (b : Nat) (p : Addr), σ = [some (.ref a), some (.ref lm), some (.ref lt), some (.int n), some (.ref m), some (.ref w), some (.ref l), some (.int kk), some (.int mm), some (.ref p)] ∧ YD H2 m S2 RM ∧ Wf S2.bs S2.ds ∧ S2.bs.length ≤ 98 ∧ Root S2 ∧ TX H2 lm lt S2 b xs RX ∧ Dj RX RM ∧ xs.1.length + 2 ≤ 2 * b ∧ b ≤ 95 ∧ ∀ H' xs' RX', ZD RX H2 H' → Y5 H2 RX RX' → TX H' lm lt S2 b xs' RX' → D.nx [some (.ref a), some (.ref lm), some (.ref lt), some (.int n), some (.ref m), some (.ref w), some (.ref l), some (.int kk), some (.int mm), some (.ref p)] H') { D with nx := (fun D σ H4 => ∃ (a m w l lm lt : Addr) (n kk mm : Int) (S2 : Mo) (R1 RM RX : List Addr) (xs : List Cl × List Td) (i : Nat) (p : Addr), σ = [some (.ref a), some (.ref lm), some (.ref lt), some (.int n), some (.ref m), some (.ref w), some (.ref l), some (.int kk), some (.int mm), some (.ref p)] ∧ WorldAt g H4 w S2 R1 ∧ YD H4 m S2 RM ∧ S2.bs.length ≤ 98 ∧ TX H4 lm lt S2 i xs RX ∧ i ≤ 95 ∧ Dj RX R1 ∧ Dj RX RM ∧ ∀ H' xs' RX', ZD RX H4 H' → Y5 H4 RX RX' → TX H' lm lt S2 i xs' RX' → ∀ v7 v8 v9, D.nx [some (.ref a), some (.ref lm), some (.ref lt), some (.int n), some (.ref m), some (.ref w), some (.ref l), v7, v8, v9] H') D } [some (.ref a), some (.ref lm), some (.ref lt), some (.int n), some (.ref m), some (.ref w), some (.ref l), some (.int kk), some (.int mm), some (.ref p)] H2 := ⟨a, m, w, l, lm, lt, n, kk, mm, S2, R1, RM, RX, xs, i + 1, p, rfl, M2, wf2, hl98, rt, E3, dEM, by omega, by omega, nxt⟩
    walk_at "go"
    refine YA (fun c => ?_) (fun c => ?_)
    · exact YY big
    · walk_at "go"
      refine YA (fun c2 => ?_) (fun c2 => ?_)
      · exact big
      · exact skip
  have rest : PSs (Xn CX0 P w0 K mg base ["_law_script", "_law_made_here", "_law_told", "_law_n", "_law_model_here", "_law_world", "_law_deeds", "_law_k", "_law_m", "_law_deed"] "law" (Zb Jk) f cdv A outer s H E).nox ((Zi Jk).drop 7) (fun D σ H1 => ∃ (a m w : Addr) (lm : Addr) (lt : Addr) (n : Int) (S : Mo) (R RM RX : List Addr) (xs : List Cl × List Td) (i : Nat) (v6 v7 v8 v9 : Option V), σ = [some (.ref a), some (.ref lm), some (.ref lt), some (.int n), some (.ref m), some (.ref w), v6, v7, v8, v9] ∧ WorldAt g H1 w S R ∧ YD H1 m S RM ∧ Dj RM R ∧ TX H1 lm lt S i xs RX ∧ Dj RX R ∧ Dj RX RM ∧ S.Ok i ∧ 0 < i ∧ i < 90 ∧ Root S ∧ ∀ H', D.rt (.bl true) H') := by
    refine @Xf _ _ _ _ ((@Ze _ _ _ _ _ (@JW _ _ _ _ _ _ _ _ PassesOwn.never rfl (@YB _ _ _ _ (@Zy _ _ _ _ _ _ _ _ _ _ D_law_last (hr.mono (by decide)) (@Za _ _ _ _ _ (@qv _ 4 _ _ (by walk_at "w")) (@Za _ _ _ _ _ (@qv _ 1 _ _ (by walk_at "w")) (@Zd _) (by rfl)) (by rfl)) (by rfl) (by decide) (by rfl) (by rfl))) (@ZP _ _ (9) _ Jt.nd rfl (Or.inl rfl) (by walk_at "u")) (@Ze _ _ _ _ _ (@ZG _ _ _ _ (@Zy _ _ _ _ _ _ _ _ _ _ D_law_do (hr.mono (by decide)) (@Za _ _ _ _ _ (@qv _ 5 _ _ (by walk_at "w")) (@Za _ _ _ _ _ (@qv _ 9 _ _ (by walk_at "w")) (@Zd _) (by rfl)) (by rfl)) (by rfl) (by decide) (by rfl) (by rfl)) (by rfl)) (@Ze _ _ _ _ _ (@ZG _ _ _ _ (@Zy _ _ _ _ _ _ _ _ _ _ D_law_play (hr.mono (by decide)) (@Za _ _ _ _ _ (@qv _ 4 _ _ (by walk_at "w")) (@Za _ _ _ _ _ (@qv _ 9 _ _ (by walk_at "w")) (@Zd _) (by rfl)) (by rfl)) (by rfl) (by decide) (by rfl) (by rfl)) (by rfl)) (@Zf _ _ _ (@ZA _ _ _ _ _ _ _ _ (@pt_not _ _ _ _ (@Xj _ _ _ (@Zy _ _ _ _ _ _ _ _ _ _ D_law_fits (hr.mono (by decide)) (@Za _ _ _ _ _ (@qv _ 5 _ _ (by walk_at "w")) (@Za _ _ _ _ _ (@qv _ 4 _ _ (by walk_at "w")) (@Za _ _ _ _ _ (@qv _ 1 _ _ (by walk_at "w")) (@Za _ _ _ _ _ (@qv _ 2 _ _ (by walk_at "w")) (@Zd _) (by rfl)) (by rfl)) (by rfl)) (by rfl)) (by rfl) (by decide) (by rfl) (by rfl)) (by intro _ ; rfl))) (@Zf _ _ _ (@Zk _ _ _ _ (@pe_bl _ _ _ _))) (@Zp _))))) (by intro _ ; rfl)) (@Zf _ _ _ (@Zk _ _ _ _ (@pe_bl _ _ _ _))))) ?_
    rintro D σ H1 ⟨a, m, w, lm, lt, n, S, R, RM, RX, xs, i, v6, v7, v8, v9, rfl, W, M, dj, E, dER, dEM, O, hi0, hi, RT, q⟩
    obtain ⟨qs, A, hR, n1, n2⟩ := E.ex
    have hI := E.few
    have wf := O.wf
    have hl98 : S.bs.length ≤ 98 := by have := O.lb; omega
    refine ⟨_, rfl, _, rfl, m, S, RM, lm, xs.1, qs, rfl, M, wf, hl98, A, E.ok, by omega, fun l2 dl ps H2 s2 fl nal DD => ?_⟩
    obtain ⟨nd, hal⟩ := nal
    obtain ⟨X, hX⟩ : ∃ X, X = R ++ RM ++ RX := ⟨_, rfl⟩
    have inR : ∀ x ∈ R, x ∈ X := fun x hx => by rw [hX]; simp [hx]
    have inM : ∀ x ∈ RM, x ∈ X := fun x hx => by rw [hX]; simp [hx]
    have inE : ∀ x ∈ RX, x ∈ X := fun x hx => by rw [hX]; simp [hx]
    have dX : Dj (l2 :: ps) X := fun x hx hx2 => by
      have z := fl x hx
      rw [hX] at hx2
      rcases List.mem_append.mp hx2 with h2 | h2
      · rcases List.mem_append.mp h2 with h2 | h2
        · obtain ⟨o, e⟩ := W.live x h2; rw [z] at e; cases e
        · obtain ⟨o, e⟩ := M.live x h2; rw [z] at e; cases e
      · obtain ⟨o, e⟩ := E.live x h2; rw [z] at e; cases e
    refine ⟨l2, rfl, ⟨_, SqL.of DD.lst⟩, for_list (xs := ps.map V.ref) (fun j σ H3 => ∃ (S' : Mo) (R' RX' : List Addr) (xs' : List Cl × List Td) (v6 v7 v8 v9 : Option V), σ = [some (.ref a), some (.ref lm), some (.ref lt), some (.int n), some (.ref m), some (.ref w), v6, v7, v8, v9] ∧ ZD X H2 H3 ∧ Y5 H2 X R' ∧ Y5 H2 X RX' ∧ WorldAt g H3 w S' R' ∧ YD H3 m S' RM ∧ Dj RM R' ∧ TX H3 lm lt S' i xs' RX' ∧ Dj RX' R' ∧ Dj RX' RM ∧ S'.Ok i ∧ S'.bs = S.bs ∧ (∀ n, has S'.ds n = true → has S.ds n = true ∨ n ∈ dl.take j)) ⟨S, R, RX, xs, _, _, _, _, rfl, ZD.refl _ _, (fun x hx => .inl (inR x hx)), (fun x hx => .inl (inE x hx)), W.same s2, M.same s2, dj, E.same s2, dER, dEM, O, rfl, fun n h => .inl h⟩ ?_ ?_ ?_⟩
    · rintro j σ H3 _ ⟨S', R', RX', xs', v6, v7, v8, v9, rfl, K3, _⟩
      exact SqL.of (DD.keep K3 dX).lst
    · rintro j x σ H3 hx ⟨S2, R1, RX1, xs1, v6, v7, v8, v9, rfl, K3, gR, gE, W3, M3, dj3, E3, dE3, dM3, O3, eb, hds⟩
      have D3 := DD.keep K3 dX
      obtain ⟨pj, dq, rfl, hdq, hpj⟩ := D3.at' hx
      have i98 : i < 98 := by omega
      have key : S2.good 60 dq ∧ (S2.step dq).Ok i ∧ (S2.step dq).bs = S.bs ∧ (∀ n, has (S2.step dq).ds n = true → has S.ds n = true ∨ n ∈ dl.take (j + 1)) := by
        rcases Nat.lt_or_ge j dl.length with cj | cj
        · have e : dq = .death dl[j] := by
            rw [List.getElem?_append_left (by rw [List.length_map]; exact cj), List.getElem?_map, List.getElem?_eq_getElem cj] at hdq
            exact (Option.some.inj hdq).symm
          subst e
          obtain ⟨h1, h2⟩ := hal _ (List.getElem_mem cj)
          have hb : has S2.bs dl[j] = true := by rw [eb]; exact h1
          have hd : has S2.ds dl[j] = false := by
            cases e : has S2.ds dl[j] with
            | false => rfl
            | true =>
              rcases hds _ e with z | z
              · rw [h2] at z; cases z
              · obtain ⟨k, hk⟩ := List.mem_iff_getElem?.mp z
                have kl := (List.getElem?_eq_some_iff.mp hk).1
                rw [List.length_take] at kl
                have kj : k < j := by omega
                rw [List.getElem?_take_of_lt kj, List.getElem?_eq_getElem (by omega)] at hk
                exact absurd (Option.some.inj hk) (List.pairwise_iff_getElem.mp nd k j (by omega) cj kj)
          refine ⟨⟨hb, hd⟩, O3.died i98 E3.nod (far := 60) ⟨hb, hd⟩, eb, fun n hn => ?_⟩
          have hn' : has (S2.ds ++ [(dl[j], S2.y)]) n = true := hn
          rw [ZI, Bool.or_eq_true] at hn'
          rw [List.take_succ, List.getElem?_eq_getElem cj]
          rcases hn' with z | z
          · exact (hds n z).imp id (fun w => List.mem_append_left _ w)
          · exact .inr (List.mem_append_right _ (by rw [← of_decide_eq_true z]; simp))
        · have e : dq = .years 60 := by
            rw [List.getElem?_append_right (by rw [List.length_map]; exact cj), List.length_map] at hdq
            have lt2 := (List.getElem?_eq_some_iff.mp hdq).1
            have lt2' : j - dl.length < 2 := lt2
            rcases Nat.lt_or_ge (j - dl.length) 1 with z | z
            · rw [show j - dl.length = 0 by omega] at hdq; exact (Option.some.inj hdq).symm
            · rw [show j - dl.length = 1 by omega] at hdq; exact (Option.some.inj hdq).symm
          subst e
          refine ⟨⟨by decide, by decide⟩, O3.years, eb, fun n hn => (hds n hn).imp id fun w => ?_⟩
          rw [List.take_of_length_le (by omega)]
          exact List.mem_of_mem_take w
      obtain ⟨hg, O4, eb4, hds4⟩ := key
      refine ⟨_, rfl, _, rfl, w, S2, R1, pj, dq, 60, i, rfl, W3, hpj, O3, i98, hg, by decide, fun v R4 H4 k4 gr4 W4 => ?_⟩
      have hp4 := k4.1 pj _ (W3.no_tup hpj) hpj
      refine ⟨_, rfl, _, rfl, m, S2, RM, pj, dq, 60, i, rfl, M3.keep k4 dj3, hp4, O3, i98, hg, fun H5 k5 M5 => ?_⟩
      have dj4 : Dj RM R4 := dj3.grow M3.live gr4
      have dE4 : Dj RX1 R4 := dE3.grow E3.live gr4
      have W5 := W4.keep k5 dj4.symm
      have E5 := ((E3.keep k4 dE3).keep k5 dM3).step hg O3 i98
      have hl98' : (S2.step dq).bs.length ≤ 98 := by rw [eb4]; exact hl98
      have K5 : ZD X H2 H5 := (K3.tr k4 gR).tr k5 (fun x hx => .inl (inM x hx))
      obtain ⟨qs1, A1, hR1, n11, n21⟩ := E5.ex
      have hI1 := E5.few
      refine ⟨_, rfl, _, rfl, _, rfl, _, rfl, w, m, S2.step dq, R4, RM, lm, lt, xs1.1, qs1, xs1.2, rfl, W5, M5, hl98', A1, E5.ok, by omega, E5.td, dE4 lt (by rw [hR1]; exact List.mem_append_right _ (by simp [trg])), dM3 lt (by rw [hR1]; exact List.mem_append_right _ (by simp [trg])), n11, E5.le, E5.good, fun td' H' k' T' fr' len' gd' => ?_⟩
      obtain ⟨E', K', G'⟩ := E5.told A1 hR1 n11 n21 k' T' fr' len' gd'
      refine ⟨_, rfl, Yf ⟨S2.step dq, R4, _, _, _, _, _, _, rfl, K5.tr K' gE, (fun x hx => (gr4 x hx).elim (gR x) fun z => .inr (K3.2 x z)), (fun x hx => (G' x hx).elim (gE x) fun z => .inr (K5.2 x z)), W5.keep K' dE4.symm, M5.keep K' dM3.symm, dj4, E', XU dE4 W5.live G', XU dM3 M5.live G', O4, eb4, hds4⟩⟩
    · rintro σ H3 ⟨S', R', RX', xs', v6, v7, v8, v9, rfl, K3, _⟩
      exact q H3
  refine ⟨_, (@Ze _ _ _ _ _ (@Zu _ _ (1) _ _ _ _ Jt.nd rfl (Or.inl rfl) (@Xr _ _ _ _ (@Zd _)) (by rfl) (by walk_at "u")) (@Ze _ _ _ _ _ (@Zu _ _ (2) _ _ _ _ Jt.nd rfl (Or.inl rfl) (@Xr _ _ _ _ (@Zd _)) (by rfl) (by walk_at "u")) (@Ze _ _ _ _ _ (@Zu _ _ (3) _ _ _ _ Jt.nd rfl (Or.inl rfl) (@Zy _ _ _ _ _ _ _ _ _ _ D_law_rich (hr.mono (by decide)) (@Za _ _ _ _ _ (@Zy _ _ _ _ _ _ _ _ _ _ D_law_cell_at (hr.mono (by decide)) (@Za _ _ _ _ _ (@qv _ 0 _ _ (by walk_at "w")) (@Za _ _ _ _ _ (@Zh _ _ _ _) (@Zd _) (by rfl)) (by rfl)) (by rfl) (by decide) (by rfl) (by rfl)) (@Za _ _ _ _ _ (@Zh _ _ _ _) (@Zd _) (by rfl)) (by rfl)) (by rfl) (by decide) (by rfl) (by rfl)) (by rfl) (by walk_at "u")) (@Ze _ _ _ _ _ (@Zu _ _ (4) _ _ _ _ Jt.nd rfl (Or.inl rfl) (@Zy _ _ _ _ _ _ _ _ _ _ D_law_model (hr.mono (by decide)) (@Za _ _ _ _ _ (@Zs _ _ _ _ _ _ _ _ (@Yo _) (@qv _ 3 _ _ (by walk_at "w")) (@Zh _ _ _ _)) (@Zd _) (by rfl)) (by rfl) (by decide) (by rfl) (by rfl)) (by rfl) (by walk_at "u")) (@Ze _ _ _ _ _ (@Zu _ _ (5) _ _ _ _ Jt.nd rfl (Or.inl rfl) (@pe_mk _ _ _ _ _ _ _ _ _ _ _ _ _ Jv K_World (hr.mono (by decide)) rfl (@Za _ _ _ _ _ (@Zt _ _ _ _ _ _ _ (@Ym _) (@Zt _ _ _ _ _ _ _ (@Zv _) (@qv _ 4 _ _ (by walk_at "w")) (@Zh _ _ _ _) (fun _ _ => rfl)) (@Zh _ _ _ _) (fun _ _ => rfl)) (@Zd _) (by rfl)) (by decide) (by rfl) (by rfl)) (by rfl) (by walk_at "u")) (@Ze _ _ _ _ _ (@Zu _ _ (6) _ _ _ _ Jt.nd rfl (Or.inl rfl) (@Zy _ _ _ _ _ _ _ _ _ _ D_law_start (hr.mono (by decide)) (@Za _ _ _ _ _ (@Zy _ _ _ _ _ _ _ _ _ _ D_law_rich (hr.mono (by decide)) (@Za _ _ _ _ _ (@Zy _ _ _ _ _ _ _ _ _ _ D_law_cell_at (hr.mono (by decide)) (@Za _ _ _ _ _ (@qv _ 0 _ _ (by walk_at "w")) (@Za _ _ _ _ _ (@Zh _ _ _ _) (@Zd _) (by rfl)) (by rfl)) (by rfl) (by decide) (by rfl) (by rfl)) (@Za _ _ _ _ _ (@Zh _ _ _ _) (@Zd _) (by rfl)) (by rfl)) (by rfl) (by decide) (by rfl) (by rfl)) (@Zd _) (by rfl)) (by rfl) (by decide) (by rfl) (by rfl)) (by rfl) (by walk_at "u")) (@Ze _ _ _ _ _ (@JW _ _ _ _ _ _ _ _ PassesOwn.never rfl (@pi_range1 _ _ _ _ _ _ rfl T.z_range (@Za _ _ _ _ _ (@Zs _ _ _ _ _ _ _ _ (@Yz _) (@ZC _ _ _ _ _ _ _ _ _ (@ZJ _) rfl T.z_len PySem.boot_len (@Za _ _ _ _ _ (@qv _ 6 _ _ (by walk_at "w")) (@Zd _) (by rfl)) (by decide) (by decide) (by rfl) (by rfl)) (@ZC _ _ _ _ _ _ _ _ _ (@call_min2 _ rfl) rfl T.z_min PyProof.Rows.boot_min (@Za _ _ _ _ _ (@Zh _ _ _ _) (@Za _ _ _ _ _ (@ZC _ _ _ _ _ _ _ _ _ (@call_max2 _ rfl) rfl T.z_max PyProof.Rows.boot_max (@Za _ _ _ _ _ (@Zh _ _ _ _) (@Za _ _ _ _ _ (@Zs _ _ _ _ _ _ _ _ (@op_sub _) (@ZC _ _ _ _ _ _ _ _ _ (@ZJ _) rfl T.z_len PySem.boot_len (@Za _ _ _ _ _ (@qv _ 0 _ _ (by walk_at "w")) (@Zd _) (by rfl)) (by decide) (by decide) (by rfl) (by rfl)) (@Zh _ _ _ _)) (@Zd _) (by rfl)) (by rfl)) (by decide) (by decide) (by rfl) (by rfl)) (@Zd _) (by rfl)) (by rfl)) (by decide) (by decide) (by rfl) (by rfl))) (@Zd _) (by rfl)) (by rfl)) (@ZP _ _ (7) _ Jt.nd rfl (Or.inl rfl) (by walk_at "u")) (@Ze _ _ _ _ _ (@Zu _ _ (8) _ _ _ _ Jt.nd rfl (Or.inl rfl) (@Zy _ _ _ _ _ _ _ _ _ _ D_law_rich (hr.mono (by decide)) (@Za _ _ _ _ _ (@Zy _ _ _ _ _ _ _ _ _ _ D_law_cell_at (hr.mono (by decide)) (@Za _ _ _ _ _ (@qv _ 0 _ _ (by walk_at "w")) (@Za _ _ _ _ _ (@Zs _ _ _ _ _ _ _ _ (@Yz _) (@Zh _ _ _ _) (@ZC _ _ _ _ _ _ _ _ _ (@call_max2 _ rfl) rfl T.z_max PyProof.Rows.boot_max (@Za _ _ _ _ _ (@Zh _ _ _ _) (@Za _ _ _ _ _ (@Zs _ _ _ _ _ _ _ _ (@op_sub _) (@qv _ 7 _ _ (by walk_at "w")) (@ZC _ _ _ _ _ _ _ _ _ (@ZJ _) rfl T.z_len PySem.boot_len (@Za _ _ _ _ _ (@qv _ 6 _ _ (by walk_at "w")) (@Zd _) (by rfl)) (by decide) (by decide) (by rfl) (by rfl))) (@Zd _) (by rfl)) (by rfl)) (by decide) (by decide) (by rfl) (by rfl))) (@Zd _) (by rfl)) (by rfl)) (by rfl) (by decide) (by rfl) (by rfl)) (@Za _ _ _ _ _ (@qv _ 7 _ _ (by walk_at "w")) (@Zd _) (by rfl)) (by rfl)) (by rfl) (by decide) (by rfl) (by rfl)) (by rfl) (by walk_at "u")) (@Ze _ _ _ _ _ (@ZA _ _ _ _ _ _ _ _ (@Zl _ _ _ _ _ _ _ _ (@op_lt _) (@qv _ 7 _ _ (by walk_at "w")) (@ZC _ _ _ _ _ _ _ _ _ (@ZJ _) rfl T.z_len PySem.boot_len (@Za _ _ _ _ _ (@qv _ 6 _ _ (by walk_at "w")) (@Zd _) (by rfl)) (by decide) (by decide) (by rfl) (by rfl)) (Zr _)) (@Zf _ _ _ (@Zu _ _ (9) _ _ _ _ Jt.nd rfl (Or.inl rfl) (@Zt _ _ _ _ _ _ _ (@Ym _) (@qv _ 6 _ _ (by walk_at "w")) (@qv _ 7 _ _ (by walk_at "w")) (fun _ _ => rfl)) (by rfl) (by walk_at "u"))) (@Zf _ _ _ (@Zu _ _ (9) _ _ _ _ Jt.nd rfl (Or.inl rfl) (@Zy _ _ _ _ _ _ _ _ _ _ D_law_next_deed (hr.mono (by decide)) (@Za _ _ _ _ _ (@qv _ 4 _ _ (by walk_at "w")) (@Za _ _ _ _ _ (@qv _ 8 _ _ (by walk_at "w")) (@Za _ _ _ _ _ (@Zh _ _ _ _) (@Zd _) (by rfl)) (by rfl)) (by rfl)) (by rfl) (by decide) (by rfl) (by rfl)) (by rfl) (by walk_at "u")))) @turn)) (by intro _ ; rfl)) @rest))))))), ?_⟩
  refine ⟨Nat.zero_le _, fun lm hlm => ⟨Nat.zero_le _, fun lt hlt => ?_⟩⟩
  have s0a := Zm hlm (.lst [])
  have s00 := s0a.trans (Zm hlt (.lst []))
  have nlt : lt ≠ lm := fun e => by rw [e, Zc] at hlt; cases hlt
  have hw0 : upd (upd H lm (.lst [])) lt (.lst []) lm = some (.lst []) := by rw [Zg (Ne.symm nlt), Zc]
  have ht0 : upd (upd H lm (.lst [])) lt (.lst []) lt = some (.lst []) := Zc
  have fE : ∀ x ∈ [lm, lt], H x = none := fun x hx => by
    simp only [List.mem_cons, List.not_mem_nil, or_false] at hx
    rcases hx with rfl | rfl
    · exact hlm
    · exact s0a.free hlt
  generalize upd (upd H lm (.lst [])) lt (.lst []) = HB at *
  have E0 : ∀ S0 : Mo, (Dated S0 ∧ (S0.ds.map (·.1)).Nodup) → TX HB lm lt S0 0 ([], []) [lm, lt] := fun S0 h => TX.zero h.1 h.2 hw0 ht0 nlt
  obtain ⟨RX0, eRX0⟩ : ∃ X, X = [lm, lt] := ⟨_, rfl⟩
  rw [← eRX0] at E0 fE
  obtain ⟨xs0, exs0⟩ : ∃ X : List Cl × List Td, X = ([], []) := ⟨_, rfl⟩
  rw [← exs0] at E0
  clear eRX0 exs0
  refine ⟨_, rfl, a, ns, 0, rfl, s00.seq hS, by decide, fun c0 => ⟨c0, 1, rfl, fun n => ⟨_, rfl, _, _, rfl, rfl, (by show (0 : Int) < 3000; decide), _, rfl, fun m RM H1 s1 fM M => ?_⟩⟩⟩
  have z0 := Int.emod_nonneg n (show (3000 : Int) ≠ 0 by decide)
  have z1 := Int.emod_lt_of_pos n (show (0 : Int) < 3000 by decide)
  obtain ⟨c, e1, e2, e3, BM⟩ := M.tup_of
  refine ⟨_, rfl, m, _, _, _, rfl, rfl, SqT.of BM.tup, rfl, c, _, _, _, rfl, rfl, SqL.of BM.clk, rfl, ?_⟩
  intro w dxl nb ndx nex
  refine ⟨w, dxl, _, rfl, Zc, (fun e => absurd ⟨z0, by show n % 3000 ≤ 9999; omega⟩ e), fun _ R0 H2 kp fr W => ⟨rfl, ?_⟩⟩
  have s12 := made nb ndx kp
  have fR : ∀ x ∈ R0, H1 x = none := fun x hx => (fr x hx).elim (fun e => by rw [e]; exact nb) made_free
  have s02 := s1.trans s12
  refine ⟨_, rfl, a, ns, 1, rfl, (s00.trans s02).seq hS, by decide, fun c1 => ⟨c1, 2, rfl, fun r1 => ⟨r1, rfl, fun l was ps H3 s23 fl FF hne DD => ?_⟩⟩⟩
  have W3 := W.same s23
  have M3 := (M.same s12).same s23
  have dMR : Dj RM R0 := M.live.dj fR
  have s03 := s02.trans s23
  have E3 := TX.same (E0 (mo0 (n % 3000)) ⟨Dated.zero _, List.nodup_nil⟩) s03
  have lv0 := TX.live (E0 (mo0 (n % 3000)) ⟨Dated.zero _, List.nodup_nil⟩)
  have dE0R : Dj RX0 R0 := lv0.dj (fun x hx => s1.free (fR x hx))
  have dE0M : Dj RX0 RM := lv0.dj fM
  obtain ⟨X, hX⟩ : ∃ X, X = R0 ++ RM ++ RX0 := ⟨_, rfl⟩
  have fX : ∀ x ∈ X, H x = none := fun x hx => by
    rw [hX] at hx
    rcases List.mem_append.mp hx with hx | hx
    · rcases List.mem_append.mp hx with hx | hx
      · exact s00.free (s1.free (fR x hx))
      · exact s00.free (fM x hx)
    · exact fE x hx
  have dX : Dj (l :: ps) X := fun x hx hx2 => by
    have z := fl x hx
    rw [hX] at hx2
    rcases List.mem_append.mp hx2 with h2 | h2
    · rcases List.mem_append.mp h2 with h2 | h2
      · obtain ⟨o, e⟩ := W.live x h2; rw [z] at e; cases e
      · obtain ⟨o, e⟩ := (M.same s12).live x h2; rw [z] at e; cases e
    · obtain ⟨o, e⟩ := lv0 x h2; rw [s02.free z] at e; cases e
  have pl : ps.length = was.length := by rw [DD.len, List.length_map]
  refine ⟨_, rfl, _, _, rfl, .inl ⟨_, SqL.of DD.lst, rfl⟩, _, rfl, _, _, rfl, .inl ⟨_, (s00.trans s03).seq hS, rfl⟩, _, _, rfl, rfl, _, _, rfl, _, _, rfl, _, _, rfl, rfl, ?_⟩
  obtain ⟨t, ht, ht16⟩ : ∃ t : Nat, (if (if ((ns.map V.int).length : Int) - 2 > 0 then ((ns.map V.int).length : Int) - 2 else 0) < 24 then (if ((ns.map V.int).length : Int) - 2 > 0 then ((ns.map V.int).length : Int) - 2 else 0) else 24) = (t : Int) ∧ t ≤ 24 := by
    refine ⟨(if (if ((ns.map V.int).length : Int) - 2 > 0 then ((ns.map V.int).length : Int) - 2 else 0) < 24 then (if ((ns.map V.int).length : Int) - 2 > 0 then ((ns.map V.int).length : Int) - 2 else 0) else 24).toNat, ?_, ?_⟩ <;> split <;> split <;> omega
  rw [ht]
  have hl3w := FF.len
  have e2 : (((ps.map V.ref).length : Nat) : Int) + (t : Int) = ((was.length + t : Nat) : Int) := by rw [List.length_map, pl]; omega
  refine ⟨_, rfl, by rw [e2]; omega, by rw [e2]; omega, ?_⟩
  rw [e2]
  have hwpos : 0 < was.length := by cases was with | nil => exact absurd rfl hne | cons x r => simp
  refine for_range (n := was.length + t) (fun i σ H2 => ∃ (S : Mo) (R RX : List Addr) (xs : List Cl × List Td) (v7 v8 v9 : Option V), σ = [some (.ref a), some (.ref lm), some (.ref lt), some (.int n), some (.ref m), some (.ref w), some (.ref l), v7, v8, v9] ∧ ZD X H3 H2 ∧ WorldAt g H2 w S R ∧ YD H2 m S RM ∧ Dj RM R ∧ Y5 H3 X R ∧ TX H2 lm lt S i xs RX ∧ Dj RX R ∧ Dj RX RM ∧ Y5 H3 X RX ∧ S.Ok i ∧ (i ≤ was.length → S.bs.map (·.1) = (was.take i).map (·.1)) ∧ (0 < i → Root S)) ?_ ?_ ?_
  · exact ⟨mo0 _, R0, RX0, xs0, none, none, none, rfl, ZD.refl _ _, W3, M3, dMR, fun x hx => .inl (by rw [hX]; simp [hx]), E3, dE0R, dE0M, fun x hx => .inl (by rw [hX]; simp [hx]), Mo.Ok.zero _, fun _ => rfl, fun z => absurd z (Nat.lt_irrefl 0)⟩
  · rintro i σ H8 hi ⟨S, R, RX, xs, v7, v8, v9, rfl, K8, W8, M8, dj, gX, E8, dER, dEM, gE, O, hw, rt⟩
    have s08 : Zo H H8 := (s00.trans s03).keep K8 fX
    have D8 := DD.keep K8 dX
    have i27 : i < 32 := by omega
    have nlA : l ∉ R ++ RM ++ RX := fun hx => by
      have nX : l ∉ X := dX l (by simp)
      obtain ⟨o3, e3⟩ := DD.live l (by simp)
      rcases List.mem_append.mp hx with hx | hx
      · rcases List.mem_append.mp hx with hx | hx
        · rcases gX l hx with z | z
          · exact nX z
          · rw [z] at e3; cases e3
        · exact nX (by rw [hX]; simp [hx])
      · rcases gE l hx with z | z
        · exact nX z
        · rw [z] at e3; cases e3
    have inX : ∀ x ∈ R ++ RM ++ RX, x ∈ X ∨ H3 x = none := fun x hx => by
      rcases List.mem_append.mp hx with hx | hx
      · rcases List.mem_append.mp hx with hx | hx
        · exact gX x hx
        · exact .inl (by rw [hX]; simp [hx])
      · exact gE x hx
    have ik : (0 : Int) ≤ 2 + (if (0 : Int) + (i : Int) - (((ps.map V.ref).length : Nat) : Int) > 0 then (0 : Int) + (i : Int) - (((ps.map V.ref).length : Nat) : Int) else 0) := by split <;> omega
    refine ⟨_, rfl, _, rfl, _, rfl, _, _, rfl, .inl ⟨_, SqL.of D8.lst, rfl⟩, _, _, rfl, rfl, _, _, rfl, _, _, rfl, rfl, a, ns, _, rfl, s08.seq hS, ik, fun c2 => ⟨_, rfl, c2, _, rfl, fun n2 => ?_⟩⟩
    refine ⟨_, rfl, _, rfl, _, _, rfl, .inl ⟨_, SqL.of D8.lst, rfl⟩, _, _, rfl, rfl, _, rfl, YA (fun c => ?_) (fun c => ?_)⟩
    · have ci : i < was.length := by have z := of_decide_eq_true c; rw [List.length_map, pl] at z; omega
      have hpi : ps[i]? = some (ps[i]'(by omega)) := List.getElem?_eq_getElem (by omega)
      have e3 : atI (ps.map V.ref) (0 + (i : Int)) = some (.ref (ps[i]'(by omega))) := by
        rw [Int.zero_add]
        exact atI_nat (by rw [List.getElem?_map, hpi]; rfl)
      refine ⟨_, rfl, _, rfl, l, _, _, _, rfl, rfl, SqL.of D8.lst, e3, ?_⟩
      have hp := D8.at_ i _ (arr was[i]) hpi (by rw [List.getElem?_map, List.getElem?_eq_getElem ci]; rfl)
      obtain ⟨hg, hw2⟩ := FF.good ci (hw (by omega)) (far := 25)
      have rt2 := FF.root hne (Nat.succ_pos i) hw2
      exact ⟨a, m, w, l, lm, lt, n, _, n2, S, R, RM, RX, xs, i, _, _, _, ps, rfl, W8, M8, dj, E8, dER, dEM, O, by omega, rfl, D8.lst, rfl, nlA, hp, hg, rt2, fun R' H' xs' RX' v7 v8 v9 k gr gr2 L' M' dj' E' dA dB => ⟨_, R', RX', xs', v7, v8, v9, rfl, K8.tr k inX, L', M', dj', fun x hx => (gr x hx).elim (gX x) fun z => .inr (K8.2 x z), E', dA, dB, fun x hx => (gr2 x hx).elim (gE x) fun z => .inr (K8.2 x z), O.step hg (by omega), fun _ => hw2, fun _ => rt2⟩⟩
    · have ci : was.length ≤ i := by
        have z : ¬ ((0 : Int) + (i : Int) < (((ps.map V.ref).length : Nat) : Int)) := fun w => c (decide_eq_true w)
        rw [List.length_map, pl] at z
        omega
      refine ⟨_, rfl, _, rfl, m, S, RM, n2, 25, rfl, M8, by have := O.lb; omega, by decide, fun d p H9 hg s9 _ hp => ?_⟩
      exact ⟨a, m, w, l, lm, lt, n, _, n2, S, R, RM, RX, xs, i, _, p, d, ps, rfl, W8.same s9, M8.same s9, dj, TX.same E8 s9, dER, dEM, O, by omega, rfl, s9 _ _ D8.lst, rfl, nlA, hp, hg, (rt (by omega)).step d, fun R' H' xs' RX' v7 v8 v9 k gr gr2 L' M' dj' E' dA dB => ⟨_, R', RX', xs', v7, v8, v9, rfl, (K8.same s9).tr k inX, L', M', dj', fun x hx => (gr x hx).elim (gX x) fun z => .inr (K8.2 x (s9.free z)), E', dA, dB, fun x hx => (gr2 x hx).elim (gE x) fun z => .inr (K8.2 x (s9.free z)), O.step hg (by omega), fun z => by omega, fun _ => (rt (by omega)).step d⟩⟩
  · rintro σ H8 ⟨S, R, RX, xs, v7, v8, v9, rfl, K8, W8, M8, dj, gX, E8, dER, dEM, gE, O, hw, rt⟩
    exact ⟨a, m, w, lm, lt, n, S, R, RM, RX, xs, was.length + t, _, _, _, _, rfl, W8, M8, dj, E8, dER, dEM, O, by omega, by omega, rt (by omega), q⟩
end
theorem all_mk {l : PySem.W.OpenLaw} {w : World} {K : PySem.W.Frag} {h : Heap} {mg : Str → Option Value} {fa : Addr} (X : K.In h) (G : h.Ns mainGlobals mg) (hfa : mg "law" = some (.ref fa))
    {c_LandError : Addr}
    {c_NoText : Addr}
    {c_OutOfBound : Addr}
    {c_Taken : Addr}
    {c_NoPerson : Addr}
    {c_Gone : Addr}
    {c_TooDeep : Addr}
    {c_Lives : Addr}
    {c_World : Addr}
    {t_MET : Tok}
    {t_FAILED : Tok}
    {t_HANGS : Tok}
    {t_LONGEST_WORD : Tok}
    {t_LONGEST_NUMBER : Tok}
    {t_MOST_NUMBERS : Tok}
    {c_BARRED : Addr} {od_BARRED : Option Addr} {n_BARRED : Nat} {sl_BARRED : Array (Option Value)} {u0_BARRED u1_BARRED : Tok}
    {t_LAST_FIRST_YEAR : Tok}
    {t_MOST_YEARS : Tok}
    {t_OLDEST : Tok}
    {f0 f1 f2 f3 f4 f5 f6 f7 f8 f9 f10 f11 f12 f13 f14 f15 f16 f17 f18 f19 f20 f21 f22 f23 f24 f25 f26 f27 f28 f29 f30 f31 f32 f33 f34 f35 f36 f37 f38 f39 f40 f41 f42 f43 f44 f45 f46 f47 f48 f49 f50 f51 f52 f53 f54 f55 f56 f57 f58 f59 f60 f61 f62 f63 f64 f65 f66 f67 f68 : Addr} {od0 an0 od1 an1 od2 an2 od3 an3 od4 an4 od5 an5 od6 an6 od7 an7 od8 an8 od9 an9 od10 an10 od11 an11 od12 an12 od13 an13 od14 an14 od15 an15 od16 an16 od17 an17 od18 an18 od19 an19 od20 an20 od21 an21 od22 an22 od23 an23 od24 an24 od25 an25 od26 an26 od27 an27 od28 an28 od29 an29 od30 an30 od31 an31 od32 an32 od33 an33 od34 an34 od35 an35 od36 an36 od37 an37 od38 an38 od39 an39 od40 an40 od41 an41 od42 an42 od43 an43 od44 an44 od45 an45 od46 an46 od47 an47 od48 an48 od49 an49 od50 an50 od51 an51 od52 an52 od53 an53 od54 an54 od55 an55 od56 an56 od57 an57 od58 an58 od59 an59 od60 an60 od61 an61 od62 an62 od63 an63 od64 an64 od65 an65 od66 an66 od67 an67 od68 an68 : Option Addr} {sl0 sl1 sl2 sl3 sl4 sl5 sl6 sl7 sl8 sl9 sl10 sl11 sl12 sl13 sl14 sl15 sl16 sl17 sl18 sl19 sl20 sl21 sl22 sl23 sl24 sl25 sl26 sl27 sl28 sl29 sl30 sl31 sl32 sl33 sl34 sl35 sl36 sl37 sl38 sl39 sl40 sl41 sl42 sl43 sl44 sl45 sl46 sl47 sl48 sl49 sl50 sl51 sl52 sl53 sl54 sl55 sl56 sl57 sl58 sl59 sl60 sl61 sl62 sl63 sl64 sl65 sl66 sl67 sl68 : Array (Option Value)} {oc0 kV0 dc0 pm0 cd0 ct0 oc1 kV1 dc1 pm1 cd1 ct1 oc2 kV2 dc2 pm2 cd2 ct2 oc3 kV3 dc3 pm3 cd3 ct3 oc4 kV4 dc4 pm4 cd4 ct4 oc5 kV5 dc5 pm5 cd5 ct5 oc6 kV6 dc6 pm6 cd6 ct6 oc7 kV7 dc7 pm7 cd7 ct7 oc8 kV8 dc8 pm8 cd8 ct8 oc9 kV9 dc9 pm9 cd9 ct9 oc10 kV10 dc10 pm10 cd10 ct10 oc11 kV11 dc11 pm11 cd11 ct11 oc12 kV12 dc12 pm12 cd12 ct12 oc13 kV13 dc13 pm13 cd13 ct13 oc14 kV14 dc14 pm14 cd14 ct14 oc15 kV15 dc15 pm15 cd15 ct15 oc16 kV16 dc16 pm16 cd16 ct16 oc17 kV17 dc17 pm17 cd17 ct17 oc18 kV18 dc18 pm18 cd18 ct18 oc19 kV19 dc19 pm19 cd19 ct19 oc20 kV20 dc20 pm20 cd20 ct20 oc21 kV21 dc21 pm21 cd21 ct21 oc22 kV22 dc22 pm22 cd22 ct22 oc23 kV23 dc23 pm23 cd23 ct23 oc24 kV24 dc24 pm24 cd24 ct24 oc25 kV25 dc25 pm25 cd25 ct25 oc26 kV26 dc26 pm26 cd26 ct26 oc27 kV27 dc27 pm27 cd27 ct27 oc28 kV28 dc28 pm28 cd28 ct28 oc29 kV29 dc29 pm29 cd29 ct29 oc30 kV30 dc30 pm30 cd30 ct30 oc31 kV31 dc31 pm31 cd31 ct31 oc32 kV32 dc32 pm32 cd32 ct32 oc33 kV33 dc33 pm33 cd33 ct33 oc34 kV34 dc34 pm34 cd34 ct34 oc35 kV35 dc35 pm35 cd35 ct35 oc36 kV36 dc36 pm36 cd36 ct36 oc37 kV37 dc37 pm37 cd37 ct37 oc38 kV38 dc38 pm38 cd38 ct38 oc39 kV39 dc39 pm39 cd39 ct39 oc40 kV40 dc40 pm40 cd40 ct40 oc41 kV41 dc41 pm41 cd41 ct41 oc42 kV42 dc42 pm42 cd42 ct42 oc43 kV43 dc43 pm43 cd43 ct43 oc44 kV44 dc44 pm44 cd44 ct44 oc45 kV45 dc45 pm45 cd45 ct45 oc46 kV46 dc46 pm46 cd46 ct46 oc47 kV47 dc47 pm47 cd47 ct47 oc48 kV48 dc48 pm48 cd48 ct48 oc49 kV49 dc49 pm49 cd49 ct49 oc50 kV50 dc50 pm50 cd50 ct50 oc51 kV51 dc51 pm51 cd51 ct51 oc52 kV52 dc52 pm52 cd52 ct52 oc53 kV53 dc53 pm53 cd53 ct53 oc54 kV54 dc54 pm54 cd54 ct54 oc55 kV55 dc55 pm55 cd55 ct55 oc56 kV56 dc56 pm56 cd56 ct56 oc57 kV57 dc57 pm57 cd57 ct57 oc58 kV58 dc58 pm58 cd58 ct58 oc59 kV59 dc59 pm59 cd59 ct59 oc60 kV60 dc60 pm60 cd60 ct60 oc61 kV61 dc61 pm61 cd61 ct61 oc62 kV62 dc62 pm62 cd62 ct62 oc63 kV63 dc63 pm63 cd63 ct63 oc64 kV64 dc64 pm64 cd64 ct64 oc65 kV65 dc65 pm65 cd65 ct65 oc66 kV66 dc66 pm66 cd66 ct66 oc67 kV67 dc67 pm67 cd67 ct67 oc68 kV68 dc68 pm68 cd68 ct68 : Value}
    (zz_isinstance : PySem.W.nsIn K mainGlobals "isinstance" = some none)
    (zz_int : PySem.W.nsIn K mainGlobals "int" = some none)
    (zz_bool : PySem.W.nsIn K mainGlobals "bool" = some none)
    (zz_len : PySem.W.nsIn K mainGlobals "len" = some none)
    (zz_range : PySem.W.nsIn K mainGlobals "range" = some none)
    (zz_list : PySem.W.nsIn K mainGlobals "list" = some none)
    (zz_str : PySem.W.nsIn K mainGlobals "str" = some none)
    (zz_min : PySem.W.nsIn K mainGlobals "min" = some none)
    (zz_max : PySem.W.nsIn K mainGlobals "max" = some none)
    (zz_enumerate : PySem.W.nsIn K mainGlobals "enumerate" = some none)
    (zz_ValueError : PySem.W.nsIn K mainGlobals "ValueError" = some none)
    (am_LandError : PySem.W.nsIn K mainGlobals "LandError" = some (some (.ref c_LandError)))
    (am_NoText : PySem.W.nsIn K mainGlobals "NoText" = some (some (.ref c_NoText)))
    (am_OutOfBound : PySem.W.nsIn K mainGlobals "OutOfBound" = some (some (.ref c_OutOfBound)))
    (am_Taken : PySem.W.nsIn K mainGlobals "Taken" = some (some (.ref c_Taken)))
    (am_NoPerson : PySem.W.nsIn K mainGlobals "NoPerson" = some (some (.ref c_NoPerson)))
    (am_Gone : PySem.W.nsIn K mainGlobals "Gone" = some (some (.ref c_Gone)))
    (am_TooDeep : PySem.W.nsIn K mainGlobals "TooDeep" = some (some (.ref c_TooDeep)))
    (xx_Gone : PySem.W.excIn K c_Gone bmV "ValueError.__new__" = true)
    (xga_Gone : PySem.W.findIn K (.ref c_Gone) "__getattribute__" = some (some (.builtin "BaseException.__getattribute__")))
    (xhk_Gone : PySem.W.findIn K (.ref c_Gone) "__getattr__" = some none)
    (xca_Gone : PySem.W.findIn K (.ref c_Gone) "__class__" = some (some (.builtin "object.__class__")))
    (xmo_Gone : PySem.W.subIn K (.ref c_Gone) (.type "object") = some true)
    (xsb_Gone : PySem.W.subIn K (.ref c_Gone) (.type "BaseException") = some true)
    (xx_NoPerson : PySem.W.excIn K c_NoPerson bmV "ValueError.__new__" = true)
    (xga_NoPerson : PySem.W.findIn K (.ref c_NoPerson) "__getattribute__" = some (some (.builtin "BaseException.__getattribute__")))
    (xhk_NoPerson : PySem.W.findIn K (.ref c_NoPerson) "__getattr__" = some none)
    (xca_NoPerson : PySem.W.findIn K (.ref c_NoPerson) "__class__" = some (some (.builtin "object.__class__")))
    (xmo_NoPerson : PySem.W.subIn K (.ref c_NoPerson) (.type "object") = some true)
    (xsb_NoPerson : PySem.W.subIn K (.ref c_NoPerson) (.type "BaseException") = some true)
    (xx_NoText : PySem.W.excIn K c_NoText bmV "ValueError.__new__" = true)
    (xga_NoText : PySem.W.findIn K (.ref c_NoText) "__getattribute__" = some (some (.builtin "BaseException.__getattribute__")))
    (xhk_NoText : PySem.W.findIn K (.ref c_NoText) "__getattr__" = some none)
    (xca_NoText : PySem.W.findIn K (.ref c_NoText) "__class__" = some (some (.builtin "object.__class__")))
    (xmo_NoText : PySem.W.subIn K (.ref c_NoText) (.type "object") = some true)
    (xsb_NoText : PySem.W.subIn K (.ref c_NoText) (.type "BaseException") = some true)
    (xx_OutOfBound : PySem.W.excIn K c_OutOfBound bmV "ValueError.__new__" = true)
    (xga_OutOfBound : PySem.W.findIn K (.ref c_OutOfBound) "__getattribute__" = some (some (.builtin "BaseException.__getattribute__")))
    (xhk_OutOfBound : PySem.W.findIn K (.ref c_OutOfBound) "__getattr__" = some none)
    (xca_OutOfBound : PySem.W.findIn K (.ref c_OutOfBound) "__class__" = some (some (.builtin "object.__class__")))
    (xmo_OutOfBound : PySem.W.subIn K (.ref c_OutOfBound) (.type "object") = some true)
    (xsb_OutOfBound : PySem.W.subIn K (.ref c_OutOfBound) (.type "BaseException") = some true)
    (xx_Taken : PySem.W.excIn K c_Taken bmV "ValueError.__new__" = true)
    (xga_Taken : PySem.W.findIn K (.ref c_Taken) "__getattribute__" = some (some (.builtin "BaseException.__getattribute__")))
    (xhk_Taken : PySem.W.findIn K (.ref c_Taken) "__getattr__" = some none)
    (xca_Taken : PySem.W.findIn K (.ref c_Taken) "__class__" = some (some (.builtin "object.__class__")))
    (xmo_Taken : PySem.W.subIn K (.ref c_Taken) (.type "object") = some true)
    (xsb_Taken : PySem.W.subIn K (.ref c_Taken) (.type "BaseException") = some true)
    (xx_TooDeep : PySem.W.excIn K c_TooDeep bmV "ValueError.__new__" = true)
    (xga_TooDeep : PySem.W.findIn K (.ref c_TooDeep) "__getattribute__" = some (some (.builtin "BaseException.__getattribute__")))
    (xhk_TooDeep : PySem.W.findIn K (.ref c_TooDeep) "__getattr__" = some none)
    (xca_TooDeep : PySem.W.findIn K (.ref c_TooDeep) "__class__" = some (some (.builtin "object.__class__")))
    (xmo_TooDeep : PySem.W.subIn K (.ref c_TooDeep) (.type "object") = some true)
    (xsb_TooDeep : PySem.W.subIn K (.ref c_TooDeep) (.type "BaseException") = some true)
    (am_Lives : PySem.W.nsIn K mainGlobals "Lives" = some (some (.ref c_Lives)))
    (pg_Lives : PySem.W.plainGet K c_Lives Str.empty = true)
    (hd_Lives : PySem.W.hasDictIn K c_Lives = true)
    (po_Lives : PySem.W.plainOver K c_Lives = true)
    (sa_Lives : PySem.W.findIn K (.ref c_Lives) "__setattr__" = some (some (.builtin "object.__setattr__")))
    (na_Lives_births : PySem.W.findIn K (.ref c_Lives) "births" = some none)
    (na_Lives_deaths : PySem.W.findIn K (.ref c_Lives) "deaths" = some none)
    (na_Lives_broods : PySem.W.findIn K (.ref c_Lives) "broods" = some none)
    (am_World : PySem.W.nsIn K mainGlobals "World" = some (some (.ref c_World)))
    (pg_World : PySem.W.plainGet K c_World Str.empty = true)
    (hd_World : PySem.W.hasDictIn K c_World = true)
    (po_World : PySem.W.plainOver K c_World = true)
    (sa_World : PySem.W.findIn K (.ref c_World) "__setattr__" = some (some (.builtin "object.__setattr__")))
    (na_World_year : PySem.W.findIn K (.ref c_World) "year" = some none)
    (na_World_lives : PySem.W.findIn K (.ref c_World) "lives" = some none)
    (na_World_happened : PySem.W.findIn K (.ref c_World) "happened" = some none)
    (am_MET : PySem.W.nsIn K mainGlobals "MET" = some (some (.str "met" t_MET)))
    (am_FAILED : PySem.W.nsIn K mainGlobals "FAILED" = some (some (.str "failed" t_FAILED)))
    (am_HANGS : PySem.W.nsIn K mainGlobals "HANGS" = some (some (.str "hangs" t_HANGS)))
    (am_LONGEST_WORD : PySem.W.nsIn K mainGlobals "LONGEST_WORD" = some (some (.int 8 t_LONGEST_WORD)))
    (am_LONGEST_NUMBER : PySem.W.nsIn K mainGlobals "LONGEST_NUMBER" = some (some (.int 2 t_LONGEST_NUMBER)))
    (am_MOST_NUMBERS : PySem.W.nsIn K mainGlobals "MOST_NUMBERS" = some (some (.int 5 t_MOST_NUMBERS)))
    (am_BARRED : PySem.W.nsIn K mainGlobals "BARRED" = some (some (.ref c_BARRED)))
    (lk_BARRED : K.lookup c_BARRED = some ⟨.type "tuple", od_BARRED, .seq #[.str "crown" u0_BARRED, .str "kids" u1_BARRED] n_BARRED, sl_BARRED⟩)
    (am_LAST_FIRST_YEAR : PySem.W.nsIn K mainGlobals "LAST_FIRST_YEAR" = some (some (.int 9999 t_LAST_FIRST_YEAR)))
    (am_MOST_YEARS : PySem.W.nsIn K mainGlobals "MOST_YEARS" = some (some (.int 60 t_MOST_YEARS)))
    (am_OLDEST : PySem.W.nsIn K mainGlobals "OLDEST" = some (some (.int 120 t_OLDEST)))
    (a0 : PySem.W.nsIn K mainGlobals "within" = some (some (.ref f0)))
    (l0 : K.lookup f0 = some ⟨oc0, od0, .func (PySem.W.fnOf "within" "within" (Zj s_within) (Zi s_within) (Zb s_within) .none kV0 dc0 pm0 an0 cd0 ct0), sl0⟩)
    (cc0 : PySem.W.codeIn K cd0 "within" = true)
    (k0 : PySem.W.keepIn K (.ref f0) = true)
    (a1 : PySem.W.nsIn K mainGlobals "good_word" = some (some (.ref f1)))
    (l1 : K.lookup f1 = some ⟨oc1, od1, .func (PySem.W.fnOf "good_word" "good_word" (Zj XC) (Zi XC) (Zb XC) .none kV1 dc1 pm1 an1 cd1 ct1), sl1⟩)
    (cc1 : PySem.W.codeIn K cd1 "good_word" = true)
    (k1 : PySem.W.keepIn K (.ref f1) = true)
    (a2 : PySem.W.nsIn K mainGlobals "good_number" = some (some (.ref f2)))
    (l2 : K.lookup f2 = some ⟨oc2, od2, .func (PySem.W.fnOf "good_number" "good_number" (Zj YK) (Zi YK) (Zb YK) .none kV2 dc2 pm2 an2 cd2 ct2), sl2⟩)
    (cc2 : PySem.W.codeIn K cd2 "good_number" = true)
    (k2 : PySem.W.keepIn K (.ref f2) = true)
    (a3 : PySem.W.nsIn K mainGlobals "parts" = some (some (.ref f3)))
    (l3 : K.lookup f3 = some ⟨oc3, od3, .func (PySem.W.fnOf "parts" "parts" (Zj s_parts) (Zi s_parts) (Zb s_parts) .none kV3 dc3 pm3 an3 cd3 ct3), sl3⟩)
    (cc3 : PySem.W.codeIn K cd3 "parts" = true)
    (k3 : PySem.W.keepIn K (.ref f3) = true)
    (a4 : PySem.W.nsIn K mainGlobals "shortened" = some (some (.ref f4)))
    (l4 : K.lookup f4 = some ⟨oc4, od4, .func (PySem.W.fnOf "shortened" "shortened" (Zj Xw) (Zi Xw) (Zb Xw) .none kV4 dc4 pm4 an4 cd4 ct4), sl4⟩)
    (cc4 : PySem.W.codeIn K cd4 "shortened" = true)
    (k4 : PySem.W.keepIn K (.ref f4) = true)
    (a5 : PySem.W.findIn K (.ref c_Lives) "nearest" = some (some (.ref f5)))
    (i5 : PySem.W.isFn K (.ref f5) = true)
    (l5 : K.lookup f5 = some ⟨oc5, od5, .func (PySem.W.fnOf "nearest" "Lives.nearest" (Zj Yi) (Zi Yi) (Zb Yi) .none kV5 dc5 pm5 an5 cd5 ct5), sl5⟩)
    (cc5 : PySem.W.codeIn K cd5 "Lives.nearest" = true)
    (k5 : PySem.W.keepIn K (.ref f5) = true)
    (a6 : PySem.W.nsIn K mainGlobals "nearest_named" = some (some (.ref f6)))
    (l6 : K.lookup f6 = some ⟨oc6, od6, .func (PySem.W.fnOf "nearest_named" "nearest_named" (Zj Yg) (Zi Yg) (Zb Yg) .none kV6 dc6 pm6 an6 cd6 ct6), sl6⟩)
    (cc6 : PySem.W.codeIn K cd6 "nearest_named" = true)
    (k6 : PySem.W.keepIn K (.ref f6) = true)
    (a7 : PySem.W.findIn K (.ref c_Lives) "known" = some (some (.ref f7)))
    (i7 : PySem.W.isFn K (.ref f7) = true)
    (l7 : K.lookup f7 = some ⟨oc7, od7, .func (PySem.W.fnOf "known" "Lives.known" (Zj YT) (Zi YT) (Zb YT) .none kV7 dc7 pm7 an7 cd7 ct7), sl7⟩)
    (cc7 : PySem.W.codeIn K cd7 "Lives.known" = true)
    (k7 : PySem.W.keepIn K (.ref f7) = true)
    (a8 : PySem.W.findIn K (.ref c_Lives) "want_known" = some (some (.ref f8)))
    (i8 : PySem.W.isFn K (.ref f8) = true)
    (l8 : K.lookup f8 = some ⟨oc8, od8, .func (PySem.W.fnOf "want_known" "Lives.want_known" (Zj ZU) (Zi ZU) (Zb ZU) .none kV8 dc8 pm8 an8 cd8 ct8), sl8⟩)
    (cc8 : PySem.W.codeIn K cd8 "Lives.want_known" = true)
    (k8 : PySem.W.keepIn K (.ref f8) = true)
    (a9 : PySem.W.findIn K (.ref c_Lives) "age_in" = some (some (.ref f9)))
    (i9 : PySem.W.isFn K (.ref f9) = true)
    (l9 : K.lookup f9 = some ⟨oc9, od9, .func (PySem.W.fnOf "age_in" "Lives.age_in" (Zj Yw) (Zi Yw) (Zb Yw) .none kV9 dc9 pm9 an9 cd9 ct9), sl9⟩)
    (cc9 : PySem.W.codeIn K cd9 "Lives.age_in" = true)
    (k9 : PySem.W.keepIn K (.ref f9) = true)
    (a10 : PySem.W.findIn K (.ref c_World) "age" = some (some (.ref f10)))
    (i10 : PySem.W.isFn K (.ref f10) = true)
    (l10 : K.lookup f10 = some ⟨oc10, od10, .func (PySem.W.fnOf "age" "World.age" (Zj XE) (Zi XE) (Zb XE) .none kV10 dc10 pm10 an10 cd10 ct10), sl10⟩)
    (cc10 : PySem.W.codeIn K cd10 "World.age" = true)
    (k10 : PySem.W.keepIn K (.ref f10) = true)
    (a11 : PySem.W.findIn K (.ref c_Lives) "alive" = some (some (.ref f11)))
    (i11 : PySem.W.isFn K (.ref f11) = true)
    (l11 : K.lookup f11 = some ⟨oc11, od11, .func (PySem.W.fnOf "alive" "Lives.alive" (Zj YX) (Zi YX) (Zb YX) .none kV11 dc11 pm11 an11 cd11 ct11), sl11⟩)
    (cc11 : PySem.W.codeIn K cd11 "Lives.alive" = true)
    (k11 : PySem.W.keepIn K (.ref f11) = true)
    (a12 : PySem.W.nsIn K mainGlobals "age_stand" = some (some (.ref f12)))
    (l12 : K.lookup f12 = some ⟨oc12, od12, .func (PySem.W.fnOf "age_stand" "age_stand" (Zj XD) (Zi XD) (Zb XD) .none kV12 dc12 pm12 an12 cd12 ct12), sl12⟩)
    (cc12 : PySem.W.codeIn K cd12 "age_stand" = true)
    (k12 : PySem.W.keepIn K (.ref f12) = true)
    (a13 : PySem.W.nsIn K mainGlobals "person_stand" = some (some (.ref f13)))
    (l13 : K.lookup f13 = some ⟨oc13, od13, .func (PySem.W.fnOf "person_stand" "person_stand" (Zj Ys) (Zi Ys) (Zb Ys) .none kV13 dc13 pm13 an13 cd13 ct13), sl13⟩)
    (cc13 : PySem.W.codeIn K cd13 "person_stand" = true)
    (k13 : PySem.W.keepIn K (.ref f13) = true)
    (a14 : PySem.W.findIn K (.ref c_World) "came_in" = some (some (.ref f14)))
    (i14 : PySem.W.isFn K (.ref f14) = true)
    (l14 : K.lookup f14 = some ⟨oc14, od14, .func (PySem.W.fnOf "came_in" "World.came_in" (Zj Yh) (Zi Yh) (Zb Yh) .none kV14 dc14 pm14 an14 cd14 ct14), sl14⟩)
    (cc14 : PySem.W.codeIn K cd14 "World.came_in" = true)
    (k14 : PySem.W.keepIn K (.ref f14) = true)
    (a15 : PySem.W.nsIn K mainGlobals "atom_stand" = some (some (.ref f15)))
    (l15 : K.lookup f15 = some ⟨oc15, od15, .func (PySem.W.fnOf "atom_stand" "atom_stand" (Zj Xd) (Zi Xd) (Zb Xd) .none kV15 dc15 pm15 an15 cd15 ct15), sl15⟩)
    (cc15 : PySem.W.codeIn K cd15 "atom_stand" = true)
    (k15 : PySem.W.keepIn K (.ref f15) = true)
    (a16 : PySem.W.findIn K (.ref c_Lives) "died_in" = some (some (.ref f16)))
    (i16 : PySem.W.isFn K (.ref f16) = true)
    (l16 : K.lookup f16 = some ⟨oc16, od16, .func (PySem.W.fnOf "died_in" "Lives.died_in" (Zj Yj) (Zi Yj) (Zb Yj) .none kV16 dc16 pm16 an16 cd16 ct16), sl16⟩)
    (cc16 : PySem.W.codeIn K cd16 "Lives.died_in" = true)
    (k16 : PySem.W.keepIn K (.ref f16) = true)
    (a17 : PySem.W.nsIn K mainGlobals "last_death" = some (some (.ref f17)))
    (l17 : K.lookup f17 = some ⟨oc17, od17, .func (PySem.W.fnOf "last_death" "last_death" (Zj Xc) (Zi Xc) (Zb Xc) .none kV17 dc17 pm17 an17 cd17 ct17), sl17⟩)
    (cc17 : PySem.W.codeIn K cd17 "last_death" = true)
    (k17 : PySem.W.keepIn K (.ref f17) = true)
    (a18 : PySem.W.findIn K (.ref c_Lives) "born_in" = some (some (.ref f18)))
    (i18 : PySem.W.isFn K (.ref f18) = true)
    (l18 : K.lookup f18 = some ⟨oc18, od18, .func (PySem.W.fnOf "born_in" "Lives.born_in" (Zj Yk) (Zi Yk) (Zb Yk) .none kV18 dc18 pm18 an18 cd18 ct18), sl18⟩)
    (cc18 : PySem.W.codeIn K cd18 "Lives.born_in" = true)
    (k18 : PySem.W.keepIn K (.ref f18) = true)
    (a19 : PySem.W.nsIn K mainGlobals "met_since" = some (some (.ref f19)))
    (l19 : K.lookup f19 = some ⟨oc19, od19, .func (PySem.W.fnOf "met_since" "met_since" (Zj Xx) (Zi Xx) (Zb Xx) .none kV19 dc19 pm19 an19 cd19 ct19), sl19⟩)
    (cc19 : PySem.W.codeIn K cd19 "met_since" = true)
    (k19 : PySem.W.keepIn K (.ref f19) = true)
    (a20 : PySem.W.nsIn K mainGlobals "atom_since" = some (some (.ref f20)))
    (l20 : K.lookup f20 = some ⟨oc20, od20, .func (PySem.W.fnOf "atom_since" "atom_since" (Zj Xe) (Zi Xe) (Zb Xe) .none kV20 dc20 pm20 an20 cd20 ct20), sl20⟩)
    (cc20 : PySem.W.codeIn K cd20 "atom_since" = true)
    (k20 : PySem.W.keepIn K (.ref f20) = true)
    (a21 : PySem.W.findIn K (.ref c_Lives) "children" = some (some (.ref f21)))
    (i21 : PySem.W.isFn K (.ref f21) = true)
    (l21 : K.lookup f21 = some ⟨oc21, od21, .func (PySem.W.fnOf "children" "Lives.children" (Zj Z7) (Zi Z7) (Zb Z7) .none kV21 dc21 pm21 an21 cd21 ct21), sl21⟩)
    (cc21 : PySem.W.codeIn K cd21 "Lives.children" = true)
    (k21 : PySem.W.keepIn K (.ref f21) = true)
    (a22 : PySem.W.nsIn K mainGlobals "brood" = some (some (.ref f22)))
    (l22 : K.lookup f22 = some ⟨oc22, od22, .func (PySem.W.fnOf "brood" "brood" (Zj s_brood) (Zi s_brood) (Zb s_brood) .none kV22 dc22 pm22 an22 cd22 ct22), sl22⟩)
    (cc22 : PySem.W.codeIn K cd22 "brood" = true)
    (k22 : PySem.W.keepIn K (.ref f22) = true)
    (a23 : PySem.W.nsIn K mainGlobals "members" = some (some (.ref f23)))
    (l23 : K.lookup f23 = some ⟨oc23, od23, .func (PySem.W.fnOf "members" "members" (Zj JJ) (Zi JJ) (Zb JJ) .none kV23 dc23 pm23 an23 cd23 ct23), sl23⟩)
    (cc23 : PySem.W.codeIn K cd23 "members" = true)
    (k23 : PySem.W.keepIn K (.ref f23) = true)
    (a24 : PySem.W.nsIn K mainGlobals "seats" = some (some (.ref f24)))
    (l24 : K.lookup f24 = some ⟨oc24, od24, .func (PySem.W.fnOf "seats" "seats" (Zj s_seats) (Zi s_seats) (Zb s_seats) .none kV24 dc24 pm24 an24 cd24 ct24), sl24⟩)
    (cc24 : PySem.W.codeIn K cd24 "seats" = true)
    (k24 : PySem.W.keepIn K (.ref f24) = true)
    (a25 : PySem.W.nsIn K mainGlobals "has_seat" = some (some (.ref f25)))
    (l25 : K.lookup f25 = some ⟨oc25, od25, .func (PySem.W.fnOf "has_seat" "has_seat" (Zj X9) (Zi X9) (Zb X9) .none kV25 dc25 pm25 an25 cd25 ct25), sl25⟩)
    (cc25 : PySem.W.codeIn K cd25 "has_seat" = true)
    (k25 : PySem.W.keepIn K (.ref f25) = true)
    (a26 : PySem.W.nsIn K mainGlobals "waiting" = some (some (.ref f26)))
    (l26 : K.lookup f26 = some ⟨oc26, od26, .func (PySem.W.fnOf "waiting" "waiting" (Zj JI) (Zi JI) (Zb JI) .none kV26 dc26 pm26 an26 cd26 ct26), sl26⟩)
    (cc26 : PySem.W.codeIn K cd26 "waiting" = true)
    (k26 : PySem.W.keepIn K (.ref f26) = true)
    (a27 : PySem.W.nsIn K mainGlobals "may_grow" = some (some (.ref f27)))
    (l27 : K.lookup f27 = some ⟨oc27, od27, .func (PySem.W.fnOf "may_grow" "may_grow" (Zj X1) (Zi X1) (Zb X1) .none kV27 dc27 pm27 an27 cd27 ct27), sl27⟩)
    (cc27 : PySem.W.codeIn K cd27 "may_grow" = true)
    (k27 : PySem.W.keepIn K (.ref f27) = true)
    (a28 : PySem.W.nsIn K mainGlobals "class_stand" = some (some (.ref f28)))
    (l28 : K.lookup f28 = some ⟨oc28, od28, .func (PySem.W.fnOf "class_stand" "class_stand" (Zj YL) (Zi YL) (Zb YL) .none kV28 dc28 pm28 an28 cd28 ct28), sl28⟩)
    (cc28 : PySem.W.codeIn K cd28 "class_stand" = true)
    (k28 : PySem.W.keepIn K (.ref f28) = true)
    (a29 : PySem.W.nsIn K mainGlobals "class_since" = some (some (.ref f29)))
    (l29 : K.lookup f29 = some ⟨oc29, od29, .func (PySem.W.fnOf "class_since" "class_since" (Zj YM) (Zi YM) (Zb YM) .none kV29 dc29 pm29 an29 cd29 ct29), sl29⟩)
    (cc29 : PySem.W.codeIn K cd29 "class_since" = true)
    (k29 : PySem.W.keepIn K (.ref f29) = true)
    (a30 : PySem.W.nsIn K mainGlobals "want_word" = some (some (.ref f30)))
    (l30 : K.lookup f30 = some ⟨oc30, od30, .func (PySem.W.fnOf "want_word" "want_word" (Zj Xv) (Zi Xv) (Zb Xv) .none kV30 dc30 pm30 an30 cd30 ct30), sl30⟩)
    (cc30 : PySem.W.codeIn K cd30 "want_word" = true)
    (k30 : PySem.W.keepIn K (.ref f30) = true)
    (a31 : PySem.W.findIn K (.ref c_Lives) "__init__" = some (some (.ref f31)))
    (i31 : PySem.W.isFn K (.ref f31) = true)
    (l31 : K.lookup f31 = some ⟨oc31, od31, .func (PySem.W.fnOf "__init__" "Lives.__init__" (Zj Z8) (Zi Z8) (Zb Z8) .none kV31 dc31 pm31 an31 cd31 ct31), sl31⟩)
    (cc31 : PySem.W.codeIn K cd31 "Lives.__init__" = true)
    (k31 : PySem.W.keepIn K (.ref f31) = true)
    (a32 : PySem.W.findIn K (.ref c_Lives) "enter" = some (some (.ref f32)))
    (i32 : PySem.W.isFn K (.ref f32) = true)
    (l32 : K.lookup f32 = some ⟨oc32, od32, .func (PySem.W.fnOf "enter" "Lives.enter" (Zj YU) (Zi YU) (Zb YU) .none kV32 dc32 pm32 an32 cd32 ct32), sl32⟩)
    (cc32 : PySem.W.codeIn K cd32 "Lives.enter" = true)
    (k32 : PySem.W.keepIn K (.ref f32) = true)
    (a33 : PySem.W.findIn K (.ref c_Lives) "want_alive" = some (some (.ref f33)))
    (i33 : PySem.W.isFn K (.ref f33) = true)
    (l33 : K.lookup f33 = some ⟨oc33, od33, .func (PySem.W.fnOf "want_alive" "Lives.want_alive" (Zj ZV) (Zi ZV) (Zb ZV) .none kV33 dc33 pm33 an33 cd33 ct33), sl33⟩)
    (cc33 : PySem.W.codeIn K cd33 "Lives.want_alive" = true)
    (k33 : PySem.W.keepIn K (.ref f33) = true)
    (a34 : PySem.W.findIn K (.ref c_Lives) "arrive" = some (some (.ref f34)))
    (i34 : PySem.W.isFn K (.ref f34) = true)
    (l34 : K.lookup f34 = some ⟨oc34, od34, .func (PySem.W.fnOf "arrive" "Lives.arrive" (Zj Yv) (Zi Yv) (Zb Yv) .none kV34 dc34 pm34 an34 cd34 ct34), sl34⟩)
    (cc34 : PySem.W.codeIn K cd34 "Lives.arrive" = true)
    (k34 : PySem.W.keepIn K (.ref f34) = true)
    (a35 : PySem.W.findIn K (.ref c_Lives) "birth" = some (some (.ref f35)))
    (i35 : PySem.W.isFn K (.ref f35) = true)
    (l35 : K.lookup f35 = some ⟨oc35, od35, .func (PySem.W.fnOf "birth" "Lives.birth" (Zj YW) (Zi YW) (Zb YW) .none kV35 dc35 pm35 an35 cd35 ct35), sl35⟩)
    (cc35 : PySem.W.codeIn K cd35 "Lives.birth" = true)
    (k35 : PySem.W.keepIn K (.ref f35) = true)
    (a36 : PySem.W.findIn K (.ref c_Lives) "death" = some (some (.ref f36)))
    (i36 : PySem.W.isFn K (.ref f36) = true)
    (l36 : K.lookup f36 = some ⟨oc36, od36, .func (PySem.W.fnOf "death" "Lives.death" (Zj YV) (Zi YV) (Zb YV) .none kV36 dc36 pm36 an36 cd36 ct36), sl36⟩)
    (cc36 : PySem.W.codeIn K cd36 "Lives.death" = true)
    (k36 : PySem.W.keepIn K (.ref f36) = true)
    (a37 : PySem.W.findIn K (.ref c_Lives) "names" = some (some (.ref f37)))
    (i37 : PySem.W.isFn K (.ref f37) = true)
    (l37 : K.lookup f37 = some ⟨oc37, od37, .func (PySem.W.fnOf "names" "Lives.names" (Zj YS) (Zi YS) (Zb YS) .none kV37 dc37 pm37 an37 cd37 ct37), sl37⟩)
    (cc37 : PySem.W.codeIn K cd37 "Lives.names" = true)
    (k37 : PySem.W.keepIn K (.ref f37) = true)
    (a38 : PySem.W.findIn K (.ref c_Lives) "living" = some (some (.ref f38)))
    (i38 : PySem.W.isFn K (.ref f38) = true)
    (l38 : K.lookup f38 = some ⟨oc38, od38, .func (PySem.W.fnOf "living" "Lives.living" (Zj Yu) (Zi Yu) (Zb Yu) .none kV38 dc38 pm38 an38 cd38 ct38), sl38⟩)
    (cc38 : PySem.W.codeIn K cd38 "Lives.living" = true)
    (k38 : PySem.W.keepIn K (.ref f38) = true)
    (a39 : PySem.W.findIn K (.ref c_Lives) "never" = some (some (.ref f39)))
    (i39 : PySem.W.isFn K (.ref f39) = true)
    (l39 : K.lookup f39 = some ⟨oc39, od39, .func (PySem.W.fnOf "never" "Lives.never" (Zj YR) (Zi YR) (Zb YR) .none kV39 dc39 pm39 an39 cd39 ct39), sl39⟩)
    (cc39 : PySem.W.codeIn K cd39 "Lives.never" = true)
    (k39 : PySem.W.keepIn K (.ref f39) = true)
    (a40 : PySem.W.nsIn K mainGlobals "want_between" = some (some (.ref f40)))
    (l40 : K.lookup f40 = some ⟨oc40, od40, .func (PySem.W.fnOf "want_between" "want_between" (Zj Yr) (Zi Yr) (Zb Yr) .none kV40 dc40 pm40 an40 cd40 ct40), sl40⟩)
    (cc40 : PySem.W.codeIn K cd40 "want_between" = true)
    (k40 : PySem.W.keepIn K (.ref f40) = true)
    (a41 : PySem.W.findIn K (.ref c_World) "__init__" = some (some (.ref f41)))
    (i41 : PySem.W.isFn K (.ref f41) = true)
    (l41 : K.lookup f41 = some ⟨oc41, od41, .func (PySem.W.fnOf "__init__" "World.__init__" (Zj Z6) (Zi Z6) (Zb Z6) .none kV41 dc41 pm41 an41 cd41 ct41), sl41⟩)
    (cc41 : PySem.W.codeIn K cd41 "World.__init__" = true)
    (k41 : PySem.W.keepIn K (.ref f41) = true)
    (a42 : PySem.W.findIn K (.ref c_World) "pass_years" = some (some (.ref f42)))
    (i42 : PySem.W.isFn K (.ref f42) = true)
    (l42 : K.lookup f42 = some ⟨oc42, od42, .func (PySem.W.fnOf "pass_years" "World.pass_years" (Zj ZT) (Zi ZT) (Zb ZT) .none kV42 dc42 pm42 an42 cd42 ct42), sl42⟩)
    (cc42 : PySem.W.codeIn K cd42 "World.pass_years" = true)
    (k42 : PySem.W.keepIn K (.ref f42) = true)
    (a43 : PySem.W.findIn K (.ref c_World) "arrive" = some (some (.ref f43)))
    (i43 : PySem.W.isFn K (.ref f43) = true)
    (l43 : K.lookup f43 = some ⟨oc43, od43, .func (PySem.W.fnOf "arrive" "World.arrive" (Zj Yt) (Zi Yt) (Zb Yt) .none kV43 dc43 pm43 an43 cd43 ct43), sl43⟩)
    (cc43 : PySem.W.codeIn K cd43 "World.arrive" = true)
    (k43 : PySem.W.keepIn K (.ref f43) = true)
    (a44 : PySem.W.findIn K (.ref c_World) "birth" = some (some (.ref f44)))
    (i44 : PySem.W.isFn K (.ref f44) = true)
    (l44 : K.lookup f44 = some ⟨oc44, od44, .func (PySem.W.fnOf "birth" "World.birth" (Zj YQ) (Zi YQ) (Zb YQ) .none kV44 dc44 pm44 an44 cd44 ct44), sl44⟩)
    (cc44 : PySem.W.codeIn K cd44 "World.birth" = true)
    (k44 : PySem.W.keepIn K (.ref f44) = true)
    (a45 : PySem.W.findIn K (.ref c_World) "death" = some (some (.ref f45)))
    (i45 : PySem.W.isFn K (.ref f45) = true)
    (l45 : K.lookup f45 = some ⟨oc45, od45, .func (PySem.W.fnOf "death" "World.death" (Zj YN) (Zi YN) (Zb YN) .none kV45 dc45 pm45 an45 cd45 ct45), sl45⟩)
    (cc45 : PySem.W.codeIn K cd45 "World.death" = true)
    (k45 : PySem.W.keepIn K (.ref f45) = true)
    (a46 : PySem.W.findIn K (.ref c_World) "comes" = some (some (.ref f46)))
    (i46 : PySem.W.isFn K (.ref f46) = true)
    (l46 : K.lookup f46 = some ⟨oc46, od46, .func (PySem.W.fnOf "comes" "World.comes" (Zj YO) (Zi YO) (Zb YO) .none kV46 dc46 pm46 an46 cd46 ct46), sl46⟩)
    (cc46 : PySem.W.codeIn K cd46 "World.comes" = true)
    (k46 : PySem.W.keepIn K (.ref f46) = true)
    (a47 : PySem.W.nsIn K mainGlobals "_law_num" = some (some (.ref f47)))
    (l47 : K.lookup f47 = some ⟨oc47, od47, .func (PySem.W.fnOf "_law_num" "_law_num" (Zj JK) (Zi JK) (Zb JK) .none kV47 dc47 pm47 an47 cd47 ct47), sl47⟩)
    (cc47 : PySem.W.codeIn K cd47 "_law_num" = true)
    (k47 : PySem.W.keepIn K (.ref f47) = true)
    (a48 : PySem.W.nsIn K mainGlobals "_law_cell_at" = some (some (.ref f48)))
    (l48 : K.lookup f48 = some ⟨oc48, od48, .func (PySem.W.fnOf "_law_cell_at" "_law_cell_at" (Zj YJ) (Zi YJ) (Zb YJ) .none kV48 dc48 pm48 an48 cd48 ct48), sl48⟩)
    (cc48 : PySem.W.codeIn K cd48 "_law_cell_at" = true)
    (k48 : PySem.W.keepIn K (.ref f48) = true)
    (a49 : PySem.W.nsIn K mainGlobals "_law_rich" = some (some (.ref f49)))
    (l49 : K.lookup f49 = some ⟨oc49, od49, .func (PySem.W.fnOf "_law_rich" "_law_rich" (Zj X3) (Zi X3) (Zb X3) .none kV49 dc49 pm49 an49 cd49 ct49), sl49⟩)
    (cc49 : PySem.W.codeIn K cd49 "_law_rich" = true)
    (k49 : PySem.W.keepIn K (.ref f49) = true)
    (a50 : PySem.W.nsIn K mainGlobals "_law_word" = some (some (.ref f50)))
    (l50 : K.lookup f50 = some ⟨oc50, od50, .func (PySem.W.fnOf "_law_word" "_law_word" (Zj X2) (Zi X2) (Zb X2) .none kV50 dc50 pm50 an50 cd50 ct50), sl50⟩)
    (cc50 : PySem.W.codeIn K cd50 "_law_word" = true)
    (k50 : PySem.W.keepIn K (.ref f50) = true)
    (a51 : PySem.W.nsIn K mainGlobals "_law_model" = some (some (.ref f51)))
    (l51 : K.lookup f51 = some ⟨oc51, od51, .func (PySem.W.fnOf "_law_model" "_law_model" (Zj XA) (Zi XA) (Zb XA) .none kV51 dc51 pm51 an51 cd51 ct51), sl51⟩)
    (cc51 : PySem.W.codeIn K cd51 "_law_model" = true)
    (k51 : PySem.W.keepIn K (.ref f51) = true)
    (a52 : PySem.W.nsIn K mainGlobals "_law_kids" = some (some (.ref f52)))
    (l52 : K.lookup f52 = some ⟨oc52, od52, .func (PySem.W.fnOf "_law_kids" "_law_kids" (Zj X8) (Zi X8) (Zb X8) .none kV52 dc52 pm52 an52 cd52 ct52), sl52⟩)
    (cc52 : PySem.W.codeIn K cd52 "_law_kids" = true)
    (k52 : PySem.W.keepIn K (.ref f52) = true)
    (a53 : PySem.W.nsIn K mainGlobals "_law_living" = some (some (.ref f53)))
    (l53 : K.lookup f53 = some ⟨oc53, od53, .func (PySem.W.fnOf "_law_living" "_law_living" (Zj Xb) (Zi Xb) (Zb Xb) .none kV53 dc53 pm53 an53 cd53 ct53), sl53⟩)
    (cc53 : PySem.W.codeIn K cd53 "_law_living" = true)
    (k53 : PySem.W.keepIn K (.ref f53) = true)
    (a54 : PySem.W.nsIn K mainGlobals "_law_play" = some (some (.ref f54)))
    (l54 : K.lookup f54 = some ⟨oc54, od54, .func (PySem.W.fnOf "_law_play" "_law_play" (Zj X4) (Zi X4) (Zb X4) .none kV54 dc54 pm54 an54 cd54 ct54), sl54⟩)
    (cc54 : PySem.W.codeIn K cd54 "_law_play" = true)
    (k54 : PySem.W.keepIn K (.ref f54) = true)
    (a55 : PySem.W.nsIn K mainGlobals "_law_next_deed" = some (some (.ref f55)))
    (l55 : K.lookup f55 = some ⟨oc55, od55, .func (PySem.W.fnOf "_law_next_deed" "_law_next_deed" (Zj Zw) (Zi Zw) (Zb Zw) .none kV55 dc55 pm55 an55 cd55 ct55), sl55⟩)
    (cc55 : PySem.W.codeIn K cd55 "_law_next_deed" = true)
    (k55 : PySem.W.keepIn K (.ref f55) = true)
    (a56 : PySem.W.nsIn K mainGlobals "_law_start" = some (some (.ref f56)))
    (l56 : K.lookup f56 = some ⟨oc56, od56, .func (PySem.W.fnOf "_law_start" "_law_start" (Zj Xz) (Zi Xz) (Zb Xz) .none kV56 dc56 pm56 an56 cd56 ct56), sl56⟩)
    (cc56 : PySem.W.codeIn K cd56 "_law_start" = true)
    (k56 : PySem.W.keepIn K (.ref f56) = true)
    (a57 : PySem.W.nsIn K mainGlobals "_law_do" = some (some (.ref f57)))
    (l57 : K.lookup f57 = some ⟨oc57, od57, .func (PySem.W.fnOf "_law_do" "_law_do" (Zj s_law_do) (Zi s_law_do) (Zb s_law_do) .none kV57 dc57 pm57 an57 cd57 ct57), sl57⟩)
    (cc57 : PySem.W.codeIn K cd57 "_law_do" = true)
    (k57 : PySem.W.keepIn K (.ref f57) = true)
    (a58 : PySem.W.nsIn K mainGlobals "_law_path" = some (some (.ref f58)))
    (l58 : K.lookup f58 = some ⟨oc58, od58, .func (PySem.W.fnOf "_law_path" "_law_path" (Zj X5) (Zi X5) (Zb X5) .none kV58 dc58 pm58 an58 cd58 ct58), sl58⟩)
    (cc58 : PySem.W.codeIn K cd58 "_law_path" = true)
    (k58 : PySem.W.keepIn K (.ref f58) = true)
    (a59 : PySem.W.nsIn K mainGlobals "_law_near" = some (some (.ref f59)))
    (l59 : K.lookup f59 = some ⟨oc59, od59, .func (PySem.W.fnOf "_law_near" "_law_near" (Zj X6) (Zi X6) (Zb X6) .none kV59 dc59 pm59 an59 cd59 ct59), sl59⟩)
    (cc59 : PySem.W.codeIn K cd59 "_law_near" = true)
    (k59 : PySem.W.keepIn K (.ref f59) = true)
    (a60 : PySem.W.nsIn K mainGlobals "_law_age" = some (some (.ref f60)))
    (l60 : K.lookup f60 = some ⟨oc60, od60, .func (PySem.W.fnOf "_law_age" "_law_age" (Zj JL) (Zi JL) (Zb JL) .none kV60 dc60 pm60 an60 cd60 ct60), sl60⟩)
    (cc60 : PySem.W.codeIn K cd60 "_law_age" = true)
    (k60 : PySem.W.keepIn K (.ref f60) = true)
    (a61 : PySem.W.nsIn K mainGlobals "_law_members" = some (some (.ref f61)))
    (l61 : K.lookup f61 = some ⟨oc61, od61, .func (PySem.W.fnOf "_law_members" "_law_members" (Zj YI) (Zi YI) (Zb YI) .none kV61 dc61 pm61 an61 cd61 ct61), sl61⟩)
    (cc61 : PySem.W.codeIn K cd61 "_law_members" = true)
    (k61 : PySem.W.keepIn K (.ref f61) = true)
    (a62 : PySem.W.nsIn K mainGlobals "_law_young" = some (some (.ref f62)))
    (l62 : K.lookup f62 = some ⟨oc62, od62, .func (PySem.W.fnOf "_law_young" "_law_young" (Zj Xy) (Zi Xy) (Zb Xy) .none kV62 dc62 pm62 an62 cd62 ct62), sl62⟩)
    (cc62 : PySem.W.codeIn K cd62 "_law_young" = true)
    (k62 : PySem.W.keepIn K (.ref f62) = true)
    (a63 : PySem.W.nsIn K mainGlobals "_law_seated" = some (some (.ref f63)))
    (l63 : K.lookup f63 = some ⟨oc63, od63, .func (PySem.W.fnOf "_law_seated" "_law_seated" (Zj Xa) (Zi Xa) (Zb Xa) .none kV63 dc63 pm63 an63 cd63 ct63), sl63⟩)
    (cc63 : PySem.W.codeIn K cd63 "_law_seated" = true)
    (k63 : PySem.W.keepIn K (.ref f63) = true)
    (a64 : PySem.W.nsIn K mainGlobals "_law_class" = some (some (.ref f64)))
    (l64 : K.lookup f64 = some ⟨oc64, od64, .func (PySem.W.fnOf "_law_class" "_law_class" (Zj XB) (Zi XB) (Zb XB) .none kV64 dc64 pm64 an64 cd64 ct64), sl64⟩)
    (cc64 : PySem.W.codeIn K cd64 "_law_class" = true)
    (k64 : PySem.W.keepIn K (.ref f64) = true)
    (a65 : PySem.W.nsIn K mainGlobals "_law_made" = some (some (.ref f65)))
    (l65 : K.lookup f65 = some ⟨oc65, od65, .func (PySem.W.fnOf "_law_made" "_law_made" (Zj Yn) (Zi Yn) (Zb Yn) .none kV65 dc65 pm65 an65 cd65 ct65), sl65⟩)
    (cc65 : PySem.W.codeIn K cd65 "_law_made" = true)
    (k65 : PySem.W.keepIn K (.ref f65) = true)
    (a66 : PySem.W.nsIn K mainGlobals "_law_fits" = some (some (.ref f66)))
    (l66 : K.lookup f66 = some ⟨oc66, od66, .func (PySem.W.fnOf "_law_fits" "_law_fits" (Zj Z1) (Zi Z1) (Zb Z1) .none kV66 dc66 pm66 an66 cd66 ct66), sl66⟩)
    (cc66 : PySem.W.codeIn K cd66 "_law_fits" = true)
    (k66 : PySem.W.keepIn K (.ref f66) = true)
    (a67 : PySem.W.nsIn K mainGlobals "_law_last" = some (some (.ref f67)))
    (l67 : K.lookup f67 = some ⟨oc67, od67, .func (PySem.W.fnOf "_law_last" "_law_last" (Zj X7) (Zi X7) (Zb X7) .none kV67 dc67 pm67 an67 cd67 ct67), sl67⟩)
    (cc67 : PySem.W.codeIn K cd67 "_law_last" = true)
    (k67 : PySem.W.keepIn K (.ref f67) = true)
    (a68 : PySem.W.nsIn K mainGlobals "law" = some (some (.ref f68)))
    (l68 : K.lookup f68 = some ⟨oc68, od68, .func (PySem.W.fnOf "law" "law" (Zj Jk) (Zi Jk) (Zb Jk) .none kV68 dc68 pm68 an68 cd68 ct68), sl68⟩)
    (cc68 : PySem.W.codeIn K cd68 "law" = true)
    (k68 : PySem.W.keepIn K (.ref f68) = true)
    (mk_Lives : PySem.W.makesIn K c_Lives = true)
    (kc_Lives : PySem.W.keepIn K (.ref c_Lives) = true)
    (mk_World : PySem.W.makesIn K c_World = true)
    (kc_World : PySem.W.keepIn K (.ref c_World) = true)
    : ∃ (g : Ga) (fd : FuncData), (∀ (s : Shared) (v : Value), BindsTo s fd ⟨[v], []⟩ [("_law_script", v)]) ∧ ∀ base : Heap, K.In base → base.Ns mainGlobals mg → FnOk l.prog w K mg base CX0 11 fa fd ["_law_script"] (sp_law K g) := by
  have e := hfa.symm.trans (PySem.W.mg_of X G a68)
  cases e
  have T : Txt K ({ LandError := c_LandError, NoText := c_NoText, OutOfBound := c_OutOfBound, Taken := c_Taken, NoPerson := c_NoPerson, Gone := c_Gone, TooDeep := c_TooDeep, Lives := c_Lives, World := c_World, MET := t_MET, FAILED := t_FAILED, HANGS := t_HANGS, LONGEST_WORD := t_LONGEST_WORD, LONGEST_NUMBER := t_LONGEST_NUMBER, MOST_NUMBERS := t_MOST_NUMBERS, BARRED := c_BARRED, LAST_FIRST_YEAR := t_LAST_FIRST_YEAR, MOST_YEARS := t_MOST_YEARS, OLDEST := t_OLDEST } : Ga) mg := ⟨PySem.W.mg_none_of X G zz_isinstance, PySem.W.mg_none_of X G zz_int, PySem.W.mg_none_of X G zz_bool, PySem.W.mg_none_of X G zz_len, PySem.W.mg_none_of X G zz_range, PySem.W.mg_none_of X G zz_list, PySem.W.mg_none_of X G zz_str, PySem.W.mg_none_of X G zz_min, PySem.W.mg_none_of X G zz_max, PySem.W.mg_none_of X G zz_enumerate, PySem.W.mg_none_of X G zz_ValueError, PySem.W.mg_of X G am_LandError, PySem.W.mg_of X G am_NoText, PySem.W.mg_of X G am_OutOfBound, PySem.W.mg_of X G am_Taken, PySem.W.mg_of X G am_NoPerson, PySem.W.mg_of X G am_Gone, PySem.W.mg_of X G am_TooDeep, ⟨xx_Gone, xga_Gone, xhk_Gone, xca_Gone, xmo_Gone, xsb_Gone⟩, ⟨xx_NoPerson, xga_NoPerson, xhk_NoPerson, xca_NoPerson, xmo_NoPerson, xsb_NoPerson⟩, ⟨xx_NoText, xga_NoText, xhk_NoText, xca_NoText, xmo_NoText, xsb_NoText⟩, ⟨xx_OutOfBound, xga_OutOfBound, xhk_OutOfBound, xca_OutOfBound, xmo_OutOfBound, xsb_OutOfBound⟩, ⟨xx_Taken, xga_Taken, xhk_Taken, xca_Taken, xmo_Taken, xsb_Taken⟩, ⟨xx_TooDeep, xga_TooDeep, xhk_TooDeep, xca_TooDeep, xmo_TooDeep, xsb_TooDeep⟩, PySem.W.mg_of X G am_Lives, ⟨pg_Lives, hd_Lives, po_Lives, sa_Lives⟩, na_Lives_births, na_Lives_deaths, na_Lives_broods, PySem.W.mg_of X G am_World, ⟨pg_World, hd_World, po_World, sa_World⟩, na_World_year, na_World_lives, na_World_happened, PySem.W.mg_of X G am_MET, PySem.W.mg_of X G am_FAILED, PySem.W.mg_of X G am_HANGS, PySem.W.mg_of X G am_LONGEST_WORD, PySem.W.mg_of X G am_LONGEST_NUMBER, PySem.W.mg_of X G am_MOST_NUMBERS, PySem.W.mg_of X G am_BARRED, fun _ => .inr ⟨_, _, _, lk_BARRED, rfl, rfl, by show 2 ≤ sizeLine; decide, .cons ⟨_, rfl⟩ (.cons ⟨_, rfl⟩ (.nil))⟩, PySem.W.mg_of X G am_LAST_FIRST_YEAR, PySem.W.mg_of X G am_MOST_YEARS, PySem.W.mg_of X G am_OLDEST⟩
  have F0 := Zq (st := s_within) l0 cc0 k0
  have b0 := F0.binds (ps := ["text", "low", "high"]) fun _ _ _ _ _ _ us hl => by obtain ⟨_, _, _, rfl⟩ := L2.us3 us hl; rfl
  have F1 := Zq (st := XC) l1 cc1 k1
  have b1 := F1.binds (ps := ["word"]) fun _ _ _ _ _ _ us hl => by obtain ⟨_, rfl⟩ := L2.us1 us hl; rfl
  have F2 := Zq (st := YK) l2 cc2 k2
  have b2 := F2.binds (ps := ["text"]) fun _ _ _ _ _ _ us hl => by obtain ⟨_, rfl⟩ := L2.us1 us hl; rfl
  have F3 := Zq (st := s_parts) l3 cc3 k3
  have b3 := F3.binds (ps := ["name"]) fun _ _ _ _ _ _ us hl => by obtain ⟨_, rfl⟩ := L2.us1 us hl; rfl
  have F4 := Zq (st := Xw) l4 cc4 k4
  have b4 := F4.binds (ps := ["name"]) fun _ _ _ _ _ _ us hl => by obtain ⟨_, rfl⟩ := L2.us1 us hl; rfl
  have F5 := Zq (st := Yi) l5 cc5 k5
  have b5 := F5.binds (ps := ["self", "name"]) fun _ _ _ _ _ _ us hl => by obtain ⟨_, _, rfl⟩ := L2.us2 us hl; rfl
  have F6 := Zq (st := Yg) l6 cc6 k6
  have b6 := F6.binds (ps := ["world", "name"]) fun _ _ _ _ _ _ us hl => by obtain ⟨_, _, rfl⟩ := L2.us2 us hl; rfl
  have F7 := Zq (st := YT) l7 cc7 k7
  have b7 := F7.binds (ps := ["self", "name"]) fun _ _ _ _ _ _ us hl => by obtain ⟨_, _, rfl⟩ := L2.us2 us hl; rfl
  have F8 := Zq (st := ZU) l8 cc8 k8
  have b8 := F8.binds (ps := ["self", "name"]) fun _ _ _ _ _ _ us hl => by obtain ⟨_, _, rfl⟩ := L2.us2 us hl; rfl
  have F9 := Zq (st := Yw) l9 cc9 k9
  have b9 := F9.binds (ps := ["self", "name", "year"]) fun _ _ _ _ _ _ us hl => by obtain ⟨_, _, _, rfl⟩ := L2.us3 us hl; rfl
  have F10 := Zq (st := XE) l10 cc10 k10
  have b10 := F10.binds (ps := ["self", "name"]) fun _ _ _ _ _ _ us hl => by obtain ⟨_, _, rfl⟩ := L2.us2 us hl; rfl
  have F11 := Zq (st := YX) l11 cc11 k11
  have b11 := F11.binds (ps := ["self", "name"]) fun _ _ _ _ _ _ us hl => by obtain ⟨_, _, rfl⟩ := L2.us2 us hl; rfl
  have F12 := Zq (st := XD) l12 cc12 k12
  have b12 := F12.binds (ps := ["world", "name", "age"]) fun _ _ _ _ _ _ us hl => by obtain ⟨_, _, _, rfl⟩ := L2.us3 us hl; rfl
  have F13 := Zq (st := Ys) l13 cc13 k13
  have b13 := F13.binds (ps := ["world", "atom"]) fun _ _ _ _ _ _ us hl => by obtain ⟨_, _, rfl⟩ := L2.us2 us hl; rfl
  have F14 := Zq (st := Yh) l14 cc14 k14
  have b14 := F14.binds (ps := ["self", "word"]) fun _ _ _ _ _ _ us hl => by obtain ⟨_, _, rfl⟩ := L2.us2 us hl; rfl
  have F15 := Zq (st := Xd) l15 cc15 k15
  have b15 := F15.binds (ps := ["world", "atom"]) fun _ _ _ _ _ _ us hl => by obtain ⟨_, _, rfl⟩ := L2.us2 us hl; rfl
  have F16 := Zq (st := Yj) l16 cc16 k16
  have b16 := F16.binds (ps := ["self", "name"]) fun _ _ _ _ _ _ us hl => by obtain ⟨_, _, rfl⟩ := L2.us2 us hl; rfl
  have F17 := Zq (st := Xc) l17 cc17 k17
  have b17 := F17.binds (ps := ["world", "name"]) fun _ _ _ _ _ _ us hl => by obtain ⟨_, _, rfl⟩ := L2.us2 us hl; rfl
  have F18 := Zq (st := Yk) l18 cc18 k18
  have b18 := F18.binds (ps := ["self", "name"]) fun _ _ _ _ _ _ us hl => by obtain ⟨_, _, rfl⟩ := L2.us2 us hl; rfl
  have F19 := Zq (st := Xx) l19 cc19 k19
  have b19 := F19.binds (ps := ["world", "atom"]) fun _ _ _ _ _ _ us hl => by obtain ⟨_, _, rfl⟩ := L2.us2 us hl; rfl
  have F20 := Zq (st := Xe) l20 cc20 k20
  have b20 := F20.binds (ps := ["world", "atom"]) fun _ _ _ _ _ _ us hl => by obtain ⟨_, _, rfl⟩ := L2.us2 us hl; rfl
  have F21 := Zq (st := Z7) l21 cc21 k21
  have b21 := F21.binds (ps := ["self", "name"]) fun _ _ _ _ _ _ us hl => by obtain ⟨_, _, rfl⟩ := L2.us2 us hl; rfl
  have F22 := Zq (st := s_brood) l22 cc22 k22
  have b22 := F22.binds (ps := ["world", "name"]) fun _ _ _ _ _ _ us hl => by obtain ⟨_, _, rfl⟩ := L2.us2 us hl; rfl
  have F23 := Zq (st := JJ) l23 cc23 k23
  have b23 := F23.binds (ps := ["world", "name", "out"]) fun _ _ _ _ _ _ us hl => by obtain ⟨_, _, _, rfl⟩ := L2.us3 us hl; rfl
  have F24 := Zq (st := s_seats) l24 cc24 k24
  have b24 := F24.binds (ps := ["world", "name", "age", "out"]) fun _ _ _ _ _ _ us hl => by obtain ⟨_, _, _, _, rfl⟩ := L2.us4 us hl; rfl
  have F25 := Zq (st := X9) l25 cc25 k25
  have b25 := F25.binds (ps := ["world", "name", "age", "out"]) fun _ _ _ _ _ _ us hl => by obtain ⟨_, _, _, _, rfl⟩ := L2.us4 us hl; rfl
  have F26 := Zq (st := JI) l26 cc26 k26
  have b26 := F26.binds (ps := ["world", "name", "age", "out"]) fun _ _ _ _ _ _ us hl => by obtain ⟨_, _, _, _, rfl⟩ := L2.us4 us hl; rfl
  have F27 := Zq (st := X1) l27 cc27 k27
  have b27 := F27.binds (ps := ["world", "name"]) fun _ _ _ _ _ _ us hl => by obtain ⟨_, _, rfl⟩ := L2.us2 us hl; rfl
  have F28 := Zq (st := YL) l28 cc28 k28
  have b28 := F28.binds (ps := ["world", "name", "age", "out"]) fun _ _ _ _ _ _ us hl => by obtain ⟨_, _, _, _, rfl⟩ := L2.us4 us hl; rfl
  have F29 := Zq (st := YM) l29 cc29 k29
  have b29 := F29.binds (ps := ["world", "name", "age", "out", "day"]) fun _ _ _ _ _ _ us hl => by obtain ⟨_, _, _, _, _, rfl⟩ := L2.us5 us hl; rfl
  have F30 := Zq (st := Xv) l30 cc30 k30
  have b30 := F30.binds (ps := ["word"]) fun _ _ _ _ _ _ us hl => by obtain ⟨_, rfl⟩ := L2.us1 us hl; rfl
  have F31 := Zq (st := Z8) l31 cc31 k31
  have b31 := F31.binds (ps := ["self"]) fun _ _ _ _ _ _ us hl => by obtain ⟨_, rfl⟩ := L2.us1 us hl; rfl
  have F32 := Zq (st := YU) l32 cc32 k32
  have b32 := F32.binds (ps := ["self", "name", "year"]) fun _ _ _ _ _ _ us hl => by obtain ⟨_, _, _, rfl⟩ := L2.us3 us hl; rfl
  have F33 := Zq (st := ZV) l33 cc33 k33
  have b33 := F33.binds (ps := ["self", "name"]) fun _ _ _ _ _ _ us hl => by obtain ⟨_, _, rfl⟩ := L2.us2 us hl; rfl
  have F34 := Zq (st := Yv) l34 cc34 k34
  have b34 := F34.binds (ps := ["self", "word", "born"]) fun _ _ _ _ _ _ us hl => by obtain ⟨_, _, _, rfl⟩ := L2.us3 us hl; rfl
  have F35 := Zq (st := YW) l35 cc35 k35
  have b35 := F35.binds (ps := ["self", "name", "year"]) fun _ _ _ _ _ _ us hl => by obtain ⟨_, _, _, rfl⟩ := L2.us3 us hl; rfl
  have F36 := Zq (st := YV) l36 cc36 k36
  have b36 := F36.binds (ps := ["self", "name", "year"]) fun _ _ _ _ _ _ us hl => by obtain ⟨_, _, _, rfl⟩ := L2.us3 us hl; rfl
  have F37 := Zq (st := YS) l37 cc37 k37
  have b37 := F37.binds (ps := ["self"]) fun _ _ _ _ _ _ us hl => by obtain ⟨_, rfl⟩ := L2.us1 us hl; rfl
  have F38 := Zq (st := Yu) l38 cc38 k38
  have b38 := F38.binds (ps := ["self"]) fun _ _ _ _ _ _ us hl => by obtain ⟨_, rfl⟩ := L2.us1 us hl; rfl
  have F39 := Zq (st := YR) l39 cc39 k39
  have b39 := F39.binds (ps := ["self", "name"]) fun _ _ _ _ _ _ us hl => by obtain ⟨_, _, rfl⟩ := L2.us2 us hl; rfl
  have F40 := Zq (st := Yr) l40 cc40 k40
  have b40 := F40.binds (ps := ["number", "low", "high"]) fun _ _ _ _ _ _ us hl => by obtain ⟨_, _, _, rfl⟩ := L2.us3 us hl; rfl
  have F41 := Zq (st := Z6) l41 cc41 k41
  have b41 := F41.binds (ps := ["self", "year"]) fun _ _ _ _ _ _ us hl => by obtain ⟨_, _, rfl⟩ := L2.us2 us hl; rfl
  have F42 := Zq (st := ZT) l42 cc42 k42
  have b42 := F42.binds (ps := ["self", "many"]) fun _ _ _ _ _ _ us hl => by obtain ⟨_, _, rfl⟩ := L2.us2 us hl; rfl
  have F43 := Zq (st := Yt) l43 cc43 k43
  have b43 := F43.binds (ps := ["self", "word", "age"]) fun _ _ _ _ _ _ us hl => by obtain ⟨_, _, _, rfl⟩ := L2.us3 us hl; rfl
  have F44 := Zq (st := YQ) l44 cc44 k44
  have b44 := F44.binds (ps := ["self", "name"]) fun _ _ _ _ _ _ us hl => by obtain ⟨_, _, rfl⟩ := L2.us2 us hl; rfl
  have F45 := Zq (st := YN) l45 cc45 k45
  have b45 := F45.binds (ps := ["self", "name"]) fun _ _ _ _ _ _ us hl => by obtain ⟨_, _, rfl⟩ := L2.us2 us hl; rfl
  have F46 := Zq (st := YO) l46 cc46 k46
  have b46 := F46.binds (ps := ["self", "word"]) fun _ _ _ _ _ _ us hl => by obtain ⟨_, _, rfl⟩ := L2.us2 us hl; rfl
  have F47 := Zq (st := JK) l47 cc47 k47
  have b47 := F47.binds (ps := ["_law_found"]) fun _ _ _ _ _ _ us hl => by obtain ⟨_, rfl⟩ := L2.us1 us hl; rfl
  have F48 := Zq (st := YJ) l48 cc48 k48
  have b48 := F48.binds (ps := ["_law_script", "_law_k"]) fun _ _ _ _ _ _ us hl => by obtain ⟨_, _, rfl⟩ := L2.us2 us hl; rfl
  have F49 := Zq (st := X3) l49 cc49 k49
  have b49 := F49.binds (ps := ["_law_cell", "_law_place"]) fun _ _ _ _ _ _ us hl => by obtain ⟨_, _, rfl⟩ := L2.us2 us hl; rfl
  have F50 := Zq (st := X2) l50 cc50 k50
  have b50 := F50.binds (ps := ["_law_n"]) fun _ _ _ _ _ _ us hl => by obtain ⟨_, rfl⟩ := L2.us1 us hl; rfl
  have F51 := Zq (st := XA) l51 cc51 k51
  have b51 := F51.binds (ps := ["_law_year"]) fun _ _ _ _ _ _ us hl => by obtain ⟨_, rfl⟩ := L2.us1 us hl; rfl
  have F52 := Zq (st := X8) l52 cc52 k52
  have b52 := F52.binds (ps := ["_law_model_here", "_law_name"]) fun _ _ _ _ _ _ us hl => by obtain ⟨_, _, rfl⟩ := L2.us2 us hl; rfl
  have F53 := Zq (st := Xb) l53 cc53 k53
  have b53 := F53.binds (ps := ["_law_model_here"]) fun _ _ _ _ _ _ us hl => by obtain ⟨_, rfl⟩ := L2.us1 us hl; rfl
  have F54 := Zq (st := X4) l54 cc54 k54
  have b54 := F54.binds (ps := ["_law_model_here", "_law_deed"]) fun _ _ _ _ _ _ us hl => by obtain ⟨_, _, rfl⟩ := L2.us2 us hl; rfl
  have F55 := Zq (st := Zw) l55 cc55 k55
  have b55 := F55.binds (ps := ["_law_model_here", "_law_n", "_law_far"]) fun _ _ _ _ _ _ us hl => by obtain ⟨_, _, _, rfl⟩ := L2.us3 us hl; rfl
  have F56 := Zq (st := Xz) l56 cc56 k56
  have b56 := F56.binds (ps := ["_law_n"]) fun _ _ _ _ _ _ us hl => by obtain ⟨_, rfl⟩ := L2.us1 us hl; rfl
  have F57 := Zq (st := s_law_do) l57 cc57 k57
  have b57 := F57.binds (ps := ["_law_world", "_law_deed"]) fun _ _ _ _ _ _ us hl => by obtain ⟨_, _, rfl⟩ := L2.us2 us hl; rfl
  have F58 := Zq (st := X5) l58 cc58 k58
  have b58 := F58.binds (ps := ["_law_model_here", "_law_n"]) fun _ _ _ _ _ _ us hl => by obtain ⟨_, _, rfl⟩ := L2.us2 us hl; rfl
  have F59 := Zq (st := X6) l59 cc59 k59
  have b59 := F59.binds (ps := ["_law_model_here", "_law_name"]) fun _ _ _ _ _ _ us hl => by obtain ⟨_, _, rfl⟩ := L2.us2 us hl; rfl
  have F60 := Zq (st := JL) l60 cc60 k60
  have b60 := F60.binds (ps := ["_law_model_here", "_law_name"]) fun _ _ _ _ _ _ us hl => by obtain ⟨_, _, rfl⟩ := L2.us2 us hl; rfl
  have F61 := Zq (st := YI) l61 cc61 k61
  have b61 := F61.binds (ps := ["_law_model_here", "_law_name", "_law_out"]) fun _ _ _ _ _ _ us hl => by obtain ⟨_, _, _, rfl⟩ := L2.us3 us hl; rfl
  have F62 := Zq (st := Xy) l62 cc62 k62
  have b62 := F62.binds (ps := ["_law_model_here", "_law_name", "_law_age_here", "_law_out"]) fun _ _ _ _ _ _ us hl => by obtain ⟨_, _, _, _, rfl⟩ := L2.us4 us hl; rfl
  have F63 := Zq (st := Xa) l63 cc63 k63
  have b63 := F63.binds (ps := ["_law_model_here", "_law_name", "_law_age_here", "_law_out"]) fun _ _ _ _ _ _ us hl => by obtain ⟨_, _, _, _, rfl⟩ := L2.us4 us hl; rfl
  have F64 := Zq (st := XB) l64 cc64 k64
  have b64 := F64.binds (ps := ["_law_model_here", "_law_name", "_law_age_here", "_law_out"]) fun _ _ _ _ _ _ us hl => by obtain ⟨_, _, _, _, rfl⟩ := L2.us4 us hl; rfl
  have F65 := Zq (st := Yn) l65 cc65 k65
  have b65 := F65.binds (ps := ["_law_model_here", "_law_n"]) fun _ _ _ _ _ _ us hl => by obtain ⟨_, _, rfl⟩ := L2.us2 us hl; rfl
  have F66 := Zq (st := Z1) l66 cc66 k66
  have b66 := F66.binds (ps := ["_law_world", "_law_model_here", "_law_made_here", "_law_told"]) fun _ _ _ _ _ _ us hl => by obtain ⟨_, _, _, _, rfl⟩ := L2.us4 us hl; rfl
  have F67 := Zq (st := X7) l67 cc67 k67
  have b67 := F67.binds (ps := ["_law_model_here", "_law_made_here"]) fun _ _ _ _ _ _ us hl => by obtain ⟨_, _, rfl⟩ := L2.us2 us hl; rfl
  have F68 := Zq (st := Jk) l68 cc68 k68
  refine ⟨{ LandError := c_LandError, NoText := c_NoText, OutOfBound := c_OutOfBound, Taken := c_Taken, NoPerson := c_NoPerson, Gone := c_Gone, TooDeep := c_TooDeep, Lives := c_Lives, World := c_World, MET := t_MET, FAILED := t_FAILED, HANGS := t_HANGS, LONGEST_WORD := t_LONGEST_WORD, LONGEST_NUMBER := t_LONGEST_NUMBER, MOST_NUMBERS := t_MOST_NUMBERS, BARRED := c_BARRED, LAST_FIRST_YEAR := t_LAST_FIRST_YEAR, MOST_YEARS := t_MOST_YEARS, OLDEST := t_OLDEST }, PySem.W.fnOf "law" "law" (Zj Jk) (Zi Jk) (Zb Jk) .none kV68 dc68 pm68 an68 cd68 ct68, fun s v => .of_eq rfl, fun base _ _ => ?_⟩
  generalize hg : ({ LandError := c_LandError, NoText := c_NoText, OutOfBound := c_OutOfBound, Taken := c_Taken, NoPerson := c_NoPerson, Gone := c_Gone, TooDeep := c_TooDeep, Lives := c_Lives, World := c_World, MET := t_MET, FAILED := t_FAILED, HANGS := t_HANGS, LONGEST_WORD := t_LONGEST_WORD, LONGEST_NUMBER := t_LONGEST_NUMBER, MOST_NUMBERS := t_MOST_NUMBERS, BARRED := c_BARRED, LAST_FIRST_YEAR := t_LAST_FIRST_YEAR, MOST_YEARS := t_MOST_YEARS, OLDEST := t_OLDEST } : Ga) = g at T
  have D_within : Dn l.prog w K mg base 1 "within" ["text", "low", "high"] (sp_within K g) := ⟨_, _, ok_within F0 T , PySem.W.mg_of X G a0, k0, b0⟩
  have D_good_word : Dn l.prog w K mg base 2 "good_word" ["word"] (Jz K g) := ⟨_, _, ok_good_word F1 T D_within, PySem.W.mg_of X G a1, k1, b1⟩
  have D_good_number : Dn l.prog w K mg base 2 "good_number" ["text"] (JO K g) := ⟨_, _, ok_good_number F2 T D_within, PySem.W.mg_of X G a2, k2, b2⟩
  have D_parts : Dx l.prog w K mg base 3 "parts" ["name"] (sp_parts K g) := ⟨_, _, ok_parts F3 T D_good_word D_good_number, PySem.W.mg_of X G a3, k3, b3⟩
  have D_shortened : Dn l.prog w K mg base 1 "shortened" ["name"] (sp_shortened K g) := ⟨_, _, ok_shortened F4 T , PySem.W.mg_of X G a4, k4, b4⟩
  have D_Lives_nearest : Dm l.prog w K mg base (CXR l.prog w base) g.Lives 4 "nearest" ["self", "name"] (Z5 K g) := ⟨T.cl_Lives, _, _, ok_Lives_nearest F5 T D_parts D_shortened, by rw [← hg]; exact ⟨a5, i5, k5⟩, b5⟩
  have D_nearest_named : Dx l.prog w K mg base 5 "nearest_named" ["world", "name"] (XW K g) := ⟨_, _, ok_nearest_named F6 T D_Lives_nearest, PySem.W.mg_of X G a6, k6, b6⟩
  have D_Lives_known : Dm l.prog w K mg base CX0 g.Lives 1 "known" ["self", "name"] (Ya K g) := ⟨T.cl_Lives, _, _, ok_Lives_known F7 T , by rw [← hg]; exact ⟨a7, i7, k7⟩, b7⟩
  have D_Lives_want_known : Dm l.prog w K mg base (CXR l.prog w base) g.Lives 2 "want_known" ["self", "name"] (ZK K g) := ⟨T.cl_Lives, _, _, ok_Lives_want_known F8 T D_Lives_known, by rw [← hg]; exact ⟨a8, i8, k8⟩, b8⟩
  have D_Lives_age_in : Dm l.prog w K mg base (CXR l.prog w base) g.Lives 3 "age_in" ["self", "name", "year"] (Xo K g) := ⟨T.cl_Lives, _, _, ok_Lives_age_in F9 T D_Lives_want_known, by rw [← hg]; exact ⟨a9, i9, k9⟩, b9⟩
  have D_World_age : Dm l.prog w K mg base (CXR l.prog w base) g.World 4 "age" ["self", "name"] (JB K g) := ⟨T.cl_World, _, _, ok_World_age F10 T D_Lives_age_in, by rw [← hg]; exact ⟨a10, i10, k10⟩, b10⟩
  have D_Lives_alive : Dm l.prog w K mg base CX0 g.Lives 1 "alive" ["self", "name"] (Yb K g) := ⟨T.cl_Lives, _, _, ok_Lives_alive F11 T , by rw [← hg]; exact ⟨a11, i11, k11⟩, b11⟩
  have D_age_stand : Dn l.prog w K mg base 5 "age_stand" ["world", "name", "age"] (JA K g) := ⟨_, _, ok_age_stand F12 T D_World_age D_Lives_alive, PySem.W.mg_of X G a12, k12, b12⟩
  have D_person_stand : Dx l.prog w K mg base 6 "person_stand" ["world", "atom"] (Jq K g) := ⟨_, _, ok_person_stand F13 T D_Lives_known D_age_stand D_Lives_alive D_nearest_named, PySem.W.mg_of X G a13, k13, b13⟩
  have D_World_came_in : Dm l.prog w K mg base CX0 g.World 1 "came_in" ["self", "word"] (Y7 K g) := ⟨T.cl_World, _, _, ok_World_came_in F14 T , by rw [← hg]; exact ⟨a14, i14, k14⟩, b14⟩
  have D_atom_stand : Dx l.prog w K mg base 7 "atom_stand" ["world", "atom"] (J7 K g) := ⟨_, _, ok_atom_stand F15 T D_person_stand D_World_came_in, PySem.W.mg_of X G a15, k15, b15⟩
  have D_Lives_died_in : Dm l.prog w K mg base (CXR l.prog w base) g.Lives 3 "died_in" ["self", "name"] (Y8 K g) := ⟨T.cl_Lives, _, _, ok_Lives_died_in F16 T D_Lives_want_known, by rw [← hg]; exact ⟨a16, i16, k16⟩, b16⟩
  have D_last_death : Dn l.prog w K mg base 5 "last_death" ["world", "name"] (Jd K g) := ⟨_, _, ok_last_death F17 T D_Lives_died_in D_Lives_nearest, PySem.W.mg_of X G a17, k17, b17⟩
  have D_Lives_born_in : Dm l.prog w K mg base (CXR l.prog w base) g.Lives 3 "born_in" ["self", "name"] (XZ K g) := ⟨T.cl_Lives, _, _, ok_Lives_born_in F18 T D_Lives_want_known, by rw [← hg]; exact ⟨a18, i18, k18⟩, b18⟩
  have D_met_since : Dn l.prog w K mg base 4 "met_since" ["world", "atom"] (sp_met_since K g) := ⟨_, _, ok_met_since F19 T D_Lives_born_in D_World_came_in D_Lives_died_in, PySem.W.mg_of X G a19, k19, b19⟩
  have D_atom_since : Dx l.prog w K mg base 8 "atom_since" ["world", "atom"] (J8 K g) := ⟨_, _, ok_atom_since F20 T D_atom_stand D_met_since D_last_death, PySem.W.mg_of X G a20, k20, b20⟩
  have D_Lives_children : Dm l.prog w K mg base (CXR l.prog w base) g.Lives 3 "children" ["self", "name"] (XM K g) := ⟨T.cl_Lives, _, _, ok_Lives_children F21 T D_Lives_want_known, by rw [← hg]; exact ⟨a21, i21, k21⟩, b21⟩
  have D_brood : Dn l.prog w K mg base 4 "brood" ["world", "name"] (sp_brood K g) := ⟨_, _, ok_brood F22 T D_Lives_known D_Lives_children, PySem.W.mg_of X G a22, k22, b22⟩
  have D_members : Dn l.prog w K mg base 5 "members" ["world", "name", "out"] (XX K g) := ⟨_, _, ok_members F23 T D_brood, PySem.W.mg_of X G a23, k23, b23⟩
  have D_seats : Dn l.prog w K mg base 6 "seats" ["world", "name", "age", "out"] (sp_seats K g) := ⟨_, _, ok_seats F24 T D_members D_Lives_age_in, PySem.W.mg_of X G a24, k24, b24⟩
  have D_has_seat : Dn l.prog w K mg base 6 "has_seat" ["world", "name", "age", "out"] (sp_has_seat K g) := ⟨_, _, ok_has_seat F25 T D_members D_World_age, PySem.W.mg_of X G a25, k25, b25⟩
  have D_waiting : Dn l.prog w K mg base 6 "waiting" ["world", "name", "age", "out"] (sp_waiting K g) := ⟨_, _, ok_waiting F26 T D_members D_age_stand, PySem.W.mg_of X G a26, k26, b26⟩
  have D_may_grow : Dn l.prog w K mg base 5 "may_grow" ["world", "name"] (sp_may_grow K g) := ⟨_, _, ok_may_grow F27 T D_Lives_alive D_Lives_nearest, PySem.W.mg_of X G a27, k27, b27⟩
  have D_class_stand : Dn l.prog w K mg base 7 "class_stand" ["world", "name", "age", "out"] (XI K g) := ⟨_, _, ok_class_stand F28 T D_may_grow D_waiting D_has_seat, PySem.W.mg_of X G a28, k28, b28⟩
  have D_class_since : Dn l.prog w K mg base 9 "class_since" ["world", "name", "age", "out", "day"] (JP K g) := ⟨_, _, ok_class_since F29 T D_class_stand D_atom_since D_members D_last_death, PySem.W.mg_of X G a29, k29, b29⟩
  have D_want_word : Dx l.prog w K mg base 3 "want_word" ["word"] (Jy K g) := ⟨_, _, ok_want_word F30 T D_good_word, PySem.W.mg_of X G a30, k30, b30⟩
  have K_Lives : Dk l.prog w K mg base CX0 g.Lives 1 "Lives" ["self"] (XN K g) := ⟨T.m_Lives, _, _, ok_Lives___init__ F31 T , by rw [← hg]; exact ⟨mk_Lives, a31, i31, kc_Lives⟩, b31⟩
  have D_Lives_enter : Dm l.prog w K mg base CX0 g.Lives 1 "enter" ["self", "name", "year"] (XL K g) := ⟨T.cl_Lives, _, _, ok_Lives_enter F32 T , by rw [← hg]; exact ⟨a32, i32, k32⟩, b32⟩
  have D_Lives_want_alive : Dm l.prog w K mg base (CXR l.prog w base) g.Lives 3 "want_alive" ["self", "name"] (Yq K g) := ⟨T.cl_Lives, _, _, ok_Lives_want_alive F33 T D_Lives_want_known D_Lives_alive, by rw [← hg]; exact ⟨a33, i33, k33⟩, b33⟩
  have D_Lives_arrive : Dm l.prog w K mg base (CXR l.prog w base) g.Lives 4 "arrive" ["self", "word", "born"] (Js K g) := ⟨T.cl_Lives, _, _, ok_Lives_arrive F34 T D_want_word D_Lives_known D_Lives_enter, by rw [← hg]; exact ⟨a34, i34, k34⟩, b34⟩
  have D_Lives_birth : Dm l.prog w K mg base (CXR l.prog w base) g.Lives 4 "birth" ["self", "name", "year"] (JU K g) := ⟨T.cl_Lives, _, _, ok_Lives_birth F35 T D_Lives_want_alive D_Lives_enter, by rw [← hg]; exact ⟨a35, i35, k35⟩, b35⟩
  have D_Lives_death : Dm l.prog w K mg base (CXR l.prog w base) g.Lives 4 "death" ["self", "name", "year"] (JT K g) := ⟨T.cl_Lives, _, _, ok_Lives_death F36 T D_Lives_want_alive, by rw [← hg]; exact ⟨a36, i36, k36⟩, b36⟩
  have D_Lives_names : Dm l.prog w K mg base CX0 g.Lives 1 "names" ["self"] (sp_Lives_names K g) := ⟨T.cl_Lives, _, _, ok_Lives_names F37 T , by rw [← hg]; exact ⟨a37, i37, k37⟩, b37⟩
  have D_Lives_living : Dm l.prog w K mg base CX0 g.Lives 1 "living" ["self"] (sp_Lives_living K g) := ⟨T.cl_Lives, _, _, ok_Lives_living F38 T , by rw [← hg]; exact ⟨a38, i38, k38⟩, b38⟩
  have D_Lives_never : Dm l.prog w K mg base (CXR l.prog w base) g.Lives 5 "never" ["self", "name"] (sp_Lives_never K g) := ⟨T.cl_Lives, _, _, ok_Lives_never F39 T D_Lives_known D_Lives_alive D_Lives_nearest, by rw [← hg]; exact ⟨a39, i39, k39⟩, b39⟩
  have D_want_between : Dx l.prog w K mg base 1 "want_between" ["number", "low", "high"] (YF K g) := ⟨_, _, ok_want_between F40 T , PySem.W.mg_of X G a40, k40, b40⟩
  have K_World : Dk l.prog w K mg base (CXR l.prog w base) g.World 3 "World" ["self", "year"] (XJ K g) := ⟨T.m_World, _, _, ok_World___init__ F41 T D_want_between K_Lives, by rw [← hg]; exact ⟨mk_World, a41, i41, kc_World⟩, b41⟩
  have D_World_pass_years : Dm l.prog w K mg base (CXR l.prog w base) g.World 2 "pass_years" ["self", "many"] (Xi K g) := ⟨T.cl_World, _, _, ok_World_pass_years F42 T D_want_between, by rw [← hg]; exact ⟨a42, i42, k42⟩, b42⟩
  have D_World_arrive : Dm l.prog w K mg base (CXR l.prog w base) g.World 5 "arrive" ["self", "word", "age"] (Jr K g) := ⟨T.cl_World, _, _, ok_World_arrive F43 T D_want_between D_Lives_arrive, by rw [← hg]; exact ⟨a43, i43, k43⟩, b43⟩
  have D_World_birth : Dm l.prog w K mg base (CXR l.prog w base) g.World 5 "birth" ["self", "name"] (JS K g) := ⟨T.cl_World, _, _, ok_World_birth F44 T D_Lives_birth, by rw [← hg]; exact ⟨a44, i44, k44⟩, b44⟩
  have D_World_death : Dm l.prog w K mg base (CXR l.prog w base) g.World 5 "death" ["self", "name"] (JQ K g) := ⟨T.cl_World, _, _, ok_World_death F45 T D_Lives_death, by rw [← hg]; exact ⟨a45, i45, k45⟩, b45⟩
  have D_World_comes : Dm l.prog w K mg base (CXR l.prog w base) g.World 4 "comes" ["self", "word"] (JR K g) := ⟨T.cl_World, _, _, ok_World_comes F46 T D_want_word, by rw [← hg]; exact ⟨a46, i46, k46⟩, b46⟩
  have D_law_num : Dn l.prog w K mg base 1 "_law_num" ["_law_found"] (sp_law_num K g) := ⟨_, _, ok_law_num F47 T , PySem.W.mg_of X G a47, k47, b47⟩
  have D_law_cell_at : Dn l.prog w K mg base 1 "_law_cell_at" ["_law_script", "_law_k"] (JN K g) := ⟨_, _, ok_law_cell_at F48 T , PySem.W.mg_of X G a48, k48, b48⟩
  have D_law_rich : Dn l.prog w K mg base 1 "_law_rich" ["_law_cell", "_law_place"] (sp_law_rich K g) := ⟨_, _, ok_law_rich F49 T , PySem.W.mg_of X G a49, k49, b49⟩
  have D_law_word : Dn l.prog w K mg base 1 "_law_word" ["_law_n"] (J3 K g) := ⟨_, _, ok_law_word F50 T , PySem.W.mg_of X G a50, k50, b50⟩
  have D_law_model : Dn l.prog w K mg base 1 "_law_model" ["_law_year"] (sp_law_model K g) := ⟨_, _, ok_law_model F51 T , PySem.W.mg_of X G a51, k51, b51⟩
  have D_law_kids : Dn l.prog w K mg base 1 "_law_kids" ["_law_model_here", "_law_name"] (Xt K g) := ⟨_, _, ok_law_kids F52 T , PySem.W.mg_of X G a52, k52, b52⟩
  have D_law_living : Dn l.prog w K mg base 1 "_law_living" ["_law_model_here"] (J6 K g) := ⟨_, _, ok_law_living F53 T , PySem.W.mg_of X G a53, k53, b53⟩
  have D_law_play : Dn l.prog w K mg base 2 "_law_play" ["_law_model_here", "_law_deed"] (sp_law_play K g) := ⟨_, _, ok_law_play F54 T D_law_kids, PySem.W.mg_of X G a54, k54, b54⟩
  have D_law_next_deed : Dn l.prog w K mg base 2 "_law_next_deed" ["_law_model_here", "_law_n", "_law_far"] (XY K g) := ⟨_, _, ok_law_next_deed F55 T D_law_living D_law_word, PySem.W.mg_of X G a55, k55, b55⟩
  have D_law_start : Dn l.prog w K mg base 2 "_law_start" ["_law_n"] (sp_law_start K g) := ⟨_, _, ok_law_start F56 T D_law_word, PySem.W.mg_of X G a56, k56, b56⟩
  have D_law_do : Dn l.prog w K mg base 6 "_law_do" ["_law_world", "_law_deed"] (sp_law_do K g) := ⟨_, _, ok_law_do F57 T D_World_comes D_World_pass_years D_World_arrive D_World_birth D_World_death, PySem.W.mg_of X G a57, k57, b57⟩
  have D_law_path : Dn l.prog w K mg base 1 "_law_path" ["_law_model_here", "_law_n"] (sp_law_path K g) := ⟨_, _, ok_law_path F58 T , PySem.W.mg_of X G a58, k58, b58⟩
  have D_law_near : Dn l.prog w K mg base 1 "_law_near" ["_law_model_here", "_law_name"] (sp_law_near K g) := ⟨_, _, ok_law_near F59 T , PySem.W.mg_of X G a59, k59, b59⟩
  have D_law_age : Dn l.prog w K mg base 1 "_law_age" ["_law_model_here", "_law_name"] (sp_law_age K g) := ⟨_, _, ok_law_age F60 T , PySem.W.mg_of X G a60, k60, b60⟩
  have D_law_members : Dn l.prog w K mg base 2 "_law_members" ["_law_model_here", "_law_name", "_law_out"] (XH K g) := ⟨_, _, ok_law_members F61 T D_law_kids, PySem.W.mg_of X G a61, k61, b61⟩
  have D_law_young : Dn l.prog w K mg base 3 "_law_young" ["_law_model_here", "_law_name", "_law_age_here", "_law_out"] (sp_law_young K g) := ⟨_, _, ok_law_young F62 T D_law_members D_law_age, PySem.W.mg_of X G a62, k62, b62⟩
  have D_law_seated : Dn l.prog w K mg base 3 "_law_seated" ["_law_model_here", "_law_name", "_law_age_here", "_law_out"] (J5 K g) := ⟨_, _, ok_law_seated F63 T D_law_members D_law_age, PySem.W.mg_of X G a63, k63, b63⟩
  have D_law_class : Dn l.prog w K mg base 4 "_law_class" ["_law_model_here", "_law_name", "_law_age_here", "_law_out"] (sp_law_class K g) := ⟨_, _, ok_law_class F64 T D_law_near D_law_young D_law_seated, PySem.W.mg_of X G a64, k64, b64⟩
  have D_law_made : Dn l.prog w K mg base 2 "_law_made" ["_law_model_here", "_law_n"] (sp_law_made K g) := ⟨_, _, ok_law_made F65 T D_law_path D_law_kids, PySem.W.mg_of X G a65, k65, b65⟩
  have D_law_fits : Dn l.prog w K mg base 10 "_law_fits" ["_law_world", "_law_model_here", "_law_made_here", "_law_told"] (sp_law_fits K g) := ⟨_, _, ok_law_fits F66 T D_class_stand D_class_since D_seats D_law_class D_law_num, PySem.W.mg_of X G a66, k66, b66⟩
  have D_law_last : Dn l.prog w K mg base 2 "_law_last" ["_law_model_here", "_law_made_here"] (sp_law_last K g) := ⟨_, _, ok_law_last F67 T D_law_kids, PySem.W.mg_of X G a67, k67, b67⟩
  have z := ok_law (P := l.prog) (w0 := w) (base := base) F68 T D_law_rich D_law_model D_law_start D_law_last D_law_cell_at D_law_do D_law_play D_law_next_deed D_law_fits D_law_made K_World
  exact z
theorem walk {l : PySem.W.OpenLaw} {q : Program} {loose : List Str} {XP : (Str → Option Value) → Heap → Prop} {YP : World → Heap → Prop} {d : DefRec} {K : Params → PySem.W.Frag} (hn : l.most = some 63) (hdf : d.params.defaults = [])
    (hY : ∀ (w : World) (h : Heap), YP w h → (K w.params).In h)
    (F : ∀ (w : World) (mg : Str → Option Value) (fa : Addr) (h : Heap), (K w.params).In h → h.Ns mainGlobals mg → mg d.name = some (.ref fa) →
      ∃ (g : Ga) (fd : FuncData), (∀ (s : Shared) (u : Value), BindsTo s fd ⟨[u], []⟩ [("_law_script", u)]) ∧ ∀ base : Heap, (K w.params).In base → base.Ns mainGlobals mg → FnOk l.prog w (K w.params) mg base CX0 11 fa fd ["_law_script"] (sp_law (K w.params) g)) :
    PySem.W.WalkO q loose XP YP l.row.toRowW d [] (fun f vs => PySem.call f vs) :=
  L2.walk_of (n := 63) (k := 11) (x := "_law_script") (CX := fun _ => CX0) (sp := fun w => sp_law (K w.params) {}) hn (by decide) hdf ⟨rfl, by decide, by decide⟩ hY (fun w mg fa h a b c => (F w mg fa h a b c).elim fun _ z => z) (fun _ _ a ns hl _ hS => ⟨a, ns, rfl, hS, hl, fun _ => rfl⟩) fun _ _ _ _ _ z => z
end My
namespace PySem.W.Fast
theorem tw15044476151159741521 : True := trivial
theorem tw14362097784116947394 : True := trivial
theorem tw5067782092206361591 : True := trivial
theorem tw18121066050788940253 : True := trivial
theorem tw13838654938420575251 : True := trivial
theorem tw13157072694675979048 : True := trivial
theorem tw9814444884506397675 : True := trivial
theorem tw15610638807140556961 : True := trivial
theorem tw2313773673894126885 : True := trivial
theorem tw18351358889739553138 : True := trivial
theorem tw2461025507451411505 : True := trivial
theorem tw16890913719975997505 : True := trivial
theorem tw344872301284859956 : True := trivial
theorem tw4688533251225632036 : True := trivial
theorem tw8194646721349484954 : True := trivial
theorem tw8279811666287049973 : True := trivial
theorem tw4721724797757429475 : True := trivial
theorem tw1930706728899197730 : True := trivial
theorem tw3565585345934837564 : True := trivial
theorem tw17643739886632323270 : True := trivial
theorem tw17682968923054028095 : True := trivial
theorem tw683794038298942613 : True := trivial
theorem tw6550553355130225721 : True := trivial
theorem tw4414411396286530601 : True := trivial
theorem tw12320461165974118161 : True := trivial
theorem tw7433926559218678313 : True := trivial
theorem tw579034918712945301 : True := trivial
theorem tw15848240323447068970 : True := trivial
theorem tw12557619740652616916 : True := trivial
theorem tw15518779438293192362 : True := trivial
theorem tw9391017534203846471 : True := trivial
theorem tw8758551236187898159 : True := trivial
theorem tw9754456531433637734 : True := trivial
theorem tw15773989255502325765 : True := trivial
theorem tw3371877322093718296 : True := trivial
theorem tw4375679613436937491 : True := trivial
theorem tw4732655387135637462 : True := trivial
theorem tw8637038811546494845 : True := trivial
theorem tw3800896754423393724 : True := trivial
theorem tw3194751327829307190 : True := trivial
theorem tw5889984079080316459 : True := trivial
theorem tw17939135547859800272 : True := trivial
theorem tw7140623660170722825 : True := trivial
theorem tw4809457056444272276 : True := trivial
theorem tw2352356825318367704 : True := trivial
theorem tw9749974080273387485 : True := trivial
theorem tw6243157592937181373 : True := trivial
theorem tw7312493301145042939 : True := trivial
theorem tw8369086112263137814 : True := trivial
theorem tw12406685956377277820 : True := trivial
theorem tw7383045109269658970 : True := trivial
theorem tw545914310105574443 : True := trivial
theorem tw3054495480244864732 : True := trivial
theorem tw11940014998331184298 : True := trivial
theorem tw9116906651187479445 : True := trivial
end PySem.W.Fast
open PySem PySem.W PyProof.Rows
set_option maxRecDepth 100000 in
set_option maxHeartbeats 0 in
theorem PySem.Challenge.cw_deadhand_k17_class_settles_holds : PySem.Challenge.rw_deadhand_k17_class_settles.Holds := by
  w_on; o_law; z_head; (case hw => w_witness2)
  refine L2.walkX_of (by intro P; exact rfl) (My.walk (l := PySem.Challenge.rw_deadhand_k17_class_settles) rfl rfl (fun w h Y => Y) ?F)
  case F =>
    intro w mg fa h KX G hmg
    refine' My.all_mk KX G hmg ?zz_isinstance ?zz_int ?zz_bool ?zz_len ?zz_range ?zz_list ?zz_str ?zz_min ?zz_max ?zz_enumerate ?zz_ValueError ?am_LandError ?am_NoText ?am_OutOfBound ?am_Taken ?am_NoPerson ?am_Gone ?am_TooDeep ?xx_Gone ?xga_Gone ?xhk_Gone ?xca_Gone ?xmo_Gone ?xsb_Gone ?xx_NoPerson ?xga_NoPerson ?xhk_NoPerson ?xca_NoPerson ?xmo_NoPerson ?xsb_NoPerson ?xx_NoText ?xga_NoText ?xhk_NoText ?xca_NoText ?xmo_NoText ?xsb_NoText ?xx_OutOfBound ?xga_OutOfBound ?xhk_OutOfBound ?xca_OutOfBound ?xmo_OutOfBound ?xsb_OutOfBound ?xx_Taken ?xga_Taken ?xhk_Taken ?xca_Taken ?xmo_Taken ?xsb_Taken ?xx_TooDeep ?xga_TooDeep ?xhk_TooDeep ?xca_TooDeep ?xmo_TooDeep ?xsb_TooDeep ?am_Lives ?pg_Lives ?hd_Lives ?po_Lives ?sa_Lives ?na_Lives_births ?na_Lives_deaths ?na_Lives_broods ?am_World ?pg_World ?hd_World ?po_World ?sa_World ?na_World_year ?na_World_lives ?na_World_happened ?am_MET ?am_FAILED ?am_HANGS ?am_LONGEST_WORD ?am_LONGEST_NUMBER ?am_MOST_NUMBERS ?am_BARRED ?lk_BARRED ?am_LAST_FIRST_YEAR ?am_MOST_YEARS ?am_OLDEST ?a0 ?l0 ?cc0 ?k0 ?a1 ?l1 ?cc1 ?k1 ?a2 ?l2 ?cc2 ?k2 ?a3 ?l3 ?cc3 ?k3 ?a4 ?l4 ?cc4 ?k4 ?a5 ?i5 ?l5 ?cc5 ?k5 ?a6 ?l6 ?cc6 ?k6 ?a7 ?i7 ?l7 ?cc7 ?k7 ?a8 ?i8 ?l8 ?cc8 ?k8 ?a9 ?i9 ?l9 ?cc9 ?k9 ?a10 ?i10 ?l10 ?cc10 ?k10 ?a11 ?i11 ?l11 ?cc11 ?k11 ?a12 ?l12 ?cc12 ?k12 ?a13 ?l13 ?cc13 ?k13 ?a14 ?i14 ?l14 ?cc14 ?k14 ?a15 ?l15 ?cc15 ?k15 ?a16 ?i16 ?l16 ?cc16 ?k16 ?a17 ?l17 ?cc17 ?k17 ?a18 ?i18 ?l18 ?cc18 ?k18 ?a19 ?l19 ?cc19 ?k19 ?a20 ?l20 ?cc20 ?k20 ?a21 ?i21 ?l21 ?cc21 ?k21 ?a22 ?l22 ?cc22 ?k22 ?a23 ?l23 ?cc23 ?k23 ?a24 ?l24 ?cc24 ?k24 ?a25 ?l25 ?cc25 ?k25 ?a26 ?l26 ?cc26 ?k26 ?a27 ?l27 ?cc27 ?k27 ?a28 ?l28 ?cc28 ?k28 ?a29 ?l29 ?cc29 ?k29 ?a30 ?l30 ?cc30 ?k30 ?a31 ?i31 ?l31 ?cc31 ?k31 ?a32 ?i32 ?l32 ?cc32 ?k32 ?a33 ?i33 ?l33 ?cc33 ?k33 ?a34 ?i34 ?l34 ?cc34 ?k34 ?a35 ?i35 ?l35 ?cc35 ?k35 ?a36 ?i36 ?l36 ?cc36 ?k36 ?a37 ?i37 ?l37 ?cc37 ?k37 ?a38 ?i38 ?l38 ?cc38 ?k38 ?a39 ?i39 ?l39 ?cc39 ?k39 ?a40 ?l40 ?cc40 ?k40 ?a41 ?i41 ?l41 ?cc41 ?k41 ?a42 ?i42 ?l42 ?cc42 ?k42 ?a43 ?i43 ?l43 ?cc43 ?k43 ?a44 ?i44 ?l44 ?cc44 ?k44 ?a45 ?i45 ?l45 ?cc45 ?k45 ?a46 ?i46 ?l46 ?cc46 ?k46 ?a47 ?l47 ?cc47 ?k47 ?a48 ?l48 ?cc48 ?k48 ?a49 ?l49 ?cc49 ?k49 ?a50 ?l50 ?cc50 ?k50 ?a51 ?l51 ?cc51 ?k51 ?a52 ?l52 ?cc52 ?k52 ?a53 ?l53 ?cc53 ?k53 ?a54 ?l54 ?cc54 ?k54 ?a55 ?l55 ?cc55 ?k55 ?a56 ?l56 ?cc56 ?k56 ?a57 ?l57 ?cc57 ?k57 ?a58 ?l58 ?cc58 ?k58 ?a59 ?l59 ?cc59 ?k59 ?a60 ?l60 ?cc60 ?k60 ?a61 ?l61 ?cc61 ?k61 ?a62 ?l62 ?cc62 ?k62 ?a63 ?l63 ?cc63 ?k63 ?a64 ?l64 ?cc64 ?k64 ?a65 ?l65 ?cc65 ?k65 ?a66 ?l66 ?cc66 ?k66 ?a67 ?l67 ?cc67 ?k67 ?a68 ?l68 ?cc68 ?k68 ?mk_Lives ?kc_Lives ?mk_World ?kc_World
    (case zz_isinstance => k_is)
    (case zz_int => k_is)
    (case zz_bool => k_is)
    (case zz_len => k_is)
    (case zz_range => k_is)
    (case zz_list => k_is)
    (case zz_str => k_is)
    (case zz_min => k_is)
    (case zz_max => k_is)
    (case zz_enumerate => k_is)
    (case zz_ValueError => k_is)
    (case am_LandError => k_is)
    (case am_NoText => k_is)
    (case am_OutOfBound => k_is)
    (case am_Taken => k_is)
    (case am_NoPerson => k_is)
    (case am_Gone => k_is)
    (case am_TooDeep => k_is)
    (case xx_Gone => k_exc)
    (case xga_Gone => k_is)
    (case xhk_Gone => k_is)
    (case xca_Gone => k_is)
    (case xmo_Gone => k_is)
    (case xsb_Gone => k_is)
    (case xx_NoPerson => k_exc)
    (case xga_NoPerson => k_is)
    (case xhk_NoPerson => k_is)
    (case xca_NoPerson => k_is)
    (case xmo_NoPerson => k_is)
    (case xsb_NoPerson => k_is)
    (case xx_NoText => k_exc)
    (case xga_NoText => k_is)
    (case xhk_NoText => k_is)
    (case xca_NoText => k_is)
    (case xmo_NoText => k_is)
    (case xsb_NoText => k_is)
    (case xx_OutOfBound => k_exc)
    (case xga_OutOfBound => k_is)
    (case xhk_OutOfBound => k_is)
    (case xca_OutOfBound => k_is)
    (case xmo_OutOfBound => k_is)
    (case xsb_OutOfBound => k_is)
    (case xx_Taken => k_exc)
    (case xga_Taken => k_is)
    (case xhk_Taken => k_is)
    (case xca_Taken => k_is)
    (case xmo_Taken => k_is)
    (case xsb_Taken => k_is)
    (case xx_TooDeep => k_exc)
    all_goals (try k_is)
