import PyProof.Rows.All
import Wide.All
import OpenK.AllK
import Wide.FinOn
import Lean
import PyProof.EqAt
import PyProof.EqKinds
import PyProof.TupleCall
import KE.KDictList
import PyProof.Rows.StrCountLaw
import KE.KIntText
import PyProof.P3In
import PySem.Challenge.RW_deadhand_k21_earliest_end
set_option Elab.async false
set_option linter.all false
set_option maxRecDepth 100000
namespace L2
open PySem PySem.Spec PyProof.Rows

noncomputable abbrev Key := Sum Int Str
noncomputable def keyIs : Key → Value → Bool
  | .inl k, v => Value.isInt k v
  | .inr x, v => Value.isStrOf x v
noncomputable def keyH (w : World) : Key → Int
  | .inl k => hashInt k
  | .inr x => hashStr w x
theorem keyIs_shape : ∀ {k : Key} {v : Value}, keyIs k v = true → (∃ i t, k = Sum.inl i ∧ v = Value.int i t) ∨ (∃ x t, k = Sum.inr x ∧ v = Value.str x t)
  | .inl i, v, h => by
    obtain ⟨t, e⟩ := Value.isInt_shape (k := i) (v := v) h
    exact .inl ⟨i, t, rfl, e⟩
  | .inr x, v, h => by
    obtain ⟨t, e⟩ := Value.isStrOf_shape (x := x) (v := v) h
    exact .inr ⟨x, t, rfl, e⟩
theorem keyIs_int (i : Int) (t : Tok) : keyIs (.inl i) (.int i t) = true := by simp [keyIs, Value.isInt]
theorem keyIs_str (x : Str) (t : Tok) : keyIs (.inr x) (.str x t) = true := by simp [keyIs, Value.isStrOf]
theorem key_ll (a b : Int) : decide ((Sum.inl a : Key) = Sum.inl b) = (a == b) := by
  by_cases e : a = b
  · subst e; simp
  · have h : ¬ (Sum.inl a : Key) = Sum.inl b := fun q => e (Sum.inl.inj q)
    rw [decide_eq_false h]
    exact (beq_eq_false_iff_ne.mpr e).symm
theorem key_rr (a b : Str) : decide ((Sum.inr a : Key) = Sum.inr b) = decide (a = b) := by
  by_cases e : a = b
  · subst e; simp
  · have h : ¬ (Sum.inr a : Key) = Sum.inr b := fun q => e (Sum.inr.inj q)
    rw [decide_eq_false h, decide_eq_false e]
theorem key_lr (a : Int) (b : Str) : decide ((Sum.inl a : Key) = Sum.inr b) = false := decide_eq_false (fun q => nomatch q)
theorem key_rl (a : Str) (b : Int) : decide ((Sum.inr a : Key) = Sum.inl b) = false := decide_eq_false (fun q => nomatch q)
noncomputable def mixKind (prog : Program) (w : World) : PySem.KeyKind prog w Key where
  is := keyIs
  hash := keyH w
  inj := fun v a b ha hb => by
    rcases keyIs_shape ha with ⟨i, t, rfl, rfl⟩ | ⟨x, t, rfl, rfl⟩
    · rcases keyIs_shape hb with ⟨j, u, rfl, e⟩ | ⟨y, u, rfl, e⟩
      · injection e with e1 _; rw [e1]
      · exact nomatch e
    · rcases keyIs_shape hb with ⟨j, u, rfl, e⟩ | ⟨y, u, rfl, e⟩
      · exact nomatch e
      · injection e with e1 _; rw [e1]
  byValue := fun k v h => by
    rcases keyIs_shape h with ⟨i, t, rfl, rfl⟩ | ⟨x, t, rfl, rfl⟩ <;> rfl
  pyHash := fun hv h => by
    rcases keyIs_shape hv with ⟨i, t, rfl, rfl⟩ | ⟨x, t, rfl, rfl⟩
    · exact wpAny_pyHash_int h
    · exact wpAny_pyHash_str h
  eqBool := fun hu hv h => by
    rcases keyIs_shape hu with ⟨i, t, rfl, rfl⟩ | ⟨x, t, rfl, rfl⟩
    · rcases keyIs_shape hv with ⟨j, u, rfl, rfl⟩ | ⟨y, u, rfl, rfl⟩
      · rw [key_ll] at h; exact wpAny_eqBool_int h
      · rw [key_lr] at h; exact SeqAt.EqAt.int_str i t y u _ _ _ _ h
    · rcases keyIs_shape hv with ⟨j, u, rfl, rfl⟩ | ⟨y, u, rfl, rfl⟩
      · rw [key_rl] at h; exact SeqAt.EqAt.str_int x t j u _ _ _ _ h
      · rw [key_rr] at h; exact wpAny_eqBool_str h
  «strs» := fun k x t v h => by
    rcases keyIs_shape h with ⟨i, u, rfl, e⟩ | ⟨y, u, rfl, e⟩
    · exact nomatch e
    · injection e with e1 _
      subst e1
      cases v <;> rfl
theorem mixKind_int (prog : Program) (w : World) (i : Int) (t : Tok) : (mixKind prog w).is (.inl i) (.int i t) = true := keyIs_int i t
theorem mixKind_str (prog : Program) (w : World) (x : Str) (t : Tok) : (mixKind prog w).is (.inr x) (.str x t) = true := keyIs_str x t
end L2

namespace L2
open PySem PySem.Spec PyProof.Rows

inductive V where
  | non | bl (b : Bool) | int (i : Int) | str (x : Str) | byt (b : Array UInt8) | flt (b : UInt64) | ref (a : Addr) | ty (n : String)
  deriving DecidableEq
noncomputable def RelV : V → Value → Prop
  | .non, u => u = Value.none
  | .bl b, u => u = Value.bool b
  | .int i, u => ∃ t, u = Value.int i t
  | .str x, u => ∃ t, u = Value.str x t
  | .byt b, u => ∃ t, u = Value.bytes b t
  | .flt b, u => ∃ t, u = Value.float b t
  | .ref a, u => u = Value.ref a
  | .ty n, u => u = Value.type n
noncomputable abbrev Vals : List V → List Value → Prop := Paired RelV
theorem Vals.length {xs : List V} {us : List Value} (r : Vals xs us) : xs.length = us.length := Paired.length r
theorem Vals.get : ∀ {xs : List V} {us : List Value} {i : Nat} {x : V}, Vals xs us → xs[i]? = some x → ∃ u, us[i]? = some u ∧ RelV x u
  | _, _, _, _, .nil, e => by simp at e
  | _, _, 0, _, .cons r _, e => by simp at e; subst e; exact ⟨_, rfl, r⟩
  | _, _, i + 1, x, .cons _ t, e => by
    obtain ⟨u, h1, h2⟩ := Vals.get (i := i) (x := x) t (by simpa using e)
    exact ⟨u, by simpa using h1, h2⟩
theorem Vals.set {x : V} {u : Value} (r : RelV x u) : ∀ {xs : List V} {us : List Value} (i : Nat), Vals xs us → Vals (xs.set i x) (us.set i u)
  | _, _, _, .nil => .nil
  | _, _, 0, .cons _ t => .cons r t
  | _, _, i + 1, .cons q t => .cons q (Vals.set r i t)
theorem Vals.append : ∀ {xs ys : List V} {us ws : List Value}, Vals xs us → Vals ys ws → Vals (xs ++ ys) (us ++ ws)
  | _, _, _, _, .nil, s => s
  | _, _, _, _, .cons r t, s => .cons r (Vals.append t s)
theorem Vals.take : ∀ {xs : List V} {us : List Value} (n : Nat), Vals xs us → Vals (xs.take n) (us.take n)
  | _, _, 0, _ => .nil
  | _, _, _ + 1, .nil => .nil
  | _, _, n + 1, .cons r t => .cons r (Vals.take n t)
theorem Vals.drop : ∀ {xs : List V} {us : List Value} (n : Nat), Vals xs us → Vals (xs.drop n) (us.drop n)
  | _, _, 0, r => r
  | _, _, _ + 1, .nil => .nil
  | _, _, n + 1, .cons _ t => Vals.drop n t
theorem Vals.none_of : ∀ {xs : List V} {us : List Value} {i : Nat}, Vals xs us → xs[i]? = none → us[i]? = none := fun {xs us i} r e => by
  have h1 := r.length
  have h2 : xs.length ≤ i := List.getElem?_eq_none_iff.mp e
  exact List.getElem?_eq_none_iff.mpr (by omega)
noncomputable def RelO : Option V → Option Value → Prop
  | some v, some u => RelV v u
  | none, none => True
  | _, _ => False
noncomputable def KV {κ : Type} : List (κ × V) → List (κ × Value) → Prop := Paired fun (p : κ × V) (q : κ × Value) => p.1 = q.1 ∧ RelV p.2 q.2
noncomputable def kV : Key → V
  | .inl i => .int i
  | .inr x => .str x
inductive HO where
  /-- a list -/
  | lst (xs : List V)
  /-- a tuple (never changes) -/
  | tup (xs : List V)
  /-- a dict whose keys are ints and texts; one whose keys are tuples of ints and texts (the empty one is both) -/
  | dK (kvs : List (Key × V)) | dT (kvs : List (List Key × V))
  /-- a set of ints: its members, its size -/
  | set (S : Int → Bool) (n : Nat)
  /-- an instance of the class at C, its dict at dx, its attributes -/
  | ins (C dx : Addr) (fs : List (Str × V))
  /-- the dict of the instance at x -/
  | own (x : Addr)
  /-- the dict of an exception -/
  | xd (fs : List (Str × V))
  /-- a bound method, f of x -/
  | met (f x : Addr)
  /-- a range object lo, lo + 1, .. below hi -/
  | rng (lo hi : Int)
  /-- a thing that is known to the object (the script; a dict while a loop walks it): read, never written while it is so -/
  | frz (o : Obj) (u : HO)
  /-- a code object's table -/
  | tbl (ps : Array Value)
  /-- any other thing, by what is true of its one object (a def of one's own: SetO a S n := HO.ext fun h => ..) -/
  | ext (φ : Heap → Prop)
noncomputable abbrev Hp := Addr → Option HO
noncomputable def upd (H : Hp) (a : Addr) (o : HO) : Hp := fun b => if b = a then some o else H b
theorem upd_same {H : Hp} {a : Addr} {o : HO} : upd H a o a = some o := by unfold upd; rw [if_pos rfl]
theorem upd_ne {H : Hp} {a b : Addr} {o : HO} (h : b ≠ a) : upd H a o b = H b := by unfold upd; rw [if_neg h]
theorem upd_upd {H : Hp} {a : Addr} {o u : HO} : upd (upd H a o) a u = upd H a u := by
  funext b; unfold upd; split <;> rfl
theorem ne_of {H : Hp} {a b : Addr} {o u : HO} (h : H a = some o) (h' : H b = some u) (d : o ≠ u) : a ≠ b := by
  intro e; subst e; rw [h] at h'; exact d (Option.some.inj h')
theorem ne_of_none {H : Hp} {a b : Addr} {o : HO} (h : H a = some o) (h' : H b = none) : a ≠ b := by
  intro e; subst e; rw [h] at h'; cases h'
section
variable (P : Program) (w : World)
noncomputable def ObjOk (H : Hp) (h : Heap) (a : Addr) : HO → Prop
  | .lst xs => xs.length ≤ sizeLine ∧ ∃ (its : List Value) (n : Nat), Vals xs its ∧ h.get? a = some { cls := .type "list", data := .seq its.toArray n }
  | .tup xs => xs.length ≤ sizeLine ∧ ∃ its : List Value, Vals xs its ∧ IsTup h a its.toArray
  | .dK kvs => kvs.length ≤ sizeLine ∧ (a == sysModules) = false ∧ ∃ vs, KV kvs vs ∧ h.DictOf (mixKind P w) a vs
  | .dT kvs => kvs.length ≤ sizeLine ∧ (a == sysModules) = false ∧ ∃ xs : List (List Key × Addr × Value),
      Paired (fun (p : List Key × V) (q : List Key × Addr × Value) => p.1 = q.1 ∧ H q.2.1 = some (.tup (p.1.map kV)) ∧ RelV p.2 q.2.2) kvs xs ∧
      ∃ o es ep, h.get? a = some o ∧ o.ExactDict ∧ o.data = .dict es ep ∧ es.toList = xs.map (entryOfKey (tupleKind (mixKind P w))) ∧ (xs.map (·.1)).Nodup
  | .set S n => h.SetOf (intKind P w) a S n
  | .ins C dx fs => H dx = some (.own a) ∧ fs.length ≤ 1000 ∧ dx ≠ a ∧ h.get? a = some (PySem.W.instObj C dx) ∧
      ∃ mA, h.Ns1 dx mA ∧ (∀ f, RelO (fs.lookup f) (mA f)) ∧ PySem.Within mA (fs.map (·.1))
  | .own _ => ∃ o, h.get? a = some o
  | .xd fs => ∃ mA, h.Ns1 a mA ∧ ∀ f, RelO (fs.lookup f) (mA f)
  | .rng lo hi => ∃ t u v, h.get? a = some { cls := .type "range", data := .fields #[.int lo t, .int hi u, .int 1 v] }
  | .frz o u => h.get? a = some o ∧ ObjOk H h a u
  | .tbl ps => h.get? a = some { cls := .none, data := .fields ps }
  | .met f x => h.get? a = some (PySem.W.methodObj (.ref f) (.ref x))
  | .ext φ => φ h ∧ (∃ o, h.get? a = some o) ∧ ∀ h1 h2 : Heap, φ h1 → (∀ o, h1.get? a = some o → h2.get? a = some o) → φ h2
noncomputable def HOk (H : Hp) (h : Heap) : Prop := ∀ a o, H a = some o → ObjOk P w H h a o
end

section
variable {P : Program} {w : World} {H H' : Hp} {h h' : Heap} {a : Addr} {o : HO}
theorem ObjOk.lt (x : ObjOk P w H h a o) : a < h.objs.size := by
  cases o with
  | lst xs => obtain ⟨_, _, _, _, e⟩ := x; exact Heap.lt_size e
  | tup xs => obtain ⟨_, _, _, p⟩ := x; exact p.lt
  | dK kvs => obtain ⟨_, _, _, _, o, _, _, e, _⟩ := x; exact Heap.lt_size e
  | dT kvs => obtain ⟨_, _, _, _, o, _, _, e, _⟩ := x; exact Heap.lt_size e
  | set S n => obtain ⟨o, _, _, _, e, _⟩ := x; exact Heap.lt_size e
  | ins C dx fs => obtain ⟨_, _, _, e, _⟩ := x; exact Heap.lt_size e
  | own y => obtain ⟨_, e⟩ := x; exact Heap.lt_size e
  | xd fs => obtain ⟨_, ⟨_, _, _, e, _⟩, _⟩ := x; exact Heap.lt_size e
  | rng lo hi => obtain ⟨_, _, _, e⟩ := x; exact Heap.lt_size e
  | frz ob u => obtain ⟨e, _⟩ := x; exact Heap.lt_size e
  | tbl ps => exact Heap.lt_size (show h.get? a = some _ from x)
  | met f y => exact Heap.lt_size (show h.get? a = some _ from x)
  | ext φ => obtain ⟨_, ⟨_, e⟩, _⟩ := x; exact Heap.lt_size e
theorem Paired.mapP {α β : Type} {F G : α → β → Prop} : ∀ {l₁ : List α} {l₂ : List β}, Paired F l₁ l₂ → (∀ a b, F a b → G a b) → Paired G l₁ l₂
  | _, _, .nil, _ => .nil
  | _, _, .cons r t, f => .cons (f _ _ r) (Paired.mapP t f)
theorem ObjOk.stay (x : ObjOk P w H h a o) (k : ∀ b u, (b = a ∨ H b = some (.own a)) → h.get? b = some u → h'.get? b = some u)
    (ho : ∀ b, H b = some (.own a) → H' b = some (.own a)) (ht : ∀ b xs, H b = some (.tup xs) → H' b = some (.tup xs)) : ObjOk P w H' h' a o := by
  induction o with
  | lst xs => obtain ⟨z, its, n, r, e⟩ := x; exact ⟨z, its, n, r, k _ _ (.inl rfl) e⟩
  | tup xs => obtain ⟨z, its, r, ob, e, c⟩ := x; exact ⟨z, its, r, ob, k _ _ (.inl rfl) e, c⟩
  | dK kvs => obtain ⟨z, y, vs, r, ob, es, ep, e, c⟩ := x; exact ⟨z, y, vs, r, ob, es, ep, k _ _ (.inl rfl) e, c⟩
  | dT kvs =>
    obtain ⟨z, y, xs, r, ob, es, ep, e, c⟩ := x
    exact ⟨z, y, xs, Paired.mapP r fun p q z => ⟨z.1, ht _ _ z.2.1, z.2.2⟩, ob, es, ep, k _ _ (.inl rfl) e, c⟩
  | set S n => obtain ⟨ob, es, ep, t, e, c⟩ := x; exact ⟨ob, es, ep, t, k _ _ (.inl rfl) e, c⟩
  | ins C dx fs =>
    obtain ⟨d, z, ne, e, mA, ⟨od, es, ep, e2, c⟩, r⟩ := x
    exact ⟨ho _ d, z, ne, k _ _ (.inl rfl) e, mA, ⟨od, es, ep, k _ _ (.inr d) e2, c⟩, r⟩
  | own y => obtain ⟨ob, e⟩ := x; exact ⟨ob, k _ _ (.inl rfl) e⟩
  | xd fs => obtain ⟨mA, ⟨od, es, ep, e, c⟩, r⟩ := x; exact ⟨mA, ⟨od, es, ep, k _ _ (.inl rfl) e, c⟩, r⟩
  | rng lo hi => obtain ⟨t, u, v, e⟩ := x; exact ⟨t, u, v, k _ _ (.inl rfl) e⟩
  | frz ob u ih => obtain ⟨e, q⟩ := x; exact ⟨k _ _ (.inl rfl) e, ih q⟩
  | tbl ps =>
    have e : h.get? a = some { cls := .none, data := .fields ps } := x
    show h'.get? a = some { cls := .none, data := .fields ps }
    exact k a _ (.inl rfl) e
  | met f y =>
    have e : h.get? a = some (PySem.W.methodObj (.ref f) (.ref y)) := x
    show h'.get? a = some (PySem.W.methodObj (.ref f) (.ref y))
    exact k a _ (.inl rfl) e
  | ext φ => obtain ⟨p, ⟨o, e⟩, st⟩ := x; exact ⟨st _ _ p fun o q => k _ _ (.inl rfl) q, ⟨o, k _ _ (.inl rfl) e⟩, st⟩
theorem HOk.lt (x : HOk P w H h) (e : H a = some o) : a < h.objs.size := (x a o e).lt
theorem HOk.fresh (x : HOk P w H h) (e : h.objs.size ≤ a) : H a = none := by
  cases q : H a with
  | none => rfl
  | some u => exact absurd (Nat.lt_of_lt_of_le (x.lt q) e) (Nat.lt_irrefl _)
theorem HOk.kept (x : HOk P w H h) (k : ∀ b u, h.get? b = some u → h'.get? b = some u) : HOk P w H h' := fun a o e =>
  (x a o e).stay (fun b u _ q => k b u q) (fun _ q => q) fun _ _ q => q
theorem HOk.laid (x : HOk P w H h) (k : ∀ b u, h.get? b = some u → h'.get? b = some u) (hp : h.objs.size ≤ a) (new : ObjOk P w (upd H a o) h' a o) : HOk P w (upd H a o) h' := fun b u e => by
  have hn := x.fresh hp
  by_cases hb : b = a
  · subst hb; rw [upd_same] at e; cases e; exact new
  · rw [upd_ne hb] at e
    exact (x b u e).stay (fun c v _ q => k c v q) (fun c q => by rw [upd_ne (ne_of_none q hn)]; exact q) fun c xs q => by rw [upd_ne (ne_of_none q hn)]; exact q
end

noncomputable def Rd (H : Hp) (a : Addr) (u : HO) : Prop := H a = some u ∨ ∃ o, H a = some (.frz o u)
theorem Rd.of {H : Hp} {a : Addr} {u : HO} (h : H a = some u) : Rd H a u := .inl h
theorem Rd.ok {P : Program} {w : World} {H : Hp} {h : Heap} {a : Addr} {u : HO} (r : Rd H a u) (x : HOk P w H h) : ObjOk P w H h a u := by
  rcases r with r | ⟨o, r⟩
  · exact x a u r
  · obtain ⟨_, q⟩ := x a _ r
    exact q
noncomputable def Mut : Option HO → Prop
  | some (.lst _) => True
  | some (.dK _) => True
  | some (.dT _) => True
  | some (.set _ _) => True
  | some (.ins _ _ _) => True
  | some (.ext _) => True
  | _ => False
section
variable {P : Program} {w : World} {H : Hp} {h h' : Heap} {x e : Addr} {o' : HO}
theorem HOk.write (ok : HOk P w H h) (mu : Mut (H x)) (he : e = x ∨ H e = some (.own x)) (k : ∀ b u, b ≠ e → h.get? b = some u → h'.get? b = some u) (heo : ∃ u, h'.get? e = some u)
    (new : ObjOk P w (upd H x o') h' x o') : HOk P w (upd H x o') h' := fun b u q => by
  have nown : ∀ c y, H c = some (.own y) → c ≠ x := fun c y r z => by subst z; rw [r] at mu; exact mu
  have ntup : ∀ c xs, H c = some (.tup xs) → c ≠ x := fun c xs r z => by subst z; rw [r] at mu; exact mu
  by_cases hb : b = x
  · subst hb; rw [upd_same] at q; cases q; exact new
  · rw [upd_ne hb] at q
    by_cases hbe : b = e
    · have q' : H b = some (.own x) := by
        rcases he with z | z
        · exact absurd (hbe.trans z) hb
        · rw [hbe]; exact z
      rw [q] at q'; cases q'
      obtain ⟨v, hv⟩ := heo
      exact ⟨v, by rw [hbe]; exact hv⟩
    · refine (ok b u q).stay (fun c v hc r => k c v ?_ r) (fun c r => by rw [upd_ne (nown c b r)]; exact r) fun c xs r => by rw [upd_ne (ntup c xs r)]; exact r
      rcases hc with rfl | hc
      · exact hbe
      · rintro rfl
        rcases he with z | z
        · exact nown c b hc z
        · rw [hc] at z; cases z; exact hb rfl
end

structure Un (fs ex : List Addr) (H H' : Hp) (h h' : Heap) : Prop where
  keep : ∀ b o, h.get? b = some o → H b = none → b ∉ fs → b ∉ ex → h'.get? b = some o
  slot : ∀ b o, h.get? b = some o → H b = none → b ∈ fs → b ∉ ex → ∃ sl, h'.get? b = some { o with slots := sl }
  free : ∀ b o, h.get? b = some o → H b = none → b ∉ ex → H' b = none
  there : ∀ b o, h.get? b = some o → b ∉ ex → ∃ o', h'.get? b = some o'
  tups : ∀ b xs, H b = some (.tup xs) → H' b = some (.tup xs)
  frzs : ∀ b o u, H b = some (.frz o u) → H' b = some (.frz o u)
  tbls : ∀ b ps, H b = some (.tbl ps) → ∃ more, H' b = some (.tbl (ps ++ more))
section
variable {fs fs' ex ex' : List Addr} {H H1 H2 : Hp} {h h1 h2 h' : Heap} {a x e : Addr} {o : HO}
theorem Un.any (u : Un fs ex H H1 h h1) {b : Addr} {ob : Obj} (q : h.get? b = some ob) (n : H b = none) (hx : b ∉ ex) : ∃ sl, h1.get? b = some { ob with slots := sl } := by
  by_cases hb : b ∈ fs
  · exact u.slot b ob q n hb hx
  · exact ⟨ob.slots, u.keep b ob q n hb hx⟩
theorem Un.trans (a : Un fs ex H H1 h h1) (b : Un fs ex H1 H2 h1 h2) : Un fs ex H H2 h h2 where
  keep := fun c ob q n hc hx => b.keep c ob (a.keep c ob q n hc hx) (a.free c ob q n hx) hc hx
  slot := fun c ob q n hc hx => by
    obtain ⟨sl, e1⟩ := a.slot c ob q n hc hx
    obtain ⟨sl', e2⟩ := b.slot c _ e1 (a.free c ob q n hx) hc hx
    exact ⟨sl', e2⟩
  free := fun c ob q n hx => by
    obtain ⟨o', e1⟩ := a.there c ob q hx
    exact b.free c o' e1 (a.free c ob q n hx) hx
  there := fun c ob q hx => by
    obtain ⟨o', e1⟩ := a.there c ob q hx
    exact b.there c o' e1 hx
  tups := fun c xs q => b.tups c xs (a.tups c xs q)
  frzs := fun c ob xs q => b.frzs c ob xs (a.frzs c ob xs q)
  tbls := fun c ps q => by
    obtain ⟨m1, e1⟩ := a.tbls c ps q
    obtain ⟨m2, e2⟩ := b.tbls c _ e1
    exact ⟨m1 ++ m2, by rw [e2, Array.append_assoc]⟩
theorem Un.kept (k : ∀ b u, h.get? b = some u → h'.get? b = some u) : Un fs ex H H h h' :=
  ⟨fun b ob q _ _ _ => k b ob q, fun b ob q _ _ _ => ⟨ob.slots, k b ob q⟩, fun _ _ _ n _ => n, fun b ob q _ => ⟨ob, k b ob q⟩, fun _ _ q => q, fun _ _ _ q => q, fun _ ps q => ⟨#[], by rw [q]; simp⟩⟩
theorem Un.refl : Un fs ex H H h h := Un.kept fun _ _ q => q
theorem Un.laid (k : ∀ b u, h.get? b = some u → h'.get? b = some u) (hp : h.objs.size ≤ a) (hn : H a = none) : Un fs ex H (upd H a o) h h' where
  keep := fun b u q _ _ _ => k b u q
  slot := fun b u q _ _ _ => ⟨u.slots, k b u q⟩
  free := fun b u q n _ => by rw [upd_ne (Nat.ne_of_lt (Nat.lt_of_lt_of_le (Heap.lt_size q) hp))]; exact n
  there := fun b u q _ => ⟨u, k b u q⟩
  tups := fun b xs q => by rw [upd_ne (ne_of_none q hn)]; exact q
  frzs := fun b u xs q => by rw [upd_ne (ne_of_none q hn)]; exact q
  tbls := fun b ps q => ⟨#[], by rw [upd_ne (ne_of_none q hn), q]; simp⟩
theorem Un.write (mu : Mut (H x)) (he : e = x ∨ H e = some (.own x)) (k : ∀ b u, b ≠ e → h.get? b = some u → h'.get? b = some u) (heo : ∃ u, h'.get? e = some u) : Un fs ex H (upd H x o) h h' := by
  have hx : ∀ b, H b = none → b ≠ x := fun b n z => by subst z; rw [n] at mu; exact mu
  have hb : ∀ b, H b = none → b ≠ e := fun b n z => by
    subst z
    rcases he with r | r
    · exact hx b n r
    · rw [n] at r; cases r
  have hm : ∀ b u, H b = some u → ¬ Mut (some u) → b ≠ x := fun b u q nm z => by subst z; rw [q] at mu; exact nm mu
  refine ⟨fun b u q n _ _ => k b u (hb b n) q, fun b u q n _ _ => ⟨u.slots, k b u (hb b n) q⟩, fun b u q n _ => by rw [upd_ne (hx b n)]; exact n, fun b u q _ => ?_,
    fun b xs q => by rw [upd_ne (hm b _ q fun z => z)]; exact q, fun b u xs q => by rw [upd_ne (hm b _ q fun z => z)]; exact q, fun b ps q => ⟨#[], by rw [upd_ne (hm b _ q fun z => z), q]; simp⟩⟩
  by_cases hbe : b = e
  · subst hbe; exact heo
  · exact ⟨u, k b u hbe q⟩
theorem Un.mono (u : Un fs ex H H1 h h1) (hs : ∀ b ∈ fs, b ∈ fs') (hx : ∀ b ∈ ex, b ∈ ex') : Un fs' ex' H H1 h h1 :=
  ⟨fun b ob q n hb he => u.keep b ob q n (fun z => hb (hs b z)) fun z => he (hx b z), fun _ _ q n _ he => u.any q n fun z => he (hx _ z), fun b ob q n he => u.free b ob q n fun z => he (hx b z), fun b ob q he => u.there b ob q fun z => he (hx b z), u.tups, u.frzs, u.tbls⟩
end

noncomputable def trk (h : Heap) (H : Hp) : List Addr := (List.range h.objs.size).filter fun a => (H a).isSome
noncomputable def hidT (h : Heap) (H : Hp) : Heap := PySem.W.hideAll h (trk h H)
theorem hidT_size (h : Heap) (H : Hp) : (hidT h H).objs.size = h.objs.size := PySem.W.hideAll_size _ _
theorem hidT_get {h : Heap} {H : Hp} {b : Addr} {o : Obj} (e : h.get? b = some o) (n : H b = none) : (hidT h H).get? b = some o :=
  PySem.W.hideAll_get _ e fun hm => by
    have q : (H b).isSome = true := (List.mem_filter.mp hm).2
    rw [n] at q; simp at q
theorem of_hidT {h : Heap} {H : Hp} {b : Addr} {o : Obj} (e : (hidT h H).get? b = some o) : h.get? b = some o ∧ H b = none := by
  have e' : h.get? b = some o := PySem.W.of_hideAll (trk h H) e
  refine ⟨e', ?_⟩
  cases q : H b with
  | none => rfl
  | some x =>
    have hm : b ∈ trk h H := List.mem_filter.mpr ⟨List.mem_range.mpr (Heap.lt_size e'), by simp [q]⟩
    have z : (hidT h H).get? b = none := PySem.W.hideAll_none (trk h H) hm
    rw [z] at e; cases e
noncomputable def allNews (g h : Heap) (L : Addr) : List (Addr × Obj) := (List.range h.objs.size).filterMap fun a => if a = L ∨ (g.get? a).isSome = true then none else (h.get? a).map fun o => (a, o)
noncomputable def rest (g h : Heap) (L d : Addr) : List (Addr × Obj) := (allNews g h L).filter fun p => decide (p.1 ≠ d)
end L2

namespace L2
open PySem PySem.Spec PyProof.Rows

structure Mod (K : PySem.W.Frag) (mg : Str → Option Value) (base : Heap) : Prop where
  kin : K.In base
  glob : base.Ns mainGlobals mg
  blt : ∃ mb, base.Ns builtinsNs mb ∧ ∀ x : Str, x ≠ "__name__" → mb x = bootBuiltins x
  nolimit : base.NoLimit
structure Cx where
  prog : Program
  w : World
  K : PySem.W.Frag
  mg : Str → Option Value
  base : Heap
  A : Around
  N : List Str
  s₀ : Shared
  H₀ : Hp
  env : Env
  outer : List Env
  stack : List Env
  ex : List Addr
  fn : Str → Bool
  calm : Bool
  pn : List (Addr × Obj)
  xe : Value → Shared → Prop
noncomputable def frs (l : List Env) : List Addr := l.filterMap (·.frame)
noncomputable abbrev Cx.fs (X : Cx) : List Addr := frs X.outer
noncomputable def Vis (sc : Scope) (x : Str) : Prop := sc.names.lookup x = some .local ∨ sc.names.lookup x = some .cell ∨ sc.names.lookup x = some .free
noncomputable def Loc (sc : Scope) (x : Str) : Prop := sc.names.lookup x = some .local ∨ sc.names.lookup x = some .cell
noncomputable def Look (env : Env) (h : Heap) (m : Str → Option Value) (x : Str) (u : Value) : Prop :=
  (env.kindOf x = some .local ∧ m x = some u) ∨ ((env.kindOf x = some .cell ∨ env.kindOf x = some .free) ∧ ∃ c, env.cells.lookup x = some c ∧ h.IsCell c (some u))
structure Cx.Ok (X : Cx) : Prop where
  mod : Mod X.K X.mg X.base
  kind : X.env.scope.kind = .function
  glob : X.env.globals = mainGlobals
  blt : X.env.builtins = builtinsNs
  above : X.s₀.heap.objs.size ≤ X.env.locals
  inj : ∀ x y c, X.env.cells.lookup x = some c → X.env.cells.lookup y = some c → x = y
  has : ∀ x, (X.env.kindOf x = some .cell ∨ X.env.kindOf x = some .free) → ∃ c, X.env.cells.lookup x = some c
  cab : ∀ x c, X.fn x = true → X.env.cells.lookup x = some c → X.s₀.heap.objs.size ≤ c
  hd : X.calm = true → X.A.handled = none
  frames : X.A.frames = some X.stack
  stk : X.stack = X.outer ∨ (X.stack = X.env :: X.outer ∧ X.env.frame = some X.env.locals)
  exf : ∀ b ∈ X.ex, b ≠ X.env.locals ∧ ∀ x c, X.env.cells.lookup x = some c → c ≠ b
  bs : ∀ b o, X.base.get? b = some o → X.s₀.heap.get? b = some o ∧ X.H₀ b = none
  bsz : X.base.objs.size ≤ X.s₀.heap.objs.size
  noex : ∀ b o, X.base.get? b = some o → b ∉ X.ex
  exfs : ∀ b ∈ X.ex, b ∉ X.fs
  funs : X.s₀.heap.FunFrames X.base X.outer
  frf : ∀ b ∈ X.fs, X.H₀ b = none
structure Inv (X : Cx) (pins : List (Addr × Obj)) (σ : List (Option V)) (H : Hp) (s : Shared) : Prop where
  ok : X.Ok
  os : s.os = X.s₀.os
  bare : AllBare s.gens
  base : Un X.fs X.ex X.H₀ H X.s₀.heap s.heap
  loc : ∃ m, s.heap.Ns X.env.locals m ∧ ∀ (i : Nat) (x : Str) (v : V), X.N[i]? = some x → σ[i]? = some (some v) → Vis X.env.scope x → ∃ u, RelV v u ∧ Look X.env s.heap m x u
  cell : ∀ x c, X.env.cells.lookup x = some c → ∃ v, s.heap.IsCell c v
  free : H X.env.locals = none
  freeC : ∀ x c, X.env.cells.lookup x = some c → H c = none
  pin : ∀ p ∈ X.pn ++ pins, s.heap.get? p.1 = some p.2 ∧ H p.1 = none ∧ p.1 ≠ X.env.locals ∧ p.1 ∉ X.fs ∧ ∀ v, p.2.data ≠ .cell v
  hok : HOk X.prog X.w H s.heap
  len : σ.length = X.N.length
section
variable {X : Cx} {pins : List (Addr × Obj)} {σ : List (Option V)} {H H' : Hp} {s : Shared} {h' : Heap}

theorem Cx.Ok.nofr (ok : X.Ok) {b : Addr} {o : Obj} (e : X.base.get? b = some o) : b ∉ X.fs := fun hb => by
  have := (ok.funs.mem hb).1
  rw [e] at this; cases this
theorem Inv.bs (I : Inv X pins σ H s) : ∀ b o, X.base.get? b = some o → s.heap.get? b = some o ∧ H b = none := fun b o e =>
  ⟨I.base.keep b o (I.ok.bs b o e).1 (I.ok.bs b o e).2 (I.ok.nofr e) (I.ok.noex b o e), I.base.free b o (I.ok.bs b o e).1 (I.ok.bs b o e).2 (I.ok.noex b o e)⟩
theorem Inv.bk (I : Inv X pins σ H s) : ∀ b o, X.base.get? b = some o → s.heap.get? b = some o := fun b o e => (I.bs b o e).1
theorem Inv.mod (I : Inv X pins σ H s) : Mod X.K X.mg X.base := I.ok.mod
theorem Inv.kIn (I : Inv X pins σ H s) : X.K.In s.heap := I.ok.mod.kin.keeps I.bk
theorem Inv.nolimit (I : Inv X pins σ H s) : s.heap.NoLimit := I.ok.mod.nolimit.keeps I.bk
theorem Inv.fr (I : Inv X pins σ H s) : ∃ m, Fr X.base X.env.locals s.heap m :=
  let ⟨m, hn, _⟩ := I.loc
  ⟨m, hn, I.bk, Nat.le_trans I.ok.bsz I.ok.above⟩
theorem Inv.lt (I : Inv X pins σ H s) : X.env.locals < s.heap.objs.size := let ⟨_, hn, _⟩ := I.loc; hn.lt
theorem Inv.sz (I : Inv X pins σ H s) : X.s₀.heap.objs.size ≤ s.heap.objs.size := Nat.le_trans I.ok.above (Nat.le_of_lt I.lt)
theorem Inv.nofs (I : Inv X pins σ H s) {a : Addr} (h : s.heap.objs.size ≤ a) : a ∉ X.fs := fun hb => by
  obtain ⟨_, o, ho, _⟩ := I.ok.funs.mem hb
  exact absurd (Nat.lt_of_lt_of_le (Heap.lt_size ho) (Nat.le_trans I.sz h)) (Nat.lt_irrefl _)
theorem Inv.cne (I : Inv X pins σ H s) : ∀ x c, X.env.cells.lookup x = some c → c ≠ X.env.locals := fun x c e z => by
  obtain ⟨v, o, ho, hd⟩ := I.cell x c e
  obtain ⟨m, ⟨o', es, ep, ho', hd', _⟩, _⟩ := I.loc
  rw [z, ho'] at ho; cases ho; rw [hd'] at hd; cases hd
theorem Inv.funs (I : Inv X pins σ H s) : s.heap.FunFrames X.base X.outer := by
  have all : ∀ (l : List Env), (∀ b ∈ frs l, b ∈ X.fs) → X.s₀.heap.FunFrames X.base l → s.heap.FunFrames X.base l := by
    intro l
    induction l with
    | nil => intro _ _; trivial
    | cons env r ih =>
      intro hs hl
      obtain ⟨hk, ⟨L, o, hf, hn, ho, hd⟩, hr⟩ := hl
      have hL : L ∈ X.fs := hs L (by unfold frs; rw [List.filterMap_cons, hf]; exact List.mem_cons_self)
      obtain ⟨sl, e⟩ := I.base.slot L o ho (I.ok.frf L hL) hL fun z => I.ok.exfs L z hL
      exact ⟨hk, ⟨L, _, hf, hn, e, hd⟩, ih (fun b hb => hs b (by unfold frs; rw [List.filterMap_cons, hf]; exact List.mem_cons_of_mem _ hb)) hr⟩
  exact all X.outer (fun _ hb => hb) I.ok.funs
theorem Inv.stack (I : Inv X pins σ H s) : s.heap.FunFrames X.base X.stack := by
  rcases I.ok.stk with e | ⟨e, hf⟩
  · rw [e]; exact I.funs
  · rw [e]
    obtain ⟨m, hn, _⟩ := I.loc
    refine .cons (by rw [I.ok.kind]; decide) hf hn ?_ I.funs
    exact Heap.get?_none_of_le (Nat.le_trans I.ok.bsz I.ok.above)
theorem Inv.stkSub (I : Inv X pins σ H s) : ∀ b ∈ frs X.stack, b ∈ X.env.locals :: X.fs := fun b hb => by
  rcases I.ok.stk with e | ⟨e, hf⟩
  · rw [e] at hb; exact List.mem_cons_of_mem _ hb
  · rw [e] at hb
    unfold frs at hb
    rw [List.filterMap_cons, hf] at hb
    exact hb
theorem Inv.stkFree (I : Inv X pins σ H s) : ∀ b ∈ frs X.stack, H b = none := fun b hb => by
  rcases List.mem_cons.mp (I.stkSub b hb) with e | hb
  · rw [e]; exact I.free
  · obtain ⟨_, o, ho, _⟩ := I.ok.funs.mem hb
    exact I.base.free b o ho (I.ok.frf b hb) fun z => I.ok.exfs b z hb
theorem Inv.step {g' : Array GenState} {t' : Nat} {d' : Drawn} {ch : List Addr} (I : Inv X pins σ H s)
    (hch : ∀ b ∈ ch, (b ∈ X.ex ∨ X.s₀.heap.objs.size ≤ b) ∧ b ≠ X.env.locals ∧ (∀ x c, X.env.cells.lookup x = some c → c ≠ b) ∧ ∀ p ∈ X.pn ++ pins, p.1 ≠ b)
    (keep : ∀ b o, b ≠ X.env.locals → b ∉ X.fs → b ∉ ch → s.heap.get? b = some o → H b = none → h'.get? b = some o)
    (slot : ∀ b o, b ≠ X.env.locals → b ∈ X.fs → b ∉ ch → s.heap.get? b = some o → H b = none → ∃ sl, h'.get? b = some { o with slots := sl }) (free : ∀ b o, b ∉ ch → s.heap.get? b = some o → H b = none → H' b = none)
    (there : ∀ b o, b ∉ ch → s.heap.get? b = some o → ∃ o', h'.get? b = some o')
    (tups : ∀ b xs, H b = some (.tup xs) → H' b = some (.tup xs)) (frzs : ∀ b o u, H b = some (.frz o u) → H' b = some (.frz o u)) (tbls : ∀ b ps, H b = some (.tbl ps) → ∃ more, H' b = some (.tbl (ps ++ more)))
    (ns : ∀ m, s.heap.Ns X.env.locals m → h'.Ns X.env.locals m) (hok : HOk X.prog X.w H' h') (hg : AllBare g') :
    Inv X pins σ H' { s with heap := h', gens := g', drawn := d', toks := t' } := by
  have neL : ∀ b o, X.s₀.heap.get? b = some o → b ≠ X.env.locals := fun b o e => Nat.ne_of_lt (Nat.lt_of_lt_of_le (Heap.lt_size e) I.ok.above)
  have neC : ∀ b o, X.s₀.heap.get? b = some o → b ∉ X.ex → b ∉ ch := fun b o e hx hb => by
    rcases (hch b hb).1 with z | z
    · exact hx z
    · exact absurd (Nat.lt_of_lt_of_le (Heap.lt_size e) z) (Nat.lt_irrefl _)
  have cellK : ∀ x c, X.env.cells.lookup x = some c → ∀ v, s.heap.IsCell c v → h'.IsCell c v := fun x c e v ⟨o, ho, hd⟩ => by
    have nch : c ∉ ch := fun z => (hch c z).2.2.1 x c e rfl
    by_cases hc : c ∈ X.fs
    · obtain ⟨sl, q⟩ := slot c o (I.cne x c e) hc nch ho (I.freeC x c e)
      exact ⟨_, q, hd⟩
    · exact ⟨o, keep c o (I.cne x c e) hc nch ho (I.freeC x c e), hd⟩
  refine ⟨I.ok, I.os, hg, ⟨fun b o e n hb hx => ?_, fun b o e n hb hx => ?_, fun b o e n hx => ?_, fun b o e hx => ?_, fun b xs e => tups b xs (I.base.tups b xs e), fun b o xs e => frzs b o xs (I.base.frzs b o xs e), fun b ps e => ?_⟩, ?_, fun x c e => ?_, ?_, fun x c e => ?_, fun p hp => ?_, hok, I.len⟩
  · exact keep b o (neL b o e) hb (neC b o e hx) (I.base.keep b o e n hb hx) (I.base.free b o e n hx)
  · obtain ⟨sl, e1⟩ := I.base.slot b o e n hb hx
    obtain ⟨sl', e2⟩ := slot b _ (neL b o e) hb (neC b o e hx) e1 (I.base.free b o e n hx)
    exact ⟨sl', e2⟩
  · obtain ⟨o', e1⟩ := I.base.there b o e hx
    exact free b o' (neC b o e hx) e1 (I.base.free b o e n hx)
  · obtain ⟨o', e1⟩ := I.base.there b o e hx
    exact there b o' (neC b o e hx) e1
  · obtain ⟨m1, e1⟩ := I.base.tbls b ps e
    obtain ⟨m2, e2⟩ := tbls b _ e1
    exact ⟨m1 ++ m2, by rw [e2, Array.append_assoc]⟩
  · obtain ⟨m, hn, hl⟩ := I.loc
    refine ⟨m, ns m hn, fun i x v e1 e2 e3 => ?_⟩
    obtain ⟨u, r, l⟩ := hl i x v e1 e2 e3
    refine ⟨u, r, ?_⟩
    rcases l with l | ⟨k, c, e, z⟩
    · exact .inl l
    · exact .inr ⟨k, c, e, cellK x c e _ z⟩
  · obtain ⟨v, z⟩ := I.cell x c e
    exact ⟨v, cellK x c e v z⟩
  · obtain ⟨m, ⟨o, _, _, ho, _⟩, _⟩ := I.loc
    exact free _ o (fun z => (hch _ z).2.1 rfl) ho I.free
  · obtain ⟨v, o, ho, hd⟩ := I.cell x c e
    exact free c o (fun z => (hch c z).2.2.1 x c e rfl) ho (I.freeC x c e)
  · obtain ⟨e, n, ne, nf, d⟩ := I.pin p hp
    have nch : p.1 ∉ ch := fun z => (hch p.1 z).2.2.2 p hp rfl
    exact ⟨keep p.1 p.2 ne nf nch e n, free p.1 p.2 nch e n, ne, nf, d⟩
theorem Inv.un {t' : Nat} (I : Inv X pins σ H s) (u : Un X.fs [] H H' s.heap h') (hok : HOk X.prog X.w H' h') : Inv X pins σ H' { s with heap := h', toks := t' } := by
  obtain ⟨m, ⟨o, es, ep, ho, r⟩, _⟩ := id I.loc
  obtain ⟨sl, hL⟩ := u.any ho I.free (by simp)
  exact I.step (g' := s.gens) (d' := s.drawn) (ch := []) (fun _ z => nomatch z) (fun b o _ hb _ e n => u.keep b o e n hb (by simp)) (fun b o _ hb _ e n => u.slot b o e n hb (by simp)) (fun b o _ e n => u.free b o e n (by simp)) (fun b o _ e => u.there b o e (by simp)) u.tups u.frzs u.tbls (fun m' hm => by
    obtain ⟨o', es', ep', ho', r'⟩ := hm
    rw [ho] at ho'; cases ho'
    exact ⟨_, es', ep', hL, r'⟩) hok I.bare
theorem Inv.call {g' : Array GenState} {t' : Nat} {d' : Drawn} {ch : List Addr} (I : Inv X pins σ H s) (u : Un (frs X.stack) ch H H' s.heap h') (hok : HOk X.prog X.w H' h') (hg : AllBare g')
    (hch : ∀ b ∈ ch, (b ∈ X.ex ∨ X.s₀.heap.objs.size ≤ b) ∧ b ≠ X.env.locals ∧ (∀ x c, X.env.cells.lookup x = some c → c ≠ b) ∧ ∀ p ∈ X.pn ++ pins, p.1 ≠ b) :
    Inv X pins σ H' { s with heap := h', gens := g', drawn := d', toks := t' } := by
  obtain ⟨m, ⟨o, es, ep, ho, r⟩, _⟩ := id I.loc
  obtain ⟨sl, hL⟩ := u.any ho I.free fun z => (hch _ z).2.1 rfl
  exact I.step (ch := ch) hch (fun b o hL hb hc e n => u.keep b o e n (fun z => (List.mem_cons.mp (I.stkSub b z)).elim hL hb) hc) (fun b o _ _ hc e n => u.any e n hc) (fun b o hc e n => u.free b o e n hc) (fun b o hc e => u.there b o e hc) u.tups u.frzs u.tbls (fun m' hm => by
    obtain ⟨o', es', ep', ho', r'⟩ := hm
    rw [ho] at ho'; cases ho'
    exact ⟨_, es', ep', hL, r'⟩) hok hg
theorem Inv.turned {t' : Nat} {it : Addr} (I : Inv X pins σ H s) (k : ∀ b o, b ≠ it → s.heap.get? b = some o → h'.get? b = some o) (hn : H it = none) (hL : it ≠ X.env.locals)
    (h1 : it ∈ X.ex ∨ X.s₀.heap.objs.size ≤ it) (h2 : ∀ x c, X.env.cells.lookup x = some c → c ≠ it) (h3 : ∀ p ∈ X.pn ++ pins, p.1 ≠ it) : Inv X pins σ H { s with heap := h', toks := t' } := by
  have nit : ∀ b u, H b = some u → b ≠ it := fun b u e z => by rw [z, hn] at e; cases e
  refine I.step (g' := s.gens) (d' := s.drawn) (ch := [it]) (fun b hb => ?_) (fun b o _ _ hc e _ => k b o (fun z => hc (by simp [z])) e) (fun b o _ _ hc e _ => ⟨o.slots, k b o (fun z => hc (by simp [z])) e⟩) (fun _ _ _ _ n => n)
    (fun b o hc e => ⟨o, k b o (fun z => hc (by simp [z])) e⟩) (fun _ _ e => e) (fun _ _ _ e => e) (fun b ps e => ⟨#[], by rw [e]; simp⟩) (fun m hm => ?_) (fun b u e => ?_) I.bare
  · have e : b = it := by simpa using hb
    subst e
    exact ⟨h1, hL, h2, h3⟩
  · obtain ⟨o, es, ep, ho, r⟩ := hm
    exact ⟨o, es, ep, k _ o (Ne.symm hL) ho, r⟩
  · refine (I.hok b u e).stay (fun c v hc q => k c v ?_ q) (fun _ q => q) fun _ _ q => q
    rcases hc with z | z
    · rw [z]; exact nit b u e
    · exact nit c _ z
theorem Inv.tok (I : Inv X pins σ H s) (t : Nat) : Inv X pins σ H { s with toks := t } := I.un (h' := s.heap) (t' := t) Un.refl I.hok
theorem Inv.kept {t' : Nat} (I : Inv X pins σ H s) (k : ∀ b u, s.heap.get? b = some u → h'.get? b = some u) : Inv X pins σ H { s with heap := h', toks := t' } := I.un (Un.kept k) (I.hok.kept k)
theorem Inv.laid {a : Addr} {o : HO} {t' : Nat} (I : Inv X pins σ H s) (k : ∀ b u, s.heap.get? b = some u → h'.get? b = some u) (hp : s.heap.objs.size ≤ a) (new : ObjOk X.prog X.w (upd H a o) h' a o) :
    Inv X pins σ (upd H a o) { s with heap := h', toks := t' } := I.un (Un.laid k hp (I.hok.fresh hp)) (I.hok.laid k hp new)
theorem Inv.write {x e : Addr} {o : HO} {t' : Nat} (I : Inv X pins σ H s) (mu : Mut (H x)) (he : e = x ∨ H e = some (.own x)) (k : ∀ b u, b ≠ e → s.heap.get? b = some u → h'.get? b = some u) (heo : ∃ u, h'.get? e = some u)
    (new : ObjOk X.prog X.w (upd H x o) h' x o) : Inv X pins σ (upd H x o) { s with heap := h', toks := t' } := I.un (Un.write mu he k heo) (I.hok.write mu he k heo new)
theorem Inv.pins_of {pins' : List (Addr × Obj)} (I : Inv X pins σ H s) (h : ∀ p ∈ pins', s.heap.get? p.1 = some p.2 ∧ H p.1 = none ∧ p.1 ≠ X.env.locals ∧ p.1 ∉ X.fs ∧ ∀ v, p.2.data ≠ .cell v) : Inv X pins' σ H s :=
  ⟨I.ok, I.os, I.bare, I.base, I.loc, I.cell, I.free, I.freeC, fun p hp => (List.mem_append.mp hp).elim (fun z => I.pin p (List.mem_append_left _ z)) (h p), I.hok, I.len⟩
theorem nodup_ix {N : List Str} (hN : N.Nodup) {i j : Nat} {x : Str} (a : N[i]? = some x) (b : N[j]? = some x) : i = j := by
  obtain ⟨h1, e1⟩ := List.getElem?_eq_some_iff.mp a
  obtain ⟨h2, e2⟩ := List.getElem?_eq_some_iff.mp b
  exact (List.getElem_inj hN).mp (e1.trans e2.symm)
theorem store_ok2 {M : Model} {A : Around} {E : Value → Shared → Prop} {i : Nat} {x : Str} {v : V} {u : Value} {Q : Unit → Shared → Prop} (I : Inv X pins σ H s) (hN : X.N.Nodup) (hi : X.N[i]? = some x) (hx : Loc X.env.scope x) (r : RelV v u)
    (h : ∀ s', Inv X pins (σ.set i (some v)) H s' → (∃ a, Heap.SameBut a s.heap s'.heap ∧ (a = X.env.locals ∨ X.env.cells.lookup x = some a)) → Q () s') (hf : X.fn x = true ∨ X.env.scope.names.lookup x = some .local := by first | exact .inl rfl | exact .inr rfl | assumption) : wpAny M A (storeName X.env x u) Q E s := by
  obtain ⟨m, hn, hl⟩ := id I.loc
  have hcls : (X.env.scope.kind == .class || (X.env.scope.kind == .module && X.env.locals != X.env.globals)) = false := by rw [I.ok.kind]; rfl
  have hiσ : i < σ.length := by rw [I.len]; exact (List.getElem?_eq_some_iff.mp hi).1
  have cne := I.cne
  have tracked : ∀ {a : Addr} {h' : Heap}, (∃ o, s.heap.get? a = some o ∧ H a = none) → Heap.SameBut a s.heap h' → HOk X.prog X.w H h' := fun {a h'} ha hs b ob e => by
    obtain ⟨_, _, hfree⟩ := ha
    refine (I.hok b ob e).stay (fun c w' hc q => (hs.2 c ?_).trans q) (fun _ q => q) fun _ _ q => q
    rintro rfl
    rcases hc with rfl | hc
    · rw [hfree] at e; cases e
    · rw [hfree] at hc; cases hc
  rcases hx with hk | hk
  · refine wpAny_storeName_local hk hn (fun h' hn' hs => ?_) hcls
    obtain ⟨oL, _, _, hoL, _⟩ := id hn
    refine h _ ⟨I.ok, I.os, I.bare, ⟨fun b o e n hb hx => ?_, fun b o e n hb hx => ?_, I.base.free, fun b o e hx => ?_, I.base.tups, I.base.frzs, I.base.tbls⟩, ⟨_, hn', fun j y v' e1 e2 e3 => ?_⟩, fun y c e => ?_, I.free, I.freeC, fun p hp => ?_, tracked ⟨oL, hoL, I.free⟩ hs, by simpa using I.len⟩ ⟨_, hs, .inl rfl⟩
    · exact (hs.2 b (Nat.ne_of_lt (Nat.lt_of_lt_of_le (Heap.lt_size e) I.ok.above))).trans (I.base.keep b o e n hb hx)
    · obtain ⟨sl, e1⟩ := I.base.slot b o e n hb hx
      exact ⟨sl, (hs.2 b (Nat.ne_of_lt (Nat.lt_of_lt_of_le (Heap.lt_size e) I.ok.above))).trans e1⟩
    · obtain ⟨o', e1⟩ := I.base.there b o e hx
      exact ⟨o', (hs.2 b (Nat.ne_of_lt (Nat.lt_of_lt_of_le (Heap.lt_size e) I.ok.above))).trans e1⟩
    · by_cases hj : j = i
      · subst hj
        rw [hi] at e1; cases e1
        rw [List.getElem?_set_self hiσ] at e2
        cases e2
        exact ⟨u, r, .inl ⟨hk, by simp⟩⟩
      · rw [List.getElem?_set_ne (Ne.symm hj)] at e2
        obtain ⟨u', r', q⟩ := hl j y v' e1 e2 e3
        refine ⟨u', r', ?_⟩
        rcases q with ⟨k, e⟩ | ⟨k, c, e, z⟩
        · refine .inl ⟨k, ?_⟩
          have : y ≠ x := fun e => hj (nodup_ix hN e1 (e ▸ hi))
          simp [this, e]
        · exact .inr ⟨k, c, e, z.sameBut hs (cne y c e)⟩
    · obtain ⟨w', z⟩ := I.cell y c e
      exact ⟨w', z.sameBut hs (cne y c e)⟩
    · obtain ⟨e, n, ne, nf, d⟩ := I.pin p hp
      exact ⟨(hs.2 p.1 ne).trans e, n, ne, nf, d⟩
  · have hfn : X.fn x = true := by
      rcases hf with z | z
      · exact z
      · rw [z] at hk; cases hk
    obtain ⟨c, hc⟩ := I.ok.has x (.inl hk)
    obtain ⟨w', z⟩ := I.cell x c hc
    refine wpAny_storeName_cell I.ok.kind hk hc z (fun h' hc' hs => ?_)
    obtain ⟨oc, hoc, hocd⟩ := id z
    refine h { s with heap := h' } ⟨I.ok, I.os, I.bare, ⟨fun b o e n hb hx => ?_, fun b o e n hb hx => ?_, I.base.free, fun b o e hx => ?_, I.base.tups, I.base.frzs, I.base.tbls⟩, ⟨m, hn.sameBut hs (Ne.symm (cne x c hc)), fun j y v' e1 e2 e3 => ?_⟩, fun y c' e => ?_, I.free, I.freeC, fun p hp => ?_, tracked ⟨oc, hoc, I.freeC x c hc⟩ hs, by simpa using I.len⟩ ⟨c, hs, .inr hc⟩
    · exact (hs.2 b (Nat.ne_of_lt (Nat.lt_of_lt_of_le (Heap.lt_size e) (I.ok.cab x c hfn hc)))).trans (I.base.keep b o e n hb hx)
    · obtain ⟨sl, e1⟩ := I.base.slot b o e n hb hx
      exact ⟨sl, (hs.2 b (Nat.ne_of_lt (Nat.lt_of_lt_of_le (Heap.lt_size e) (I.ok.cab x c hfn hc)))).trans e1⟩
    · obtain ⟨o', e1⟩ := I.base.there b o e hx
      exact ⟨o', (hs.2 b (Nat.ne_of_lt (Nat.lt_of_lt_of_le (Heap.lt_size e) (I.ok.cab x c hfn hc)))).trans e1⟩
    · by_cases hj : j = i
      · subst hj
        rw [hi] at e1; cases e1
        rw [List.getElem?_set_self hiσ] at e2
        cases e2
        exact ⟨u, r, .inr ⟨.inl hk, c, hc, hc'⟩⟩
      · rw [List.getElem?_set_ne (Ne.symm hj)] at e2
        obtain ⟨u', r', q⟩ := hl j y v' e1 e2 e3
        refine ⟨u', r', ?_⟩
        rcases q with q | ⟨k, c', e, z'⟩
        · exact .inl q
        · refine .inr ⟨k, c', e, z'.sameBut hs ?_⟩
          rintro rfl
          exact hj (nodup_ix hN e1 (I.ok.inj _ _ _ e hc ▸ hi))
    · by_cases hcc : c' = c
      · subst hcc; exact ⟨_, hc'⟩
      · obtain ⟨w2, z2⟩ := I.cell y c' e
        exact ⟨w2, z2.sameBut hs hcc⟩
    · obtain ⟨e, n, ne, nf, d⟩ := I.pin p hp
      refine ⟨(hs.2 p.1 ?_).trans e, n, ne, nf, d⟩
      intro q
      rw [q, hoc] at e
      have q' : oc = p.2 := Option.some.inj e
      exact d w' (by rw [← q']; exact hocd)
theorem store_ok {M : Model} {A : Around} {E : Value → Shared → Prop} {i : Nat} {x : Str} {v : V} {u : Value} {Q : Unit → Shared → Prop} (I : Inv X pins σ H s) (hN : X.N.Nodup) (hi : X.N[i]? = some x) (hx : Loc X.env.scope x) (r : RelV v u)
    (h : ∀ s', Inv X pins (σ.set i (some v)) H s' → Q () s') (hf : X.fn x = true ∨ X.env.scope.names.lookup x = some .local := by first | exact .inl rfl | exact .inr rfl | assumption) : wpAny M A (storeName X.env x u) Q E s :=
  store_ok2 I hN hi hx r (fun s' I' _ => h s' I') hf
theorem Inv.call' {s' : Shared} {ch : List Addr} (I : Inv X pins σ H s) (ho : s'.os = s.os) (u : Un (frs X.stack) ch H H' s.heap s'.heap) (hok : HOk X.prog X.w H' s'.heap) (hg : AllBare s'.gens)
    (hch : ∀ b ∈ ch, (b ∈ X.ex ∨ X.s₀.heap.objs.size ≤ b) ∧ b ≠ X.env.locals ∧ (∀ x c, X.env.cells.lookup x = some c → c ≠ b) ∧ ∀ p ∈ X.pn ++ pins, p.1 ≠ b) : Inv X pins σ H' s' := by
  obtain ⟨h', g', d', t', o'⟩ := s'
  have e : o' = s.os := ho
  subst e
  exact I.call (g' := g') (t' := t') (d' := d') u hok hg hch
end

noncomputable abbrev XK := Value → Option Addr → Hp → Prop
noncomputable abbrev St := List (Option V)
noncomputable abbrev VK := V → Hp → Prop
noncomputable abbrev TE := St → Hp → VK → Prop
noncomputable abbrev TT := St → Hp → (Bool → Hp → Prop) → Prop
noncomputable abbrev TA := St → Hp → (List V → Hp → Prop) → Prop
structure Ends where
  nx : St → Hp → Prop
  rt : VK
  bk : St → Hp → Prop := fun _ _ => False
  ct : St → Hp → Prop := fun _ _ => False
noncomputable abbrev TS := Ends → St → Hp → Prop
noncomputable def EP (X : Cx) (pins : List (Addr × Obj)) (σ : St) (Q : VK) (u : Value) (s' : Shared) : Prop := ∃ v H', Inv X pins σ H' s' ∧ RelV v u ∧ Q v H'
noncomputable def TP (X : Cx) (pins : List (Addr × Obj)) (σ : St) (Q : Bool → Hp → Prop) (b : Bool) (s' : Shared) : Prop := ∃ H', Inv X pins σ H' s' ∧ Q b H'
noncomputable def AP (X : Cx) (pins : List (Addr × Obj)) (σ : St) (Q : List V → Hp → Prop) (us : List Value) (s' : Shared) : Prop := ∃ vs H', Inv X pins σ H' s' ∧ Vals vs us ∧ Q vs H'
noncomputable def SP (X : Cx) (pins : List (Addr × Obj)) (D : Ends) (f : Flow) (s' : Shared) : Prop :=
  match f with
  | .next => ∃ σ' H', Inv X pins σ' H' s' ∧ D.nx σ' H'
  | .brk => ∃ σ' H', Inv X pins σ' H' s' ∧ D.bk σ' H'
  | .cont => ∃ σ' H', Inv X pins σ' H' s' ∧ D.ct σ' H'
  | .ret u => ∃ v σ' H', Inv X pins σ' H' s' ∧ RelV v u ∧ D.rt v H'
noncomputable def PE (X : Cx) (e : Expr) (t : TE) : Prop :=
  ∀ (pins : List (Addr × Obj)) (s : Shared) (σ : St) (H : Hp) (Q : VK), Inv X pins σ H s → t σ H Q → wpAny (model X.prog X.w) X.A (eval e X.env) (EP X pins σ Q) X.xe s
noncomputable def PT (X : Cx) (e : Expr) (t : TT) : Prop :=
  ∀ (pins : List (Addr × Obj)) (s : Shared) (σ : St) (H : Hp) (Q : Bool → Hp → Prop), Inv X pins σ H s → t σ H Q → wpAny (model X.prog X.w) X.A (isTrue e X.env (eval e X.env)) (TP X pins σ Q) X.xe s
noncomputable def PW (X : Cx) (e : Expr) (t : TT) : Prop :=
  ∀ (whole : Sem Value) (pins : List (Addr × Obj)) (s : Shared) (σ : St) (H : Hp) (Q : Bool → Hp → Prop), Inv X pins σ H s → t σ H Q → wpAny (model X.prog X.w) X.A (isTrue e X.env whole) (TP X pins σ Q) X.xe s
theorem PW.pt {X : Cx} {e : Expr} {t : TT} (h : PW X e t) : PT X e t := h _
noncomputable def PA (X : Cx) (es : List Expr) (t : TA) : Prop :=
  ∀ (pos : Pos) (pins : List (Addr × Obj)) (s : Shared) (σ : St) (H : Hp) (Q : List V → Hp → Prop), Inv X pins σ H s → t σ H Q → wpAny (model X.prog X.w) X.A (spliced (backTo pos (starEach es X.env))) (AP X pins σ Q) X.xe s
noncomputable def PS (X : Cx) (st : Stmt) (t : TS) : Prop :=
  ∀ (pins : List (Addr × Obj)) (s : Shared) (σ : St) (H : Hp) (D : Ends), Inv X pins σ H s → t D σ H → wpAny (model X.prog X.w) X.A (exec st X.env) (SP X pins D) X.xe s
noncomputable def PSs (X : Cx) (st : List Stmt) (t : TS) : Prop :=
  ∀ (pins : List (Addr × Obj)) (s : Shared) (σ : St) (H : Hp) (D : Ends), Inv X pins σ H s → t D σ H → wpAny (model X.prog X.w) X.A (execs st X.env) (SP X pins D) X.xe s
theorem thn {α : Type} {t : Sem α} {Q Q' : α → Shared → Prop} {M : Model} {A : Around} {E : Value → Shared → Prop} {s : Shared} (h : wpAny M A t Q E s) (hQ : ∀ a s, Q a s → Q' a s) : wpAny M A t Q' E s := wpAny_mono h hQ fun _ _ x => x
end L2

namespace L2
open PySem PySem.Spec PyProof.Rows
section
variable {X : Cx}

noncomputable def tVar (i : Nat) : TE := fun σ H Q => ∃ v, σ[i]? = some (some v) ∧ Q v H
noncomputable def tC (v : V) : TE := fun _ H Q => Q v H
theorem pe_var {i : Nat} {x : Str} {pos : Pos} (hN : X.N[i]? = some x) (hv : Vis X.env.scope x) (hd : (x == ("__debug__" : Str)) = false := by decide) (hcd : (x == ("__classdict__" : Str)) = false := by decide) : PE X (.Name x pos) (tVar i) := by
  intro pins s σ H Q I h
  obtain ⟨v, e, h⟩ := h
  obtain ⟨m, hn, hl⟩ := I.loc
  obtain ⟨u, r, l⟩ := hl i x v hN e hv
  have fin : EP X pins σ Q u s := ⟨v, H, I, r, h⟩
  rcases l with ⟨hk, hm⟩ | ⟨hk, c, hc, hcell⟩
  · exact wpAny_Name (wpAny_loadName_local I.ok.kind hk hn hm fin) hd
  · rcases hk with hk | hk
    · exact wpAny_Name (wpAny_loadName_cell I.ok.kind hk hc hcell fin) hd
    · exact wpAny_Name (wpAny_loadName_free I.ok.kind hk hc hcell fin hcd) hd
theorem pe_int {i j pos} : PE X (.Constant (.int i) j pos) (tC (.int i)) := fun _ _ _ H _ I h => wpAny_Constant_int ⟨.int i, H, I.tok _, ⟨_, rfl⟩, h⟩
theorem pe_bl {b j pos} : PE X (.Constant (.bool b) j pos) (tC (.bl b)) := fun _ _ _ H _ I h => Constant_bool ⟨.bl b, H, I, rfl, h⟩
theorem pe_str {x j pos} : PE X (.Constant (.str x) j pos) (tC (.str x)) := fun _ _ _ H _ I h => Calls.Constant_str ⟨.str x, H, I.tok _, ⟨_, rfl⟩, h⟩
noncomputable def Gl (X : Cx) (x : Str) : Prop := X.env.kindOf x = some .globalImplicit
theorem ld_glob {E : Value → Shared → Prop} {pins : List (Addr × Obj)} {s : Shared} {σ : St} {H : Hp} {x : Str} {u : Value} {pos : Pos} {Q : Value → Shared → Prop} (I : Inv X pins σ H s) (hg : Gl X x) (hm : X.mg x = some u) (h : Q u s)
    (hd : (x == ("__debug__" : Str)) = false := by decide) : wpAny (model X.prog X.w) X.A (eval (.Name x pos) X.env) Q E s :=
  Calls.Name_function_global I.ok.kind hg (Calls.loadGlobal_global (by rw [I.ok.glob]; exact I.mod.glob.keeps I.bk) hm h) hd
theorem ld_blt {E : Value → Shared → Prop} {pins : List (Addr × Obj)} {s : Shared} {σ : St} {H : Hp} {x : Str} {u : Value} {pos : Pos} {Q : Value → Shared → Prop} (I : Inv X pins σ H s) (hg : Gl X x) (hm : X.mg x = none) (hv : bootBuiltins x = some u) (h : Q u s)
    (hn : x ≠ "__name__" := by decide) (hd : (x == ("__debug__" : Str)) = false := by decide) : wpAny (model X.prog X.w) X.A (eval (.Name x pos) X.env) Q E s := by
  obtain ⟨mb, h1, h2⟩ := I.mod.blt
  exact Calls.Name_function_global I.ok.kind hg (Calls.loadGlobal_builtin (by rw [I.ok.glob]; exact I.mod.glob.keeps I.bk) hm (by rw [I.ok.blt]; exact h1.keeps I.bk) ((h2 x hn).trans hv) h) hd
theorem pe_glob {x : Str} {v : V} {u : Value} {pos : Pos} (hg : Gl X x) (hm : X.mg x = some u) (r : RelV v u) (hd : (x == ("__debug__" : Str)) = false := by decide) : PE X (.Name x pos) (tC v) :=
  fun _ _ _ H _ I h => ld_glob I hg hm ⟨v, H, I, r, h⟩ hd
theorem pe_bltn {x : Str} {v : V} {u : Value} {pos : Pos} (hg : Gl X x) (hm : X.mg x = none) (hv : bootBuiltins x = some u) (r : RelV v u) (hn : x ≠ "__name__" := by decide) (hd : (x == ("__debug__" : Str)) = false := by decide) : PE X (.Name x pos) (tC v) :=
  fun _ _ _ H _ I h => ld_blt I hg hm hv ⟨v, H, I, r, h⟩ hn hd
variable {a b : Expr} {ta tb : TE} {pos : Pos}
noncomputable def PC (X : Cx) (op : CmpOp) (a b : Expr) (t : TE) : Prop :=
  ∀ (pins : List (Addr × Obj)) (s : Shared) (σ : St) (H : Hp) (Q : VK), Inv X pins σ H s → t σ H Q →
    wpAny (model X.prog X.w) X.A (eval a X.env) (fun v s₁ => wpAny (model X.prog X.w) X.A (eval b X.env) (fun u s₂ => wpAny (model X.prog X.w) X.A (compareOp op v u) (EP X pins σ Q) X.xe s₂) X.xe s₁) X.xe s
theorem nobehind (b : Expr) {op : CmpOp} (h : op ≠ .In) (h2 : op ≠ .NotIn) : behindInMarks op b = false := by
  have e1 : (op == CmpOp.In) = false := by cases op <;> first | rfl | exact absurd rfl h
  have e2 : (op == CmpOp.NotIn) = false := by cases op <;> first | rfl | exact absurd rfl h2
  cases b <;> simp [behindInMarks, e1, e2]
noncomputable def tB (t : TE) : TT := fun σ H Q => t σ H fun x H1 => ∃ c, x = .bl c ∧ Q c H1
theorem pe_cmp {op : CmpOp} {t : TE} (h : PC X op a b t) (h1 : behindInMarks op b = false := by first | exact nobehind _ (by decide) (by decide) | rfl) : PE X (.Compare a [op] [b] pos) t := fun pins s σ H Q I hw => wpAny_Compare1 (h pins s σ H Q I hw) h1
theorem pt_cmp {op : CmpOp} {t : TE} (h : PC X op a b t) (h1 : behindInMarks op b = false := by first | exact nobehind _ (by decide) (by decide) | rfl) : PT X (.Compare a [op] [b] pos) (tB t) := by
  intro pins s σ H Q I hw
  refine wpAny_isTrue_Compare1 (thn (h pins s σ H _ I hw) fun v s1 h1 => thn h1 fun u s2 h2 => thn h2 fun c s3 zz9 => ?_) h1
  obtain ⟨x, H1, I1, r1, q1⟩ := zz9
  obtain ⟨d, rfl, q⟩ := q1
  cases r1
  exact wpAny_truthy_bool ⟨H1, I1, q⟩
theorem pt_val {e : Expr} {t : TE} (h : PE X e t) (he : ∀ whole, isTrue e X.env whole = (do let v ← whole; standAt e.pos; holding [v] (truthy v)) := by intro _; rfl) : PT X e (tB t) := by
  intro pins s σ H Q I hw
  refine isTrue_plain (thn (h pins s σ H _ I hw) fun v s1 ⟨x, H1, I1, r1, q1⟩ => ?_) (he _)
  obtain ⟨d, rfl, q⟩ := q1
  cases r1
  exact wpAny_truthy_bool ⟨H1, I1, q⟩
variable {tA tB' : TT} {rest : List Expr}
noncomputable def tAnd (t u : TT) : TT := fun σ H Q => t σ H fun c H1 => if c = true then u σ H1 Q else Q false H1
noncomputable def tOr (t u : TT) : TT := fun σ H Q => t σ H fun c H1 => if c = true then Q true H1 else u σ H1 Q
noncomputable def tNot (t : TT) : TT := fun σ H Q => t σ H fun c H1 => Q (!c) H1
theorem pw_and1 (ha : PT X a tA) : PW X (.BoolOp .And [a] pos) tA := by
  intro wh pins s σ H Q I h
  refine isTrue_and (thn (ha pins s σ H Q I h) fun c s1 e => ?_)
  cases c with
  | true => exact isTrue_and_nil e
  | false => exact e
theorem pw_or1 (ha : PT X a tA) : PW X (.BoolOp .Or [a] pos) tA := by
  intro wh pins s σ H Q I h
  refine isTrue_or (thn (ha pins s σ H Q I h) fun c s1 e => ?_)
  cases c with
  | false => exact isTrue_or_nil e
  | true => exact e
theorem pw_and (ha : PT X a tA) (hb : PW X (.BoolOp .And (b :: rest) pos) tB') : PW X (.BoolOp .And (a :: b :: rest) pos) (tAnd tA tB') := by
  intro wh pins s σ H Q I h
  refine isTrue_and (thn (ha pins s σ H _ I h) fun c s1 zz9 => ?_)
  obtain ⟨H1, I1, q1⟩ := zz9
  cases c with
  | true => exact hb wh pins s1 σ H1 Q I1 q1
  | false => exact ⟨H1, I1, q1⟩
theorem pw_or (ha : PT X a tA) (hb : PW X (.BoolOp .Or (b :: rest) pos) tB') : PW X (.BoolOp .Or (a :: b :: rest) pos) (tOr tA tB') := by
  intro wh pins s σ H Q I h
  refine isTrue_or (thn (ha pins s σ H _ I h) fun c s1 zz9 => ?_)
  obtain ⟨H1, I1, q1⟩ := zz9
  cases c with
  | true => exact ⟨H1, I1, q1⟩
  | false => exact hb wh pins s1 σ H1 Q I1 q1
theorem pt_not (ha : PT X a tA) : PT X (.UnaryOp .Not a pos) (tNot tA) := by
  intro pins s σ H Q I h
  exact isTrue_not (ha pins s σ H (fun c H1 => Q (!c) H1) I h)
noncomputable def tAndV (ta tb : TE) : TE := fun σ H Q => ta σ H fun x H1 => ∃ c, x = .bl c ∧ if c = true then tb σ H1 Q else Q (.bl false) H1
noncomputable def tNotV (ta : TE) : TE := fun σ H Q => ta σ H fun x H1 => ∃ c, x = .bl c ∧ Q (.bl (!c)) H1
theorem pe_one {op} {t : TE} (h : PE X a t) : PE X (.BoolOp op [a] pos) t := fun pins s σ H Q I hw => BoolOp_one (h pins s σ H Q I hw)
theorem pe_and (ha : PE X a ta) (hb : PE X (.BoolOp .And (b :: rest) pos) tb) : PE X (.BoolOp .And (a :: b :: rest) pos) (tAndV ta tb) := by
  intro pins s σ H Q I h
  refine BoolOp_and (thn (ha pins s σ H _ I h) fun v s1 zz9 => ?_)
  obtain ⟨x, H1, I1, r1, q1⟩ := zz9
  obtain ⟨c, rfl, q1⟩ := q1
  cases r1
  refine wpAny_truthy_bool ?_
  cases c with
  | true => exact hb pins s1 σ H1 Q I1 q1
  | false => exact ⟨.bl false, H1, I1, rfl, q1⟩
theorem pe_not (ha : PE X a ta) : PE X (.UnaryOp .Not a pos) (tNotV ta) := by
  intro pins s σ H Q I h
  refine UnaryOp_ (thn (ha pins s σ H _ I h) fun v s1 zz9 => ?_)
  obtain ⟨x, H1, I1, r1, q1⟩ := zz9
  obtain ⟨c, rfl, q1⟩ := q1
  cases r1
  exact not_of (wpAny_truthy_bool ⟨.bl (!c), H1, I1, rfl, q1⟩)
noncomputable def tIf (t : TT) (ta tb : TE) : TE := fun σ H Q => t σ H fun c H1 => if c = true then ta σ H1 Q else tb σ H1 Q
theorem pe_ifExp {c : Expr} (hc : PT X c tA) (ha : PE X a ta) (hb : PE X b tb) : PE X (.IfExp c a b pos) (tIf tA ta tb) := by
  intro pins s σ H Q I h
  refine wpAny_IfExp (thn (hc pins s σ H _ I h) fun d s1 zz9 => ?_)
  obtain ⟨H1, I1, q1⟩ := zz9
  cases d with
  | true => exact ha pins s1 σ H1 Q I1 q1
  | false => exact hb pins s1 σ H1 Q I1 q1
end
end L2

namespace L2
open PySem PySem.Spec PyProof.Rows

noncomputable def SqL (K : PySem.W.Frag) (H : Hp) (a : Addr) (xs : List V) : Prop :=
  Rd H a (.lst xs) ∨
    ∃ (o : Obj) (its : Array Value) (n : Nat), K.lookup a = some o ∧ o.cls = .type "list" ∧ o.dict = none ∧ o.data = .seq its n ∧ its.size ≤ sizeLine ∧ Vals xs its.toList
noncomputable def SqT (K : PySem.W.Frag) (H : Hp) (a : Addr) (xs : List V) : Prop :=
  Rd H a (.tup xs) ∨
    ∃ (o : Obj) (its : Array Value) (n : Nat), K.lookup a = some o ∧ o.cls = .type "tuple" ∧ o.data = .seq its n ∧ its.size ≤ sizeLine ∧ Vals xs its.toList
noncomputable def absV : Value → Option V
  | .none => some .non
  | .bool b => some (.bl b)
  | .int i _ => some (.int i)
  | .str x _ => some (.str x)
  | .bytes b _ => some (.byt b)
  | .float b _ => some (.flt b)
  | .ref a => some (.ref a)
  | .type n => some (.ty n)
  | _ => none
theorem RelV.abs {x : V} {u : Value} (r : RelV x u) : absV u = some x := by
  cases x with
  | non => cases r; rfl
  | bl _ => cases r; rfl
  | int _ => obtain ⟨t, rfl⟩ := r; rfl
  | str _ => obtain ⟨t, rfl⟩ := r; rfl
  | byt _ => obtain ⟨t, rfl⟩ := r; rfl
  | flt _ => obtain ⟨t, rfl⟩ := r; rfl
  | ref _ => cases r; rfl
  | ty _ => cases r; rfl
theorem RelV.inj {x y : V} {u : Value} (r : RelV x u) (q : RelV y u) : x = y := Option.some.inj (r.abs.symm.trans q.abs)
theorem Vals.inj : ∀ {xs ys : List V} {us : List Value}, Vals xs us → Vals ys us → xs = ys
  | _, _, _, .nil, .nil => rfl
  | _, _, _, .cons r t, .cons r' t' => by rw [r.inj r', Vals.inj t t']
section
variable {X : Cx} {pins : List (Addr × Obj)} {σ : St} {H : Hp} {s : Shared} {a : Addr} {xs ys : List V}
theorem SqL.of {K : PySem.W.Frag} (h : H a = some (.lst xs)) : SqL K H a xs := .inl (.inl h)
theorem SqT.of {K : PySem.W.Frag} (h : H a = some (.tup xs)) : SqT K H a xs := .inl (.inl h)
theorem Inv.list (I : Inv X pins σ H s) (h : SqL X.K H a xs) : ∃ its : List Value, Vals xs its ∧ PlainL s.heap a its.toArray ∧ xs.length ≤ sizeLine := by
  rcases h with h | ⟨o, its, n, hk, hc, hd, hs, hz, r⟩
  · obtain ⟨z, its, n, r, e⟩ := h.ok I.hok
    exact ⟨its, r, ⟨_, n, e, rfl, rfl, rfl⟩, z⟩
  · refine ⟨its.toList, r, ⟨o, n, I.kIn a o hk, hc, hd, by simpa using hs⟩, ?_⟩
    have e := r.length
    simp only [Array.length_toList] at e
    omega
theorem Inv.tuple (I : Inv X pins σ H s) (h : SqT X.K H a xs) : ∃ its : List Value, Vals xs its ∧ IsTup s.heap a its.toArray ∧ xs.length ≤ sizeLine := by
  rcases h with h | ⟨o, its, n, hk, hc, hs, hz, r⟩
  · obtain ⟨z, its, r, p⟩ := h.ok I.hok
    exact ⟨its, r, p, z⟩
  · refine ⟨its.toList, r, ⟨o, I.kIn a o hk, hc, n, by simpa using hs⟩, ?_⟩
    have e := r.length
    simp only [Array.length_toList] at e
    omega
theorem Inv.list_inj (I : Inv X pins σ H s) (h : SqL X.K H a xs) (h' : SqL X.K H a ys) : xs = ys := by
  obtain ⟨its, r, ⟨o, n, e, _, _, d⟩, _⟩ := I.list h
  obtain ⟨its', r', ⟨o', n', e', _, _, d'⟩, _⟩ := I.list h'
  rw [e] at e'; cases e'
  rw [d] at d'
  injection d' with d1 _
  have : its = its' := by simpa using congrArg Array.toList d1
  subst this
  exact r.inj r'
end

noncomputable abbrev Cx.wish (X : Cx) (E : Value → Shared → Prop) : Cx := { X with xe := E }
noncomputable abbrev Cx.nox (X : Cx) : Cx := X.wish fun _ _ => False
theorem Cx.Ok.wish {X : Cx} (ok : X.Ok) (E : Value → Shared → Prop) : (X.wish E).Ok :=
  ⟨ok.mod, ok.kind, ok.glob, ok.blt, ok.above, ok.inj, ok.has, ok.cab, ok.hd, ok.frames, ok.stk, ok.exf, ok.bs, ok.bsz, ok.noex, ok.exfs, ok.funs, ok.frf⟩
theorem Cx.Ok.unwish {X : Cx} {E : Value → Shared → Prop} (ok : (X.wish E).Ok) : X.Ok :=
  ⟨ok.mod, ok.kind, ok.glob, ok.blt, ok.above, ok.inj, ok.has, ok.cab, ok.hd, ok.frames, ok.stk, ok.exf, ok.bs, ok.bsz, ok.noex, ok.exfs, ok.funs, ok.frf⟩
section
variable {X : Cx} {pins : List (Addr × Obj)} {σ : St} {H : Hp} {s : Shared} {E : Value → Shared → Prop}
theorem Inv.wish (I : Inv X pins σ H s) (E : Value → Shared → Prop) : Inv (X.wish E) pins σ H s := ⟨I.ok.wish E, I.os, I.bare, I.base, I.loc, I.cell, I.free, I.freeC, I.pin, I.hok, I.len⟩
theorem Inv.unwish (I : Inv (X.wish E) pins σ H s) : Inv X pins σ H s := ⟨I.ok.unwish, I.os, I.bare, I.base, I.loc, I.cell, I.free, I.freeC, I.pin, I.hok, I.len⟩
theorem SP.unwish {D : Ends} {f : Flow} {s' : Shared} (h : SP (X.wish E) pins D f s') : SP X pins D f s' := by
  cases f with
  | next => obtain ⟨σ', H', I, q⟩ := h; exact ⟨σ', H', I.unwish, q⟩
  | brk => obtain ⟨σ', H', I, q⟩ := h; exact ⟨σ', H', I.unwish, q⟩
  | cont => obtain ⟨σ', H', I, q⟩ := h; exact ⟨σ', H', I.unwish, q⟩
  | ret u => obtain ⟨v, σ', H', I, r, q⟩ := h; exact ⟨v, σ', H', I.unwish, r, q⟩
theorem PE.nox {e : Expr} {t : TE} (h : PE X.nox e t) : PE X e t := fun pins s σ H Q I hw =>
  wpAny_mono (h pins s σ H Q (I.wish _) hw) (fun _ _ ⟨v, H', I', r, q⟩ => ⟨v, H', I'.unwish, r, q⟩) fun _ _ z => False.elim z
theorem PT.nox {e : Expr} {t : TT} (h : PT X.nox e t) : PT X e t := fun pins s σ H Q I hw =>
  wpAny_mono (h pins s σ H Q (I.wish _) hw) (fun _ _ ⟨H', I', q⟩ => ⟨H', I'.unwish, q⟩) fun _ _ z => False.elim z
theorem PSs.nox {st : List Stmt} {t : TS} (h : PSs X.nox st t) : PSs X st t := fun pins s σ H D I hw =>
  wpAny_mono (h pins s σ H D (I.wish _) hw) (fun _ _ q => q.unwish) fun _ _ z => False.elim z
end

section
variable {X : Cx} {st : Stmt} {rest : List Stmt} {t u : TS} {e : Expr} {te : TE} {pos : Pos}
noncomputable def tNext : TS := fun D σ H => D.nx σ H
noncomputable def tSeq (t u : TS) : TS := fun D σ H => t { D with nx := u D } σ H
theorem pss_nil : PSs X [] tNext := fun _ _ σ H _ I h => wpAny_execs_nil ⟨σ, H, I, h⟩
theorem pss_cons (h1 : PS X st t) (h2 : PSs X rest u) : PSs X (st :: rest) (tSeq t u) := by
  intro pins s σ H D I h
  refine wpAny_execs_cons (thn (h1 pins s σ H { D with nx := u D } I h) fun f s1 q => ?_)
  cases f with
  | next =>
    obtain ⟨σ', H', I', q⟩ := q
    exact h2 pins s1 σ' H' D I' q
  | ret v => exact q
  | brk => exact q
  | cont => exact q
theorem pss_one (h1 : PS X st t) : PSs X [st] t := by
  intro pins s σ H D I h
  refine wpAny_execs_cons (thn (h1 pins s σ H D I h) fun f s1 q => ?_)
  cases f with
  | next => exact wpAny_execs_nil q
  | ret v => exact q
  | brk => exact q
  | cont => exact q
theorem Inv.quiet {pins : List (Addr × Obj)} {σ : St} {H : Hp} {s : Shared} (I : Inv X pins σ H s) : interactive X.env = false := by simp [interactive, I.ok.kind]
noncomputable def tDrop (te : TE) : TS := fun D σ H => te σ H fun _ H1 => D.nx σ H1
theorem ps_expr (he : PE X e te) (hs : swapsWith e none pos.line X.env = pure false := by rfl) : PS X (.Expr e pos) (tDrop te) := by
  intro pins s σ H D I h
  exact wpAny_Expr_any (thn (he pins s σ H _ I h) fun v s1 ⟨x, H1, I1, r1, q1⟩ => ⟨σ, H1, I1, q1⟩) I.quiet hs
noncomputable def tRet (te : TE) : TS := fun D σ H => te σ H D.rt
theorem ps_ret (he : PE X e te) : PS X (.Return (some e) pos) (tRet te) := by
  intro pins s σ H D I h
  exact wpAny_Return_some (thn (he pins s σ H _ I h) fun v s1 ⟨x, H1, I1, r1, q1⟩ => ⟨x, σ, H1, I1, r1, q1⟩)
noncomputable def tIfS (c : TT) (t u : TS) : TS := fun D σ H => c σ H fun b H1 => if b = true then t D σ H1 else u D σ H1
theorem ps_if {c : Expr} {a b : List Stmt} {tc : TT} (hc : PT X c tc) (ha : PSs X a t) (hb : PSs X b u) : PS X (.If c a b pos) (tIfS tc t u) := by
  intro pins s σ H D I h
  refine wpAny_If (thn (hc pins s σ H _ I h) fun d s1 zz9 => ?_)
  obtain ⟨H1, I1, q1⟩ := zz9
  cases d with
  | true => exact ha pins s1 σ H1 D I1 q1
  | false => exact hb pins s1 σ H1 D I1 q1
end

noncomputable abbrev TG := V → St → Hp → (St → Hp → Prop) → Prop
noncomputable abbrev TGs := List V → St → Hp → (St → Hp → Prop) → Prop
noncomputable def PG (X : Cx) (target : Expr) (t : TG) : Prop :=
  ∀ (pins : List (Addr × Obj)) (s : Shared) (σ : St) (H : Hp) (v : V) (u : Value) (Q : St → Hp → Prop), Inv X pins σ H s → RelV v u → t v σ H Q →
    wpAny (model X.prog X.w) X.A (assign target X.env u) (fun _ s' => ∃ σ' H', Inv X pins σ' H' s' ∧ Q σ' H') X.xe s
noncomputable def PGs (X : Cx) (ts : List Expr) (t : TGs) : Prop :=
  ∀ (pins : List (Addr × Obj)) (s : Shared) (σ : St) (H : Hp) (vs : List V) (us : List Value) (Q : St → Hp → Prop), Inv X pins σ H s → Vals vs us → t vs σ H Q →
    wpAny (model X.prog X.w) X.A (assignInOrder ((assignEach ts X.env).map (·.2)) us) (fun _ s' => ∃ σ' H', Inv X pins σ' H' s' ∧ Q σ' H') X.xe s
noncomputable abbrev TSet := V → V → V → Hp → (Hp → Prop) → Prop
noncomputable def PSet (X : Cx) (t : TSet) : Prop :=
  ∀ (pins : List (Addr × Obj)) (s : Shared) (σ : St) (H : Hp) (o i v : V) (ov iv u : Value) (Q : Hp → Prop), Inv X pins σ H s → RelV o ov → RelV i iv → RelV v u → t o i v H Q →
    wpAny (model X.prog X.w) X.A (setItem ov iv u) (fun _ s' => ∃ H', Inv X pins σ H' s' ∧ Q H') X.xe s
section
variable {X : Cx} {pos : Pos}
noncomputable def gName (i : Nat) : TG := fun v σ H Q => Q (σ.set i (some v)) H
theorem pg_name {i : Nat} {x : Str} (hN : X.N.Nodup) (hi : X.N[i]? = some x) (hx : Loc X.env.scope x) (hf : X.fn x = true ∨ X.env.scope.names.lookup x = some .local := by first | exact .inl rfl | exact .inr rfl | assumption) : PG X (.Name x pos) (gName i) := by
  intro pins s σ H v u Q I r h
  exact wpAny_assign_Name (store_ok I hN hi hx r (fun s' I' => ⟨_, H, I', h⟩) hf)
noncomputable def gNil : TGs := fun vs σ H Q => vs = [] ∧ Q σ H
noncomputable def gCons (t : TG) (u : TGs) : TGs := fun vs σ H Q => ∃ v r, vs = v :: r ∧ t v σ H fun σ' H' => u r σ' H' Q
theorem pgs_nil : PGs X [] gNil := by
  intro pins s σ H vs us Q I r h
  obtain ⟨e, h⟩ := h
  subst e
  cases r
  exact assignInOrder_nil ⟨σ, H, I, h⟩
theorem pgs_cons {e : Expr} {es : List Expr} {t : TG} {u : TGs} (h1 : PG X e t) (h2 : PGs X es u)
    (hs : (assignEach (e :: es) X.env).map (·.2) = assign e X.env :: (assignEach es X.env).map (·.2) := by rfl) : PGs X (e :: es) (gCons t u) := by
  intro pins s σ H vs us Q I r h
  obtain ⟨v, vr, e1, h⟩ := h
  subst e1
  cases r with
  | cons r rr =>
    rw [hs]
    refine assignInOrder_cons (thn (h1 pins s σ H _ _ _ I r h) fun _ s1 zz9 => ?_)
    obtain ⟨σ1, H1, I1, q1⟩ := zz9
    exact h2 pins s1 σ1 H1 _ _ Q I1 rr q1
noncomputable def gTup (K : PySem.W.Frag) (n : Nat) (t : TGs) : TG := fun v σ H Q => ∃ a xs, v = .ref a ∧ SqT K H a xs ∧ xs.length = n ∧ t xs σ H Q
theorem pg_tup {es : List Expr} {k : Nat} {t : TGs} {n : Nat} (hc : X.calm = true) (h : PGs X es t)
    (hn : (assignEach es X.env).length = n := by rfl) (hst : (assignEach es X.env).findIdx? (·.1) = none := by rfl) : PG X (.Tuple es k pos) (gTup X.K n t) := by
  intro pins s σ H v u Q I r hw
  obtain ⟨a, xs, e1, hq, hl, hw⟩ := hw
  subst e1
  cases r
  obtain ⟨its, rv, ht, hz⟩ := I.tuple hq
  refine assign_Tuple_tuple (I.ok.hd hc) ht (by simp [hn, ← hl, rv.length]) hst fun h' hx => ?_
  have I1 : Inv X pins σ H { s with heap := h' } := I.kept (t' := s.toks) fun b o e => hx b o (Nat.ne_of_lt (Heap.lt_size e)) e
  exact h pins _ σ H xs _ Q I1 (by simpa using rv) hw
noncomputable def gSub (to ti : TE) (t : TSet) : TG := fun v σ H Q => to σ H fun o H1 => ti σ H1 fun i H2 => t o i v H2 fun H3 => Q σ H3
theorem pg_sub {o i : Expr} {to ti : TE} {t : TSet} (ho : PE X o to) (hi : PE X i ti) (hs : PSet X t)
    (ha : ∀ v, assign (.Subscript o i pos) X.env v = (do
      let ov ← holding [v] (eval o X.env)
      let iv ← holding [v, ov] (eval i X.env)
      standAt pos
      holding [v, ov, iv] (setItem ov iv v)
      release [v, ov, iv] []) := by intro _; rfl) : PG X (.Subscript o i pos) (gSub to ti t) := by
  intro pins s σ H v u Q I r h
  rw [ha]
  refine wpAny_bind (wpAny_holding (thn (ho pins s σ H _ I h) fun ov s1 zz9 => ?_))
  obtain ⟨x, H1, I1, r1, q1⟩ := zz9
  refine wpAny_bind (wpAny_holding (thn (hi pins s1 σ H1 _ I1 q1) fun iv s2 zz9 => ?_))
  obtain ⟨y, H2, I2, r2, q2⟩ := zz9
  refine wpAny_bind (wpAny_standAt (wpAny_bind (wpAny_holding (thn (hs pins s2 σ H2 x y v ov iv u _ I2 r1 r2 r q2) fun _ s3 zz9 => ?_))))
  obtain ⟨H3, I3, q3⟩ := zz9
  exact wpAny_release ⟨σ, H3, I3, q3⟩
noncomputable def tAsg (te : TE) (g : TG) : TS := fun D σ H => te σ H fun x H1 => g x σ H1 D.nx
theorem ps_asg {tg e : Expr} {te : TE} {g : TG} (he : PE X e te) (hg : PG X tg g) (hs : swapsWithSole [tg] e pos.line X.env = pure false := by rfl) (hw : swappedStores [tg] e X.env = pure none := by rfl)
    (h1 : (assignEach [tg] X.env).map (·.2) = [assign tg X.env] := by rfl) : PS X (.Assign [tg] e pos) (tAsg te g) := by
  intro pins s σ H D I h
  refine wpAny_Assign_stores (thn (he pins s σ H _ I h) fun v s1 zz9 => ?_) hs hw
  obtain ⟨x, H1, I1, r1, q1⟩ := zz9
  rw [h1]
  exact thn (hg pins s1 σ H1 x v _ I1 r1 q1) fun _ s2 q => q
theorem ps_set {i : Nat} {x : Str} {e : Expr} {te : TE} {pos' : Pos} (hN : X.N.Nodup) (hi : X.N[i]? = some x) (hx : Loc X.env.scope x) (he : PE X e te) (hs : swapsWith e (some (.Name x pos')) pos.line X.env = pure false := by rfl) (hf : X.fn x = true ∨ X.env.scope.names.lookup x = some .local := by first | exact .inl rfl | exact .inr rfl | assumption) :
    PS X (.Assign [.Name x pos'] e pos) (tAsg te (gName i)) := by
  intro pins s σ H D I h
  refine wpAny_Assign_Name (thn (he pins s σ H _ I h) fun v s1 zz9 => ?_) hs
  obtain ⟨y, H1, I1, r1, q1⟩ := zz9
  exact store_ok I1 hN hi hx r1 (fun s2 I2 => ⟨_, H1, I2, q1⟩) hf
end

section
variable {X : Cx} {pos : Pos}
noncomputable def tWhile (c : TT) (tb : TS) : TS := fun D σ H => ∃ W : Nat → St → Hp → Prop, (∃ m, W m σ H) ∧ ∀ m σ H, W m σ H →
  c σ H fun b H1 => if b = true then ∃ N : St → Hp → Prop, (∀ σ' H', N σ' H' → ∃ m', m' < m ∧ W m' σ' H') ∧ tb { D with nx := N, ct := N, bk := D.nx } σ H1 else D.nx σ H1
theorem ps_while {c : Expr} {body : List Stmt} {tc : TT} {tb : TS} (hp : PassesOwn (model X.prog X.w) X.A X.env X.xe) (hc : PT X c tc) (hb : PSs X body tb) : PS X (.While c body [] pos) (tWhile tc tb) := by
  intro pins s σ H D I h
  obtain ⟨W, ⟨m0, w0⟩, turn⟩ := h
  refine wpAny_While (codeAny_whileLoop (fun n s' => ∃ σ' H', Inv X pins σ' H' s' ∧ W n σ' H') ?_ m0 ⟨σ, H, I, w0⟩)
  rintro n s1 ⟨σ1, H1, I1, w1⟩
  refine wpAny_passesOwn hp (thn (hc pins s1 σ1 H1 _ I1 (turn n σ1 H1 w1)) fun b s2 zz9 => ?_)
  obtain ⟨H2, I2, q2⟩ := zz9
  cases b with
  | true =>
    obtain ⟨N, hN, q2⟩ := q2
    rw [if_pos rfl]
    refine wpAny_passesOwn hp (thn (hb pins s2 σ1 H2 _ I2 q2) fun f s3 q3 => ?_)
    cases f with
    | next =>
      obtain ⟨σ3, H3, I3, n3⟩ := q3
      obtain ⟨m', hm, w3⟩ := hN σ3 H3 n3
      exact ⟨m', hm, σ3, H3, I3, w3⟩
    | cont =>
      obtain ⟨σ3, H3, I3, n3⟩ := q3
      obtain ⟨m', hm, w3⟩ := hN σ3 H3 n3
      exact ⟨m', hm, σ3, H3, I3, w3⟩
    | brk => exact q3
    | ret v => exact q3
  | false =>
    rw [if_neg Bool.false_ne_true]
    exact wpAny_execs_nil ⟨σ1, H2, I2, q2⟩
end

structure It where
  go : Nat → Hp → Prop
  yld : Nat → Hp → V → Hp → Prop
  stop : Nat → Hp → Prop
noncomputable def FpOk (X : Cx) (pins : List (Addr × Obj)) (H : Hp) (b : Addr) : Prop :=
  H b = none ∧ b ≠ X.env.locals ∧ b ∉ X.fs ∧ (b ∈ X.ex ∨ X.s₀.heap.objs.size ≤ b) ∧ (∀ x c, X.env.cells.lookup x = some c → c ≠ b) ∧ ∀ p ∈ X.pn ++ pins, p.1 ≠ b
theorem Inv.fpOk {X : Cx} {pins : List (Addr × Obj)} {σ : St} {H H' : Hp} {s : Shared} {b : Addr} (I : Inv X pins σ H s) (hb : s.heap.objs.size ≤ b) (hn : H' b = none) : FpOk X pins H' b := by
  refine ⟨hn, Nat.ne_of_gt (Nat.lt_of_lt_of_le I.lt hb), I.nofs hb, .inr (Nat.le_trans I.sz hb), fun x c e z => ?_, fun p hp z => ?_⟩
  · obtain ⟨v, q⟩ := I.cell x c e
    exact absurd (Nat.lt_of_lt_of_le q.lt (by rw [z]; exact hb)) (Nat.lt_irrefl _)
  · exact absurd (Nat.lt_of_lt_of_le (Heap.lt_size (I.pin p hp).1) (by rw [z]; exact hb)) (Nat.lt_irrefl _)
structure Turn (P : Program) (w : World) (K : PySem.W.Frag) (tg : Expr) (J : It) (fp : List Addr) (it : Addr) (tn : Nat → Heap → Prop) : Prop where
  mem : it ∈ fp
  obj : ∀ i h, tn i h → ∀ b ∈ fp, ∃ o, h.get? b = some o ∧ ∀ v, o.data ≠ .cell v
  keep : ∀ i h h', tn i h → (∀ b ∈ fp, ∀ o, h.get? b = some o → h'.get? b = some o) → tn i h'
  item : ∀ (X : Cx), X.prog = P → X.w = w → X.K = K → X.calm = true → ∀ (i : Nat) (pins : List (Addr × Obj)) (s : Shared) (σ : St) (H : Hp) (E : Value → Shared → Prop), Inv X pins σ H s → (∀ b ∈ fp, FpOk X pins H b) → tn i s.heap → J.go i H →
    wpAny (model P w) X.A (pyNext (.ref it)) (fun r s1 => ∃ u, r = some u ∧
      wpAny (model P w) X.A (letOwnedTupleGo tg (.ref it) u) (fun _ s2 => ∃ x H', Inv X pins σ H' s2 ∧ RelV x u ∧ J.yld i H x H' ∧ tn (i + 1) s2.heap ∧ ∀ b ∈ fp, H' b = none) E s1) E s
  done : ∀ (X : Cx), X.prog = P → X.w = w → X.K = K → X.calm = true → ∀ (i : Nat) (pins : List (Addr × Obj)) (s : Shared) (σ : St) (H : Hp) (E : Value → Shared → Prop), Inv X pins σ H s → (∀ b ∈ fp, FpOk X pins H b) → tn i s.heap → J.stop i H →
    wpAny (model P w) X.A (pyNext (.ref it)) (fun r s1 => r = none ∧ Inv X pins σ H s1) E s
  self : ∀ (A : Around) (i : Nat) (s : Shared) (Q : Value → Shared → Prop) (E : Value → Shared → Prop), tn i s.heap → Q (.ref it) s → wpAny (model P w) A (pyIter (.ref it)) Q E s
noncomputable abbrev TI := St → Hp → (It → Hp → Prop) → Prop
noncomputable def PIE (X : Cx) (pins : List (Addr × Obj)) (σ : St) (tg : Expr) (R : It → Hp → Prop) (itv : Value) (s2 : Shared) : Prop :=
  ∃ (it : Addr) (fp : List Addr) (tn : Nat → Heap → Prop) (J : It) (H' : Hp), itv = .ref it ∧ Inv X pins σ H' s2 ∧ Turn X.prog X.w X.K tg J fp it tn ∧ tn 0 s2.heap ∧ (∀ b ∈ fp, FpOk X pins H' b) ∧ R J H'
noncomputable def PI (X : Cx) (tg iter : Expr) (wi : TI) : Prop :=
  ∀ (pins : List (Addr × Obj)) (s : Shared) (σ : St) (H : Hp) (R : It → Hp → Prop), Inv X pins σ H s → wi σ H R →
    wpAny (model X.prog X.w) X.A (eval iter X.env) (fun v s1 => wpAny (model X.prog X.w) X.A (pyIter v) (PIE X pins σ tg R) X.xe s1) X.xe s
theorem go_of {M : Model} {A : Around} {E : Value → Shared → Prop} {s : Shared} {tg : Expr} {it : Addr} {u : Value} {o : Obj} {n : String} {vs : Array Value} {Q : Unit → Shared → Prop} (ho : s.heap.get? it = some o) (hc : o.cls = .type n) (hd : o.data = .fields vs)
    (hn : ["enumerate", "zip", "dict_itemiterator", "dict_reverseitemiterator", "odict_iterator", "itertools.zip_longest", "itertools.pairwise"].contains n = false) (hQ : Q () s) : wpAny M A (letOwnedTupleGo tg (.ref it) u) Q E s := by
  unfold letOwnedTupleGo
  cases tg <;> first
    | exact wpAny_pure hQ
    | (cases u <;> first
        | exact wpAny_pure hQ
        | (refine wpAny_bind (wpAny_load ho ?_)
           rw [hc, hd]
           show wpAny M A (if (["enumerate", "zip", "dict_itemiterator", "dict_reverseitemiterator", "odict_iterator", "itertools.zip_longest", "itertools.pairwise"].contains n && vs[0]? == some (rawInt _)) = true then _ else _) Q E s
           rw [if_neg (by intro h; rw [hn, Bool.false_and] at h; cases h)]
           exact wpAny_pure hQ))
noncomputable def Itl (K : PySem.W.Frag) (a : Addr) : It :=
  ⟨fun i H => ∃ xs x, SqL K H a xs ∧ xs[i]? = some x, fun i H x H' => H' = H ∧ ∀ xs, SqL K H a xs → xs[i]? = some x, fun i H => ∃ xs, SqL K H a xs ∧ xs.length ≤ i⟩
noncomputable def Itr (lo : Int) (n : Nat) : It := ⟨fun i _ => i < n, fun i H x H' => H' = H ∧ x = .int (lo + i), fun i _ => n ≤ i⟩
theorem turn_list {P : Program} {w : World} {K : PySem.W.Frag} {tg : Expr} (a it : Addr) : Turn P w K tg (Itl K a) [it] it (fun i h => h.IsListIter it a i) where
  mem := by simp
  obj := fun i h st b hb => by
    have e : b = it := by simpa using hb
    subst e
    obtain ⟨o, e, c, d⟩ := st
    exact ⟨o, e, fun v z => by rw [d] at z; cases z⟩
  keep := fun i h h' st k => st.at fun o e => k it (by simp) o e
  item := by
    intro X hP hw hK hc i pins s σ H E I hf st hg
    subst hP hw hK
    obtain ⟨xs, x, hq, hx⟩ := hg
    obtain ⟨its, rv, p, hz⟩ := I.list hq
    obtain ⟨u, hu, ru⟩ := rv.get hx
    obtain ⟨f0, f1, f2, f3, f4, f5⟩ := hf it (by simp)
    refine wpAny_pyNext_list_item st p.isList (x := u) (by simpa using hu) fun h' st' sb => ?_
    have I1 : Inv X pins σ H { s with heap := h' } := I.turned (t' := s.toks) (fun b o hb e => (sb.2 b hb).trans e) f0 f1 f3 f4 f5
    obtain ⟨o, e, c, d⟩ := id st'
    exact ⟨u, rfl, go_of (s := { s with heap := h' }) e c d (by decide) ⟨x, H, I1, ru, ⟨rfl, fun ys hy => by rw [I.list_inj hy hq]; exact hx⟩, st', fun b hb => (hf b hb).1⟩⟩
  done := by
    intro X hP hw hK hc i pins s σ H E I hf st hg
    subst hP hw hK
    obtain ⟨xs, hq, hx⟩ := hg
    obtain ⟨its, rv, p, hz⟩ := I.list hq
    obtain ⟨f0, f1, f2, f3, f4, f5⟩ := hf it (by simp)
    have hl := rv.length
    exact wpAny_pyNext_list_end (I.ok.hd hc) st p.isList (by simp; omega) fun h' eb => ⟨rfl, I.turned (t' := s.toks) (fun b o hb e => eb b o hb e) f0 f1 f3 f4 f5⟩
  self := fun _ _ _ _ _ st h => wpAny_pyIter_listiter st h
theorem turn_range {P : Program} {w : World} {K : PySem.W.Frag} {tg : Expr} (it : Addr) (lo : Int) (n : Nat) : Turn P w K tg (Itr lo n) [it] it (fun i h => IsRangeIter h it (lo + (i : Nat) * 1) ((n : Int) - (i : Nat)) 1) where
  mem := by simp
  obj := fun i h st b hb => by
    have e : b = it := by simpa using hb
    subst e
    exact ⟨_, st, fun v z => by
      have z' : Data.fields _ = Data.cell v := z
      cases z'⟩
  keep := fun i h h' st k => k it (by simp) _ st
  item := by
    intro X hP hw hK hc i pins s σ H E I hf st hg
    subst hP hw hK
    obtain ⟨f0, f1, f2, f3, f4, f5⟩ := hf it (by simp)
    have W := Walks.range (prog := X.prog) (w := X.w) (I.ok.hd hc) it lo 1 n
    refine W.item i s _ _ hg st fun v h' tk hv st' kk => ?_
    obtain ⟨t, rfl⟩ := hv
    have I1 : Inv X pins σ H { s with heap := h', toks := tk } := I.turned (fun b o hb e => kk b o (by simpa using hb) e) f0 f1 f3 f4 f5
    refine ⟨_, rfl, go_of (s := { s with heap := h', toks := tk }) (n := "range_iterator") st' rfl rfl (by decide) ⟨.int (lo + i), H, I1, ⟨t, ?_⟩, ⟨rfl, rfl⟩, st', fun b hb => (hf b hb).1⟩⟩
    rw [Int.mul_one]
  done := by
    intro X hP hw hK hc i pins s σ H E I hf st hg
    subst hP hw hK
    obtain ⟨f0, f1, f2, f3, f4, f5⟩ := hf it (by simp)
    exact wpAny_pyNext_range_end (I.ok.hd hc) st (by have : n ≤ i := hg; omega) fun h' eb => ⟨rfl, I.turned (t' := s.toks) (fun b o hb e => eb b o hb e) f0 f1 f3 f4 f5⟩
  self := fun _ _ _ _ _ st h => wpAny_pyIter_rangeiter st h
end L2

namespace L2
open PySem PySem.Spec PyProof.Rows
section
variable {X : Cx} {tg : Expr}
noncomputable def iList (K : PySem.W.Frag) (tl : TE) : TI := fun σ H R => tl σ H fun x H1 => ∃ a, x = .ref a ∧ (∃ xs, SqL K H1 a xs) ∧ R (Itl K a) H1
theorem pi_list {l : Expr} {tl : TE} (hl : PE X l tl) : PI X tg l (iList X.K tl) := by
  intro pins s σ H R I h
  refine thn (hl pins s σ H _ I h) fun v s1 zz9 => ?_
  obtain ⟨x, H1, I1, r1, q1⟩ := zz9
  obtain ⟨a, e, ⟨xs, hq⟩, q⟩ := q1
  subst e
  cases r1
  obtain ⟨its, rv, p, hz⟩ := I1.list hq
  refine wpAny_pyIter_list p.isList ?_
  refine ⟨s1.heap.objs.size, [s1.heap.objs.size], _, _, H1, rfl, I1.kept (t' := s1.toks) fun b o e => Heap.get?_push_of_some _ e, turn_list a _, ⟨_, Heap.get?_push_size _ rfl, rfl, rfl⟩, fun b hb => ?_, q⟩
  have e : b = s1.heap.objs.size := by simpa using hb
  subst e
  exact I1.fpOk (Nat.le_refl _) (I1.hok.fresh (Nat.le_refl _))
theorem range_it {pins : List (Addr × Obj)} {σ : St} {H : Hp} {s : Shared} {R : It → Hp → Prop} {E : Value → Shared → Prop} {lo hi : Int} {t u v : Tok} {tk : Nat} (I : Inv X pins σ H s) (h1 : -(2 ^ 62) ≤ lo) (h2 : lo < 2 ^ 62) (h3 : -(2 ^ 62) ≤ hi) (h4 : hi < 2 ^ 62)
    (q : R (Itr lo (hi - lo).toNat) H) : wpAny (model X.prog X.w) X.A (pyIter (.ref s.heap.objs.size)) (PIE X pins σ tg R) E { s with heap := s.heap.push { cls := .type "range", data := .fields #[.int lo t, .int hi u, .int 1 v] }, toks := tk } := by
  refine wpAny_pyIter_range (IsRange.new ..) (small_one h1 h2 h3 h4) ?_
  have I1 : Inv X pins σ H { s with heap := s.heap.push { cls := .type "range", data := .fields #[.int lo t, .int hi u, .int 1 v] }, toks := tk } := I.kept fun b o e => Heap.get?_push_of_some _ e
  refine ⟨(s.heap.push { cls := .type "range", data := .fields #[.int lo t, .int hi u, .int 1 v] }).objs.size, [(s.heap.push { cls := .type "range", data := .fields #[.int lo t, .int hi u, .int 1 v] }).objs.size], _, _, H, rfl,
    I1.kept (t' := tk) fun b o e => Heap.get?_push_of_some _ e, turn_range _ lo (hi - lo).toNat, ?_, fun b hb => ?_, q⟩
  · have e1 : lo + ((0 : Nat) : Int) * 1 = lo := by simp
    have e2 : (((hi - lo).toNat : Nat) : Int) - ((0 : Nat) : Int) = Builtin.Range.rangeSize lo hi 1 := by rw [rangeSize_one]; split <;> omega
    show IsRangeIter _ _ (lo + ((0 : Nat) : Int) * 1) ((((hi - lo).toNat : Nat) : Int) - ((0 : Nat) : Int)) 1
    rw [e1, e2]
    exact Heap.get?_push_size _ rfl
  · have e : b = (s.heap.push { cls := .type "range", data := .fields #[.int lo t, .int hi u, .int 1 v] }).objs.size := by simpa using hb
    subst e
    exact I1.fpOk (Nat.le_refl _) (I1.hok.fresh (Nat.le_refl _))
noncomputable def iRng1 (ta : TA) : TI := fun σ H R => ta σ H fun vs H1 => ∃ j : Int, vs = [.int j] ∧ -(2 ^ 62) ≤ j ∧ j < 2 ^ 62 ∧ R (Itr 0 j.toNat) H1
theorem pi_range1 {a : Expr} {ta : TA} {p pos : Pos} (hg : Gl X "range") (hm : X.mg "range" = none) (ha : PA X [a] ta) (hs : starEach [a] X.env = [(false, eval a X.env)] := by rfl) : PI X tg (.Call (.Name "range" p) [a] [] pos) (iRng1 ta) := by
  intro pins s σ H R I h
  refine Call_ (ld_blt I hg hm boot_range (PyProof.Rows.callWith_type1 (thn (ha pos pins s σ H _ I h) fun us s1 zz9 => ?_) hs rfl))
  obtain ⟨vs, H1, I1, r1, q1⟩ := zz9
  obtain ⟨j, e, q1, q2, q⟩ := q1
  subst e
  cases r1 with
  | cons r rr =>
    cases rr
    obtain ⟨t, rfl⟩ := r
    exact call_range_1 (range_it I1 (by omega) (by omega) q1 q2 (by simpa using q))
noncomputable def tFor (wi : TI) (g : TG) (tb : TS) : TS := fun D σ H => wi σ H fun J H1 => ∃ W : Nat → Nat → St → Hp → Prop, (∃ m, W 0 m σ H1) ∧ ∀ i m σ H, W i m σ H →
  (J.stop i H ∧ D.nx σ H) ∨ (J.go i H ∧ ∃ N : St → Hp → Prop, (∀ σ' H', N σ' H' → ∃ m', m' < m ∧ W (i + 1) m' σ' H') ∧ ∀ x H', J.yld i H x H' → g x σ H' fun σ2 H2 => tb { D with nx := N, ct := N, bk := D.nx } σ2 H2)
noncomputable def pinsAt (fp : List Addr) (h : Heap) : List (Addr × Obj) := fp.filterMap fun b => (h.get? b).map fun o => (b, o)
theorem mem_pinsAt {fp : List Addr} {h : Heap} {b : Addr} {o : Obj} (hb : b ∈ fp) (e : h.get? b = some o) : (b, o) ∈ pinsAt fp h := List.mem_filterMap.mpr ⟨b, hb, by rw [e]; rfl⟩
theorem of_pinsAt {fp : List Addr} {h : Heap} {p : Addr × Obj} (hp : p ∈ pinsAt fp h) : p.1 ∈ fp ∧ h.get? p.1 = some p.2 := by
  obtain ⟨b, hb, e⟩ := List.mem_filterMap.mp hp
  cases q : h.get? b with
  | none => rw [q] at e; cases e
  | some o =>
    rw [q] at e
    have e' : (b, o) = p := Option.some.inj e
    subst e'
    exact ⟨hb, q⟩
theorem Inv.pinned {pins : List (Addr × Obj)} {σ : St} {H : Hp} {s : Shared} {fp : List Addr} (I : Inv X pins σ H s) (hf : ∀ b ∈ fp, FpOk X pins H b) (ho : ∀ b ∈ fp, ∃ o, s.heap.get? b = some o ∧ ∀ v, o.data ≠ .cell v) : Inv X (pins ++ pinsAt fp s.heap) σ H s :=
  I.pins_of fun p hp => (List.mem_append.mp hp).elim (fun z => I.pin p (List.mem_append_right _ z)) fun z => by
    obtain ⟨hb, e⟩ := of_pinsAt z
    obtain ⟨f0, f1, f2, _⟩ := hf p.1 hb
    obtain ⟨o, e', d⟩ := ho p.1 hb
    rw [e] at e'; cases e'
    exact ⟨e, f0, f1, f2, d⟩
theorem Inv.unpinned {pins pl : List (Addr × Obj)} {σ : St} {H : Hp} {s : Shared} (I : Inv X (pins ++ pl) σ H s) : Inv X pins σ H s := I.pins_of fun p hp => I.pin p (List.mem_append_right _ (List.mem_append_left _ hp))
theorem ps_for {iter : Expr} {body : List Stmt} {wi : TI} {g : TG} {tb : TS} {pos : Pos} (hp : PassesOwn (model X.prog X.w) X.A X.env X.xe) (hc : X.calm = true) (hi : PI X tg iter wi) (hg : PG X tg g) (hb : PSs X body tb)
    (hs : ∀ x, foldedSetIterable iter X.env x = pure x := by intro _; rfl) : PS X (.For tg iter body [] pos) (tFor wi g tb) := by
  intro pins s σ H D I h
  refine wpAny_For (thn (hi pins s σ H _ I h) fun v s1 h1 => thn h1 fun itv s2 h2 => ?_) hs
  obtain ⟨it, fp, tn, J, H2, e, I2, T, st2, f2, W, ⟨m0, w0⟩, turn⟩ := h2
  subst e
  -- what stays true of the iterator's objects through the loop
  have stat : ∀ {H' : Hp}, (∀ b ∈ fp, H' b = none) → ∀ b ∈ fp, FpOk X pins H' b := fun hn b hb => ⟨hn b hb, (f2 b hb).2⟩
  refine codeAny_forLoop_any (fun n s' => ∃ i σ' H', Inv X pins σ' H' s' ∧ tn i s'.heap ∧ (∀ b ∈ fp, H' b = none) ∧ W i n σ' H') ?_ m0 ⟨0, σ, H2, I2, st2, fun b hb => (f2 b hb).1, w0⟩
  rintro n s3 ⟨i, σ3, H3, I3, st3, fr3, w3⟩
  rcases turn i n σ3 H3 w3 with ⟨stop, qn⟩ | ⟨go, N, hN, step⟩
  · refine wpAny_passesOwn hp (thn (T.done X rfl rfl rfl hc i pins s3 σ3 H3 X.xe I3 (stat fr3) st3 stop) fun r s4 zz9 => ?_)
    obtain ⟨hr, I4⟩ := zz9
    subst hr
    exact wpAny_execs_nil ⟨σ3, H3, I4, qn⟩
  · refine wpAny_passesOwn hp (thn (T.item X rfl rfl rfl hc i pins s3 σ3 H3 X.xe I3 (stat fr3) st3 go) fun r s4 zz9 => ?_)
    obtain ⟨u, hr, h4⟩ := zz9
    subst hr
    refine wpAny_passesOwn hp (thn h4 fun _ s5 zz9 => ?_)
    obtain ⟨x, H5, I5, r5, y5, st5, fr5⟩ := zz9
    have I5' := I5.pinned (stat fr5) (T.obj _ _ st5)
    refine wpAny_passesOwn hp (thn (hg _ s5 σ3 H5 x u _ I5' r5 (step x H5 y5)) fun _ s6 zz9 => ?_)
    obtain ⟨σ6, H6, I6, q6⟩ := zz9
    refine wpAny_passesOwn hp (thn (hb _ s6 σ6 H6 _ I6 q6) fun f s7 q7 => ?_)
    have again : ∀ {σ7 : St} {H7 : Hp}, Inv X (pins ++ pinsAt fp s5.heap) σ7 H7 s7 → N σ7 H7 → ∃ m, m < n ∧ ∃ i σ' H', Inv X pins σ' H' s7 ∧ tn i s7.heap ∧ (∀ b ∈ fp, H' b = none) ∧ W i m σ' H' := fun {σ7 H7} I7 n7 => by
      obtain ⟨m', hm, w7⟩ := hN σ7 H7 n7
      refine ⟨m', hm, i + 1, σ7, H7, I7.unpinned, T.keep _ _ _ st5 fun b hb o e => (I7.pin (b, o) (List.mem_append_right _ (List.mem_append_right _ (mem_pinsAt hb e)))).1, fun b hb => ?_, w7⟩
      obtain ⟨o, e, d⟩ := T.obj _ _ st5 b hb
      exact (I7.pin (b, o) (List.mem_append_right _ (List.mem_append_right _ (mem_pinsAt hb e)))).2.1
    cases f with
    | next => obtain ⟨σ7, H7, I7, n7⟩ := q7; exact again I7 n7
    | cont => obtain ⟨σ7, H7, I7, n7⟩ := q7; exact again I7 n7
    | brk => obtain ⟨σ7, H7, I7, q7⟩ := q7; exact ⟨σ7, H7, I7.unpinned, q7⟩
    | ret v => obtain ⟨x7, σ7, H7, I7, r7, q7⟩ := q7; exact ⟨x7, σ7, H7, I7.unpinned, r7, q7⟩
end

theorem for_list {K : PySem.W.Frag} {a : Addr} {xs : List V} {g : TG} {tb : TS} {D : Ends} {σ : St} {H : Hp} (Pv : Nat → St → Hp → Prop) (h0 : Pv 0 σ H) (hl : ∀ i σ H, i ≤ xs.length → Pv i σ H → SqL K H a xs)
    (hs : ∀ i x σ H, xs[i]? = some x → Pv i σ H → g x σ H fun σ2 H2 => tb { D with nx := Pv (i + 1), ct := Pv (i + 1), bk := D.nx } σ2 H2) (hd : ∀ σ H, Pv xs.length σ H → D.nx σ H) :
    ∃ W : Nat → Nat → St → Hp → Prop, (∃ m, W 0 m σ H) ∧ ∀ i m σ H, W i m σ H →
      ((Itl K a).stop i H ∧ D.nx σ H) ∨ ((Itl K a).go i H ∧ ∃ N : St → Hp → Prop, (∀ σ' H', N σ' H' → ∃ m', m' < m ∧ W (i + 1) m' σ' H') ∧ ∀ x H', (Itl K a).yld i H x H' → g x σ H' fun σ2 H2 => tb { D with nx := N, ct := N, bk := D.nx } σ2 H2) := by
  refine ⟨fun i m σ H => m = xs.length - i ∧ i ≤ xs.length ∧ Pv i σ H, ⟨xs.length, by simp, Nat.zero_le _, h0⟩, ?_⟩
  rintro i m σ H ⟨rfl, hi, p⟩
  have q := hl i σ H hi p
  by_cases hlt : i < xs.length
  · refine .inr ⟨⟨xs, xs[i], q, by simp [hlt]⟩, Pv (i + 1), fun σ' H' p' => ⟨xs.length - (i + 1), by omega, rfl, hlt, p'⟩, fun x H' y => ?_⟩
    obtain ⟨e, y⟩ := y
    subst e
    exact hs i x σ _ (y xs q) p
  · have e : i = xs.length := by omega
    subst e
    exact .inl ⟨⟨xs, q, Nat.le_refl _⟩, hd σ H p⟩
theorem for_range {lo : Int} {n : Nat} {g : TG} {tb : TS} {D : Ends} {σ : St} {H : Hp} (Pv : Nat → St → Hp → Prop) (h0 : Pv 0 σ H)
    (hs : ∀ i σ H, i < n → Pv i σ H → g (.int (lo + i)) σ H fun σ2 H2 => tb { D with nx := Pv (i + 1), ct := Pv (i + 1), bk := D.nx } σ2 H2) (hd : ∀ σ H, Pv n σ H → D.nx σ H) :
    ∃ W : Nat → Nat → St → Hp → Prop, (∃ m, W 0 m σ H) ∧ ∀ i m σ H, W i m σ H →
      ((Itr lo n).stop i H ∧ D.nx σ H) ∨ ((Itr lo n).go i H ∧ ∃ N : St → Hp → Prop, (∀ σ' H', N σ' H' → ∃ m', m' < m ∧ W (i + 1) m' σ' H') ∧ ∀ x H', (Itr lo n).yld i H x H' → g x σ H' fun σ2 H2 => tb { D with nx := N, ct := N, bk := D.nx } σ2 H2) := by
  refine ⟨fun i m σ H => m = n - i ∧ i ≤ n ∧ Pv i σ H, ⟨n, by simp, Nat.zero_le _, h0⟩, ?_⟩
  rintro i m σ H ⟨rfl, hi, p⟩
  by_cases hlt : i < n
  · refine .inr ⟨hlt, Pv (i + 1), fun σ' H' p' => ⟨n - (i + 1), by omega, rfl, hlt, p'⟩, fun x H' y => ?_⟩
    obtain ⟨e, y⟩ := y
    subst e y
    exact hs i σ _ hlt p
  · have e : i = n := by omega
    subst e
    exact .inl ⟨Nat.le_refl _, hd σ H p⟩
end L2

namespace L2
open PySem PySem.Spec PyProof.Rows

noncomputable abbrev R2 := V → V → Hp → VK → Prop
noncomputable def OpR (X : Cx) (f : Value → Value → Sem Value) (r : R2) : Prop :=
  ∀ (pins : List (Addr × Obj)) (s : Shared) (σ : St) (H : Hp) (x y : V) (v u : Value) (Q : VK), Inv X pins σ H s → RelV x v → RelV y u → r x y H Q →
    wpAny (model X.prog X.w) X.A (f v u) (EP X pins σ Q) X.xe s
noncomputable def CallR (X : Cx) (f : Value) (r : List V → Hp → VK → Prop) : Prop :=
  ∀ (pins : List (Addr × Obj)) (s : Shared) (σ : St) (H : Hp) (xs : List V) (us : List Value) (Q : VK), Inv X pins σ H s → Vals xs us → r xs H Q →
    wpAny (model X.prog X.w) X.A (call f us) (EP X pins σ Q) X.xe s
noncomputable def TruR (X : Cx) (r : V → Hp → (Bool → Hp → Prop) → Prop) : Prop :=
  ∀ (pins : List (Addr × Obj)) (s : Shared) (σ : St) (H : Hp) (x : V) (v : Value) (Q : Bool → Hp → Prop), Inv X pins σ H s → RelV x v → r x H Q →
    wpAny (model X.prog X.w) X.A (truthy v) (TP X pins σ Q) X.xe s
noncomputable def tOp (r : R2) (ta tb : TE) : TE := fun σ H Q => ta σ H fun x H1 => tb σ H1 fun y H2 => r x y H2 Q
noncomputable def rI (C : Int → Int → Prop) (g : Int → Int → V) : R2 := fun x y H Q => ∃ i j, x = .int i ∧ y = .int j ∧ C i j ∧ Q (g i j) H
noncomputable def rI0 (g : Int → Int → V) : R2 := fun x y H Q => ∃ i j, x = .int i ∧ y = .int j ∧ Q (g i j) H
section
variable {X : Cx} {a b c : Expr} {ta tb tc : TE} {pos : Pos}

theorem binT (ha : PE X a ta) (hb : PE X b tb) {pins : List (Addr × Obj)} {s : Shared} {σ : St} {H : Hp} {R : V → V → Hp → Prop} (I : Inv X pins σ H s)
    (h : ta σ H fun x H1 => tb σ H1 fun y H2 => R x y H2) {Q : Value → Shared → Prop} {f : Value → Value → Sem Value}
    (hf : ∀ v u s2 x y H2, Inv X pins σ H2 s2 → RelV x v → RelV y u → R x y H2 → wpAny (model X.prog X.w) X.A (f v u) Q X.xe s2) :
    wpAny (model X.prog X.w) X.A (eval a X.env) (fun v s₁ => wpAny (model X.prog X.w) X.A (eval b X.env) (fun u s₂ => wpAny (model X.prog X.w) X.A (f v u) Q X.xe s₂) X.xe s₁) X.xe s := by
  refine thn (ha pins s σ H _ I h) fun v s1 zz9 => ?_
  obtain ⟨x, H1, I1, r1, q1⟩ := zz9
  refine thn (hb pins s1 σ H1 _ I1 q1) fun u s2 zz9 => ?_
  obtain ⟨y, H2, I2, r2, q2⟩ := zz9
  exact hf v u s2 x y H2 I2 r1 r2 q2
theorem pe_op {op : Operator} {r : R2} (ho : OpR X (binaryOp op) r) (ha : PE X a ta) (hb : PE X b tb) : PE X (.BinOp a op b pos) (tOp r ta tb) := by
  intro pins s σ H Q I h
  exact wpAny_BinOp (binT ha hb I h fun v u s2 x y H2 I2 rx ry q => ho pins s2 σ H2 x y v u Q I2 rx ry q)
theorem opI {f : Value → Value → Sem Value} {C : Int → Int → Prop} {g : Int → Int → Int}
    (rule : ∀ (i j : Int) (t u : Tok) (s : Shared) (Q : Value → Shared → Prop) (E : Value → Shared → Prop), C i j → Q (.int (g i j) s.toks) { s with toks := s.toks + 1 } → wpAny (model X.prog X.w) X.A (f (.int i t) (.int j u)) Q E s) :
    OpR X f (rI C fun i j => .int (g i j)) := by
  intro pins s σ H x y v u Q I rx ry h
  obtain ⟨i, j, rfl, rfl, hc, q⟩ := h
  obtain ⟨t, rfl⟩ := rx
  obtain ⟨t', rfl⟩ := ry
  exact rule i j t t' s _ _ hc ⟨.int (g i j), H, I.tok _, ⟨_, rfl⟩, q⟩
theorem opI0 {f : Value → Value → Sem Value} {g : Int → Int → Int}
    (rule : ∀ (i j : Int) (t u : Tok) (s : Shared) (Q : Value → Shared → Prop) (E : Value → Shared → Prop), Q (.int (g i j) s.toks) { s with toks := s.toks + 1 } → wpAny (model X.prog X.w) X.A (f (.int i t) (.int j u)) Q E s) :
    OpR X f (rI0 fun i j => .int (g i j)) := by
  intro pins s σ H x y v u Q I rx ry h
  obtain ⟨i, j, rfl, rfl, q⟩ := h
  obtain ⟨t, rfl⟩ := rx
  obtain ⟨t', rfl⟩ := ry
  exact rule i j t t' s _ _ ⟨.int (g i j), H, I.tok _, ⟨_, rfl⟩, q⟩
theorem opB0 {f : Value → Value → Sem Value} {g : Int → Int → Bool}
    (rule : ∀ (i j : Int) (t u : Tok) (s : Shared) (Q : Value → Shared → Prop) (E : Value → Shared → Prop), Q (.bool (g i j)) s → wpAny (model X.prog X.w) X.A (f (.int i t) (.int j u)) Q E s) :
    OpR X f (rI0 fun i j => .bl (g i j)) := by
  intro pins s σ H x y v u Q I rx ry h
  obtain ⟨i, j, rfl, rfl, q⟩ := h
  obtain ⟨t, rfl⟩ := rx
  obtain ⟨t', rfl⟩ := ry
  exact rule i j t t' s _ _ ⟨.bl (g i j), H, I, rfl, q⟩
noncomputable def CDiv (i j : Int) : Prop := 0 < j ∧ j < 1073741824
noncomputable def CPow (i j : Int) : Prop := 0 ≤ j ∧ j ≤ 1000000 ∧ i.natAbs < 2 ^ 64
noncomputable def CMul (i j : Int) : Prop := (-(2 ^ 64) < i ∧ i < 2 ^ 64) ∨ (-(2 ^ 64) < j ∧ j < 2 ^ 64)
theorem CMul.ok {i j : Int} (h : CMul i j) : IntMulOk i j := by
  rcases h with ⟨h1, h2⟩ | ⟨h1, h2⟩
  · exact .of_left (intBits_le_64 h1 h2)
  · exact .of_right (intBits_le_64 h1 h2)
theorem op_add : OpR X (binaryOp .Add) (rI0 fun i j => .int (i + j)) := opI0 fun _ _ _ _ _ _ _ q => add_int q
theorem op_sub : OpR X (binaryOp .Sub) (rI0 fun i j => .int (i - j)) := opI0 fun _ _ _ _ _ _ _ q => sub_int q
theorem op_mul : OpR X (binaryOp .Mult) (rI CMul fun i j => .int (i * j)) := opI fun _ _ _ _ _ _ _ hc q => mul_int q hc.ok
theorem op_fdiv : OpR X (binaryOp .FloorDiv) (rI CDiv fun i j => .int (i / j)) := opI fun i j _ _ _ _ _ hc q => by
  have h1 : (0 : Int) < j := hc.1
  have h2 : j < 1073741824 := hc.2
  exact floordiv_int (by omega) (by rw [Int.fdiv_eq_ediv_of_nonneg i (by omega)]; exact q) (.inl (PyProof.noPylong_small (by omega)))
theorem op_mod : OpR X (binaryOp .Mod) (rI (fun _ j => 0 < j) fun i j => .int (i % j)) := opI fun i j _ _ _ _ _ hc q => by
  have h1 : (0 : Int) < j := hc
  exact mod_int' (by omega) (by rw [Int.fmod_eq_emod_of_nonneg i (by omega)]; exact q)
theorem op_pow : OpR X (binaryOp .Pow) (rI CPow fun i j => .int (i ^ j.toNat)) := opI fun _ _ _ _ _ _ _ hc q => pow_int_small hc.1 hc.2.1 hc.2.2 q
end

noncomputable def scal : V → V → Bool
  | .non, .non => true | .non, .int _ => true | .int _, .non => true | .non, .bl _ => true | .bl _, .non => true | .non, .str _ => true | .str _, .non => true
  | .int _, .int _ => true | .bl _, .bl _ => true | .str _, .str _ => true | .byt _, .byt _ => true
  | .int _, .str _ => true | .str _, .int _ => true | .bl _, .str _ => true | .str _, .bl _ => true
  | _, _ => false
noncomputable def rEq : R2 := fun x y H Q => scal x y = true ∧ Q (.bl (decide (x = y))) H
noncomputable def rNe : R2 := fun x y H Q => scal x y = true ∧ Q (.bl (!decide (x = y))) H
theorem dec_int {i j : Int} : decide (V.int i = V.int j) = (i == j) := by
  rw [Bool.eq_iff_iff]
  simp
theorem dec_bl {i j : Bool} : decide (V.bl i = V.bl j) = (i == j) := by
  rw [Bool.eq_iff_iff]
  simp
theorem dec_str {i j : Str} : decide (V.str i = V.str j) = (i == j) := by
  rw [Bool.eq_iff_iff]
  simp
theorem dec_byt {i j : Array UInt8} : decide (V.byt i = V.byt j) = (i.toList == j.toList) := by
  rw [Bool.eq_iff_iff]
  cases i
  cases j
  simp
section
variable {X : Cx} {a b c : Expr} {ta tb tc : TE} {pos : Pos}
theorem fin_bl {pins : List (Addr × Obj)} {σ : St} {H : Hp} {s : Shared} {Q : VK} {k k' : Bool} (I : Inv X pins σ H s) (q : Q (.bl k) H) (e : k = k') : EP X pins σ Q (.bool k') s := by
  subst e
  exact ⟨.bl k, H, I, rfl, q⟩
theorem op_eq : OpR X (compareOp .Eq) rEq := by
  intro pins s σ H x y v u Q I rx ry h
  obtain ⟨hs, q⟩ := h
  cases x with
  | non =>
    cases rx
    cases y with
    | non => cases ry; exact PySem.EqNone.eq_none_none (fin_bl I q (by simp))
    | bl j => cases ry; exact PySem.EqNone.eq_none_bool (fin_bl I q (by simp))
    | int j => obtain ⟨t', rfl⟩ := ry; exact PySem.EqNone.eq_none_int (fin_bl I q (by simp))
    | str j => obtain ⟨t', rfl⟩ := ry; exact PySem.EqNone.eq_none_str (fin_bl I q (by simp))
    | _ => exact absurd (show false = true from hs) Bool.false_ne_true
  | bl i =>
    cases rx
    cases y with
    | non => cases ry; exact PySem.EqNone.eq_bool_none (fin_bl I q (by simp))
    | bl j => cases ry; exact eq_bool (fin_bl I q dec_bl)
    | str j => obtain ⟨t', rfl⟩ := ry; exact PySem.EqMixed.eq_bool_str (fin_bl I q (by simp))
    | _ => exact absurd (show false = true from hs) Bool.false_ne_true
  | int i =>
    obtain ⟨t, rfl⟩ := rx
    cases y with
    | non => cases ry; exact PySem.EqNone.eq_int_none (fin_bl I q (by simp))
    | int j => obtain ⟨t', rfl⟩ := ry; exact eq_int (fin_bl I q dec_int)
    | str j => obtain ⟨t', rfl⟩ := ry; exact PySem.EqMixed.eq_int_str (fin_bl I q (by simp))
    | _ => exact absurd (show false = true from hs) Bool.false_ne_true
  | str i =>
    obtain ⟨t, rfl⟩ := rx
    cases y with
    | non => cases ry; exact PySem.EqNone.eq_str_none (fin_bl I q (by simp))
    | bl j => cases ry; exact PySem.EqMixed.eq_str_bool (fin_bl I q (by simp))
    | int j => obtain ⟨t', rfl⟩ := ry; exact PySem.EqMixed.eq_str_int (fin_bl I q (by simp))
    | str j => obtain ⟨t', rfl⟩ := ry; exact eq_str (fin_bl I q dec_str)
    | _ => exact absurd (show false = true from hs) Bool.false_ne_true
  | byt i =>
    obtain ⟨t, rfl⟩ := rx
    cases y with
    | byt j => obtain ⟨t', rfl⟩ := ry; exact PySem.W.eq_bytes (fin_bl I q dec_byt)
    | _ => exact absurd (show false = true from hs) Bool.false_ne_true
  | _ => cases y <;> exact absurd (show false = true from hs) Bool.false_ne_true
theorem op_ne : OpR X (compareOp .NotEq) rNe := by
  intro pins s σ H x y v u Q I rx ry h
  obtain ⟨hs, q⟩ := h
  cases x with
  | non =>
    cases rx
    cases y with
    | non => cases ry; exact PySem.EqNone.ne_none_none (fin_bl I q (by simp))
    | bl j => cases ry; exact PySem.EqNone.ne_none_bool (fin_bl I q (by simp))
    | int j => obtain ⟨t', rfl⟩ := ry; exact PySem.EqNone.ne_none_int (fin_bl I q (by simp))
    | str j => obtain ⟨t', rfl⟩ := ry; exact PySem.EqNone.ne_none_str (fin_bl I q (by simp))
    | _ => exact absurd (show false = true from hs) Bool.false_ne_true
  | bl i =>
    cases rx
    cases y with
    | non => cases ry; exact PySem.EqNone.ne_bool_none (fin_bl I q (by simp))
    | bl j => cases ry; exact ne_bool (fin_bl I q (congrArg not dec_bl))
    | str j => obtain ⟨t', rfl⟩ := ry; exact PySem.EqMixed.ne_bool_str (fin_bl I q (by simp))
    | _ => exact absurd (show false = true from hs) Bool.false_ne_true
  | int i =>
    obtain ⟨t, rfl⟩ := rx
    cases y with
    | non => cases ry; exact PySem.EqNone.ne_int_none (fin_bl I q (by simp))
    | int j => obtain ⟨t', rfl⟩ := ry; exact ne_int (fin_bl I q (congrArg not dec_int))
    | str j => obtain ⟨t', rfl⟩ := ry; exact PySem.EqMixed.ne_int_str (fin_bl I q (by simp))
    | _ => exact absurd (show false = true from hs) Bool.false_ne_true
  | str i =>
    obtain ⟨t, rfl⟩ := rx
    cases y with
    | non => cases ry; exact PySem.EqNone.ne_str_none (fin_bl I q (by simp))
    | bl j => cases ry; exact PySem.EqMixed.ne_str_bool (fin_bl I q (by simp))
    | int j => obtain ⟨t', rfl⟩ := ry; exact PySem.EqMixed.ne_str_int (fin_bl I q (by simp))
    | str j => obtain ⟨t', rfl⟩ := ry; exact ne_str (fin_bl I q (congrArg not dec_str))
    | _ => exact absurd (show false = true from hs) Bool.false_ne_true
  | byt i =>
    obtain ⟨t, rfl⟩ := rx
    cases y with
    | byt j => obtain ⟨t', rfl⟩ := ry; exact PySem.W.ne_bytes (fin_bl I q (congrArg not dec_byt))
    | _ => exact absurd (show false = true from hs) Bool.false_ne_true
  | _ => cases y <;> exact absurd (show false = true from hs) Bool.false_ne_true
theorem op_lt : OpR X (compareOp .Lt) (rI0 fun i j => .bl (decide (i < j))) := opB0 fun _ _ _ _ _ _ _ q => lt_int q
theorem op_le : OpR X (compareOp .LtE) (rI0 fun i j => .bl (decide (i ≤ j))) := opB0 fun _ _ _ _ _ _ _ q => le_int q
theorem op_gt : OpR X (compareOp .Gt) (rI0 fun i j => .bl (decide (j < i))) := opB0 fun _ _ _ _ _ _ _ q => gt_int q
theorem op_ge : OpR X (compareOp .GtE) (rI0 fun i j => .bl (decide (j ≤ i))) := opB0 fun _ _ _ _ _ _ _ q => ge_int q
theorem op_lt_str : OpR X (compareOp .Lt) (fun x y H Q => ∃ i j, x = .str i ∧ y = .str j ∧ Q (.bl (decide (i.cps.toList < j.cps.toList))) H) := by
  intro pins s σ H x y v u Q I rx ry h
  obtain ⟨i, j, rfl, rfl, q⟩ := h
  obtain ⟨t, rfl⟩ := rx
  obtain ⟨t', rfl⟩ := ry
  exact lt_str (fin_bl I q rfl)
theorem op_in_str : OpR X (compareOp .In) (fun x y H Q => ∃ i j, x = .str i ∧ y = .str j ∧ Q (.bl (!(Builtin.Str.occurrences j i 0 j.length 1).isEmpty)) H) := by
  intro pins s σ H x y v u Q I rx ry h
  obtain ⟨i, j, rfl, rfl, q⟩ := h
  obtain ⟨t, rfl⟩ := rx
  obtain ⟨t', rfl⟩ := ry
  exact in_str (fin_bl I q rfl)
theorem OpR.or {f : Value → Value → Sem Value} {r r' : R2} (h : OpR X f r) (h' : OpR X f r') : OpR X f (fun x y H Q => r x y H Q ∨ r' x y H Q) := by
  intro pins s σ H x y v u Q I rx ry q
  rcases q with q | q
  · exact h pins s σ H x y v u Q I rx ry q
  · exact h' pins s σ H x y v u Q I rx ry q
theorem nomark (b : Expr) {op : CmpOp} (h : op ≠ .In := by decide) (h2 : op ≠ .NotIn := by decide) : behindInMarks op b = false := by
  have e1 : (op == CmpOp.In) = false := by cases op <;> first | rfl | exact absurd rfl h
  have e2 : (op == CmpOp.NotIn) = false := by cases op <;> first | rfl | exact absurd rfl h2
  cases b <;> simp [behindInMarks, e1, e2]
theorem pe_cmpR {op : CmpOp} {r : R2} (ho : OpR X (compareOp op) r) (ha : PE X a ta) (hb : PE X b tb) (hm : behindInMarks op b = false) : PE X (.Compare a [op] [b] pos) (tOp r ta tb) := by
  intro pins s σ H Q I h
  exact wpAny_Compare1 (binT ha hb I h fun v u s2 x y H2 I2 rx ry q => ho pins s2 σ H2 x y v u Q I2 rx ry q) hm
noncomputable def tTest (t : TE) : TT := fun σ H Q => t σ H fun x H' => ∃ k, x = .bl k ∧ Q k H'
theorem pt_cmpR {op : CmpOp} {r : R2} (ho : OpR X (compareOp op) r) (ha : PE X a ta) (hb : PE X b tb) (hm : behindInMarks op b = false) : PT X (.Compare a [op] [b] pos) (tTest (tOp r ta tb)) := by
  intro pins s σ H Q I h
  refine wpAny_isTrue_Compare1 (thn (ha pins s σ H _ I h) fun v s1 ⟨x, H1, I1, r1, q1⟩ => thn (hb pins s1 σ H1 _ I1 q1) fun u s2 ⟨y, H2, I2, r2, q2⟩ =>
    thn (ho pins s2 σ H2 x y v u _ I2 r1 r2 q2) fun c s3 ⟨z, H3, I3, r3, k, e, q3⟩ => ?_) hm
  subst e
  cases r3
  exact wpAny_truthy_bool ⟨H3, I3, q3⟩
noncomputable def tChain (r r' : R2) (ta tb tc : TE) : TE := fun σ H Q => ta σ H fun x H1 => tb σ H1 fun y H2 => r x y H2 fun z H3 => ∃ k, z = .bl k ∧
  (if k = true then tc σ H3 fun w' H4 => r' y w' H4 Q else Q (.bl false) H3)
theorem pe_chain {op op' : CmpOp} {r r' : R2} (ho : OpR X (compareOp op) r) (ho' : OpR X (compareOp op') r') (ha : PE X a ta) (hb : PE X b tb) (hc : PE X c tc)
    (hm : lastMarks [op, op'] [b, c] = false := by with_unfolding_all rfl) : PE X (.Compare a [op, op'] [b, c] pos) (tChain r r' ta tb tc) := by
  intro pins s σ H Q I h
  refine Compare_chain (thn (ha pins s σ H _ I h) fun v s1 ⟨x, H1, I1, r1, q1⟩ => chain_link (thn (hb pins s1 σ H1 _ I1 q1) fun u s2 ⟨y, H2, I2, r2, q2⟩ =>
    thn (ho pins s2 σ H2 x y v u _ I2 r1 r2 q2) fun d s3 ⟨z, H3, I3, r3, k, e, q3⟩ => ?_)) hm
  subst e
  cases r3
  refine wpAny_truthy_bool ?_
  cases k with
  | false => exact ite_ff ⟨.bl false, H3, I3, rfl, q3⟩
  | true => exact ite_tt (chain_last (thn (hc pins s3 σ H3 _ I3 q3) fun w' s4 ⟨z', H4, I4, r4, q4⟩ => ho' pins s4 σ H4 y z' u w' Q I4 r2 r4 q4))
noncomputable def TruV (K : PySem.W.Frag) (x : V) (H : Hp) (k : Bool) : Prop :=
  match x with
  | .non => k = false
  | .bl b => k = b
  | .int i => k = (i != 0)
  | .str y => y.length ≤ sizeLine ∧ k = ((y.length : Int) != 0)
  | .byt y => y.size ≤ sizeLine ∧ k = ((y.size : Int) != 0)
  | .ref p => (∃ xs, SqL K H p xs ∧ k = !xs.isEmpty) ∨ (∃ xs, SqT K H p xs ∧ k = !xs.isEmpty) ∨ ∃ kvs, H p = some (.dK kvs) ∧ k = !kvs.isEmpty
  | _ => False
theorem isEmpty_kv {κ : Type} {kvs : List (κ × V)} {vs : List (κ × Value)} (r : KV kvs vs) : (!vs.isEmpty) = !kvs.isEmpty := by
  cases r <;> rfl
theorem isEmpty_of {xs : List V} {its : List Value} (r : Vals xs its) : (!its.toArray.isEmpty) = !xs.isEmpty := by
  cases r <;> simp
theorem line63 : (sizeLine : Nat) < 2 ^ 63 := by rw [sizeLine_eq]; decide
theorem tru_ok : TruR X (fun x H Q => ∃ k, TruV X.K x H k ∧ Q k H) := by
  intro pins s σ H x v Q I rx h
  obtain ⟨k, e, q⟩ := h
  have hl := line63
  have hs : sizeLine = 16777216 := sizeLine_eq
  cases x with
  | non =>
    cases rx
    have e' : k = false := e
    subst e'
    exact truthy_none ⟨H, I, q⟩
  | bl b =>
    cases rx
    have e' : k = b := e
    subst e'
    exact wpAny_truthy_bool ⟨H, I, q⟩
  | int i =>
    obtain ⟨t, rfl⟩ := rx
    have e' : k = (i != 0) := e
    subst e'
    exact PySem.P.truthy_int ⟨H, I, q⟩
  | str y =>
    obtain ⟨t, rfl⟩ := rx
    obtain ⟨hy, e'⟩ : y.length ≤ sizeLine ∧ k = ((y.length : Int) != 0) := e
    subst e'
    exact PySem.P.truthy_str (by omega) ⟨H, I.tok _, q⟩
  | byt y =>
    obtain ⟨t, rfl⟩ := rx
    obtain ⟨hy, e'⟩ : y.size ≤ sizeLine ∧ k = ((y.size : Int) != 0) := e
    subst e'
    exact PySem.W.truthy_bytes (by omega) ⟨H, I.tok _, q⟩
  | ref p =>
    cases rx
    have e' : (∃ xs, SqL X.K H p xs ∧ k = !xs.isEmpty) ∨ (∃ xs, SqT X.K H p xs ∧ k = !xs.isEmpty) ∨ ∃ kvs, H p = some (.dK kvs) ∧ k = !kvs.isEmpty := e
    rcases e' with ⟨xs, hx, e'⟩ | ⟨xs, hx, e'⟩ | ⟨kvs, hx, e'⟩
    · subst e'
      obtain ⟨its, r, pl, hz⟩ := I.list hx
      have hlen := r.length
      exact wpAny_truthy_list pl.isList (by simp only [List.size_toArray]; omega) ⟨H, I.tok _, by rw [isEmpty_of r]; exact q⟩
    · subst e'
      obtain ⟨its, r, pl, hz⟩ := I.tuple hx
      have hlen := r.length
      exact truthy_tuple pl (by simp only [List.size_toArray]; omega) ⟨H, I.tok _, by rw [isEmpty_of r]; exact q⟩
    · subst e'
      obtain ⟨hz, hS, vs, r, m⟩ : kvs.length ≤ sizeLine ∧ (p == sysModules) = false ∧ ∃ vs, KV kvs vs ∧ s.heap.DictOf (mixKind X.prog X.w) p vs := I.hok p _ hx
      have hlen : kvs.length = vs.length := Paired.length r
      exact wpAny_truthy_dict hS m (by omega) ⟨H, I.tok _, by rw [isEmpty_kv r]; exact q⟩
  | _ => exact (show False from e).elim
theorem pt_truth (ha : PE X a ta) (he : ∀ whole, isTrue a X.env whole = (do let v ← whole; standAt a.pos; holding [v] (truthy v))) :
    PT X a (fun σ H Q => ta σ H fun x H' => ∃ k, TruV X.K x H' k ∧ Q k H') := by
  intro pins s σ H Q I h
  exact isTrue_plain (thn (ha pins s σ H _ I h) fun v s1 ⟨x, H1, I1, r1, q1⟩ => tru_ok pins s1 σ H1 x v Q I1 r1 q1) (he _)
theorem op_add_str : OpR X (binaryOp .Add) (fun x y H Q => ∃ i j, x = .str i ∧ y = .str j ∧ i.length + j.length ≤ sizeLine ∧ Q (.str (i ++ j)) H) := by
  intro pins s σ H x y v u Q I rx ry h
  obtain ⟨i, j, rfl, rfl, hz, q⟩ := h
  obtain ⟨t, rfl⟩ := rx
  obtain ⟨t', rfl⟩ := ry
  exact add_str (fun t' tk => ⟨.str (i ++ j), H, I.tok _, ⟨_, rfl⟩, q⟩) hz
theorem vals1 {x : V} {us : List Value} (r : Vals [x] us) : ∃ u, us = [u] ∧ RelV x u := by
  cases r with
  | cons r1 r2 => cases r2; exact ⟨_, rfl, r1⟩
theorem vals2 {x y : V} {us : List Value} (r : Vals [x, y] us) : ∃ u w', us = [u, w'] ∧ RelV x u ∧ RelV y w' := by
  cases r with
  | cons r1 r2 =>
    cases r2 with
    | cons r3 r4 => cases r4; exact ⟨_, _, rfl, r1, r3⟩
theorem call_max2 (hc : X.calm = true) : CallR X (.builtin "max") (fun xs H Q => ∃ i j, xs = [.int i, .int j] ∧ Q (.int (if j > i then j else i)) H) := by
  intro pins s σ H xs us Q I r h
  obtain ⟨i, j, rfl, q⟩ := h
  obtain ⟨u, w', rfl, ⟨t, rfl⟩, ⟨t', rfl⟩⟩ := vals2 r
  refine max_two_ints (I.ok.hd hc) fun h' tk k => ⟨_, H, I.kept k, ?_, q⟩
  by_cases hj : j > i
  · rw [if_pos hj, if_pos hj]; exact ⟨_, rfl⟩
  · rw [if_neg hj, if_neg hj]; exact ⟨_, rfl⟩
theorem call_min2 (hc : X.calm = true) : CallR X (.builtin "min") (fun xs H Q => ∃ i j, xs = [.int i, .int j] ∧ Q (.int (if j < i then j else i)) H) := by
  intro pins s σ H xs us Q I r h
  obtain ⟨i, j, rfl, q⟩ := h
  obtain ⟨u, w', rfl, ⟨t, rfl⟩, ⟨t', rfl⟩⟩ := vals2 r
  refine min_two_ints (I.ok.hd hc) fun h' tk k => ⟨_, H, I.kept k, ?_, q⟩
  by_cases hj : j < i
  · rw [if_pos hj, if_pos hj]; exact ⟨_, rfl⟩
  · rw [if_neg hj, if_neg hj]; exact ⟨_, rfl⟩
theorem call_int1 : CallR X (.type "int") (fun xs H Q => (∃ i, xs = [.int i] ∧ Q (.int i) H) ∨ ∃ k, xs = [.bl k] ∧ Q (.int (if k then 1 else 0)) H) := by
  intro pins s σ H xs us Q I r h
  rcases h with ⟨i, rfl, q⟩ | ⟨k, rfl, q⟩
  · obtain ⟨u, rfl, t, rfl⟩ := vals1 r
    exact call_int_int ⟨.int i, H, I, ⟨_, rfl⟩, q⟩
  · obtain ⟨u, rfl, r1⟩ := vals1 r
    cases r1
    exact call_int_bool ⟨.int (if k then 1 else 0), H, I.tok _, ⟨_, rfl⟩, q⟩
theorem call_str_int : CallR X (.type "str") (fun xs H Q => ∃ i, xs = [.int i] ∧ i.natAbs.log2 < 1920 ∧ Q (.str (toString i)) H) := by
  intro pins s σ H xs us Q I r h
  obtain ⟨i, rfl, hz, q⟩ := h
  obtain ⟨u, rfl, t, rfl⟩ := vals1 r
  exact PySem.P.str_of_int hz ⟨.str _, H, I.tok _, ⟨_, rfl⟩, q⟩
noncomputable def LenV (K : PySem.W.Frag) (x : V) (H : Hp) (n : Nat) : Prop :=
  match x with
  | .str y => y.length ≤ sizeLine ∧ n = y.length
  | .byt y => y.size ≤ sizeLine ∧ n = y.size
  | .ref p => (∃ xs, SqL K H p xs ∧ n = xs.length) ∨ ∃ xs, SqT K H p xs ∧ n = xs.length
  | _ => False
theorem call_len : CallR X (.builtin "len") (fun xs H Q => ∃ x n, xs = [x] ∧ LenV X.K x H n ∧ Q (.int n) H) := by
  intro pins s σ H xs us Q I r h
  obtain ⟨x, n, rfl, e, q⟩ := h
  obtain ⟨u, rfl, rx⟩ := vals1 r
  have hl := line63
  have hs : sizeLine = 16777216 := sizeLine_eq
  cases x with
  | str y =>
    obtain ⟨t, rfl⟩ := rx
    obtain ⟨hy, e'⟩ : y.length ≤ sizeLine ∧ n = y.length := e
    subst e'
    exact len_str (by omega) ⟨.int _, H, I.tok _, ⟨_, rfl⟩, q⟩
  | byt y =>
    obtain ⟨t, rfl⟩ := rx
    obtain ⟨hy, e'⟩ : y.size ≤ sizeLine ∧ n = y.size := e
    subst e'
    exact PySem.W.len_bytes (by omega) ⟨.int _, H, I.tok _, ⟨_, rfl⟩, q⟩
  | ref p =>
    cases rx
    have e' : (∃ xs, SqL X.K H p xs ∧ n = xs.length) ∨ ∃ xs, SqT X.K H p xs ∧ n = xs.length := e
    rcases e' with ⟨xs, hx, e'⟩ | ⟨xs, hx, e'⟩
    · subst e'
      obtain ⟨its, r', pl, hz⟩ := I.list hx
      have hlen := r'.length
      exact Calls.call_len_list pl.isList (by simp only [List.size_toArray]; omega) ⟨.int xs.length, H, I.tok _, ⟨_, by simp only [List.size_toArray]; rw [hlen]⟩, q⟩
    · subst e'
      obtain ⟨its, r', pl, hz⟩ := I.tuple hx
      have hlen := r'.length
      exact len_tuple pl (by simp only [List.size_toArray]; omega) ⟨.int xs.length, H, I.tok _, ⟨_, by simp only [List.size_toArray]; rw [hlen]⟩, q⟩
  | _ => exact (show False from e).elim
end
end L2

namespace L2
open PySem PySem.Spec PyProof.Rows

structure ObjM (h : Heap) (x dx C : Addr) (mA : Str → Option Value) : Prop where
  obj : h.get? x = some (PySem.W.instObj C dx)
  ns : h.Ns1 dx mA
  ne : dx ≠ x
theorem lookIn_ns {h : Heap} {dx : Addr} {mA : Str → Option Value} (n : h.Ns1 dx mA) : ∃ od, h.get? dx = some od ∧ ∀ name, PySem.W.lookIn name od = some (mA name) := by
  obtain ⟨o, es, ep, ho, hd, hk, _, hm⟩ := n
  refine ⟨o, ho, fun name => ?_⟩
  have e := hm name
  unfold nsFind findBy at e
  rw [← Array.find?_toList] at e
  unfold PySem.W.lookIn
  rw [hd]
  dsimp only
  split
  · rename_i y q
    rw [q] at e
    exact congrArg some e
  · rename_i q
    rw [q] at e
    have a : es.toList.any (·.refKey) = false := by
      rw [List.any_eq_false]
      intro y hy
      obtain ⟨z, t, hkey⟩ := hk y (Array.mem_toList_iff.mp hy)
      simp [DictEntry.refKey, hkey]
    have a' : ¬ es.toList.any (·.refKey) = true := by rw [a]; exact Bool.false_ne_true
    rw [if_neg a']
    exact congrArg some e
theorem ObjM.look {h : Heap} {x dx C : Addr} {mA : Str → Option Value} (I : ObjM h x dx C mA) : ∃ od, PySem.W.InstAt h x (PySem.W.instObj C dx) C (some od) ∧ ∀ name, PySem.W.lookIn name od = some (mA name) :=
  let ⟨od, ho, hl⟩ := lookIn_ns I.ns
  ⟨od, ⟨I.obj, rfl, rfl, ho⟩, hl⟩
section
variable {prog : Program} {w : World} {A : Around} {E : Value → Shared → Prop} {s : Shared} {K : PySem.W.Frag} {x dx C f : Addr} {mA : Str → Option Value} {name : Str} {v : Value}

theorem get_map {expr : Bool} {Q : Value → Shared → Prop} (X : K.In s.heap) (I : ObjM s.heap x dx C mA) (hg : PySem.W.plainGet K C name = true) (hh : PySem.W.hasDictIn K C = true)
    (ha : PySem.W.findIn K (.ref C) name = some none) (hv : mA name = some v) (hv' : PySem.W.handedIn v = true) (h : Q v { s with toks := s.toks + 1 }) :
    wpAny (model prog w) A (getAttr (.ref x) name expr) Q E s := by
  obtain ⟨od, J, hl⟩ := I.look
  exact PySem.W.get_value X J (PySem.W.plainGet_of hg).1 (PySem.W.findObj_own hh ha rfl (by rw [hl, hv])) hv' h
theorem get_meth {pl : Sem Bool} {Q : Value × List Value → Shared → Prop} (X : K.In s.heap) (I : ObjM s.heap x dx C mA) (hg : PySem.W.plainGet K C name = true)
    (hf : PySem.W.findIn K (.ref C) name = some (some (.ref f))) (ht : PySem.W.isFn K (.ref f) = true) (hv : mA name = none) (h : Q (.ref f, [.ref x]) s) :
    wpAny (model prog w) A (getMethod (.ref x) name pl) Q E s := by
  obtain ⟨od, J, hl⟩ := I.look
  exact PySem.W.method_fn X J (PySem.W.plainGet_of hg).1 (PySem.W.plainGet_of hg).2 hf (beq_iff_eq.mp ht) (by show (PySem.W.lookIn name od).map (·.isSome) = some false; rw [hl, hv]; rfl) h
theorem set_map {ns : List Str} {Q : Unit → Shared → Prop} (X : K.In s.heap) (I : ObjM s.heap x dx C mA)
    (hs : PySem.W.findIn K (.ref C) "__setattr__" = some (some (.builtin "object.__setattr__"))) (hp : PySem.W.plainOver K C = true) (ht : PySem.W.takerIn K C name = some none) (hh : PySem.W.hasDictIn K C = true)
    (hw : PySem.Within mA ns) (hsz : ns.length ≤ sizeLine)
    (h : ∀ h', ObjM h' x dx C (fun y => if y = name then some v else mA y) → Heap.SameBut dx s.heap h' → Q () { s with heap := h', toks := s.toks + 2 }) :
    wpAny (model prog w) A (setAttr (.ref x) name v) Q E s := by
  obtain ⟨od, J, hl⟩ := I.look
  refine PySem.W.set_plain X J hs (PySem.W.osa_open (s := { s with toks := s.toks + 1 }) (r := none) X J hp ht fun b => ?_)
  obtain ⟨cd, hc, hd'⟩ := PySem.W.any_some hh
  have hx : s.heap.get? x = some ⟨.ref C, some dx, .plain, #[]⟩ := I.obj
  refine wpAny_bind (wpAny_pure (wpAny_bind (wpAny_bind (wpAny_loadPart hx (wpAny_bind (PySem.W.Looks.here (s := { s with toks := s.toks + 1 }) (PySem.W.looks_clsIn X hc) ?_))))))
  rw [hd']
  refine wpAny_pure (a := some dx) (wpAny_bind (wpAny_pure (wpAny_bind ?_)))
  refine wpAny_nsSet1 (s := { s with toks := s.toks + 1 }) I.ns fun h' hn2 hs2 => ?_
  obtain ⟨oD, esD, epD, hoD, hdD, hcD⟩ := hn2.count (PySem.Within.cons name v hw)
  refine wpAny_bind (wpAny_lookBehind hoD (by rw [hdD]; exact pastItsLine_dict (Nat.le_trans hcD (by rw [List.length_cons]; omega))) ?_)
  exact wpAny_pure (h _ ⟨(hs2.2 _ (Ne.symm I.ne)).trans I.obj, hn2, I.ne⟩ hs2)
theorem make_map {R : Result → Shared → Prop} {vs : List Value} {kw : List (Str × Value)} (X : K.In s.heap) (hm : PySem.W.makesIn K C = true)
    (hi : PySem.W.findIn K (.ref C) "__init__" = some (some (.ref f))) (hf : PySem.W.typeIn K (.ref f) = some (.type "function"))
    (h : codeAny (model prog w) (A.under (.builtin "type.__call__" ⟨.ref C :: vs, kw⟩)) (.call (.ref f) ⟨.ref (s.heap.objs.size + 1) :: vs, kw⟩) (PySem.W.InitBack (s.heap.objs.size + 1) R)
      { s with heap := (s.heap.push PySem.W.emptyDict).push (PySem.W.instObj C s.heap.objs.size) }) :
    codeAny (model prog w) A (.call (.ref C) ⟨vs, kw⟩) R s := by
  obtain ⟨hh, g, d, t, os⟩ := s
  exact PySem.W.make_core (PySem.W.makes_of X hm) (PySem.W.looks_findIn X hi) (fun self => PySem.W.bind_fn X self hf) (.inl rfl) h
end

noncomputable def putF (f : Str) (v : V) : List (Str × V) → List (Str × V)
  | [] => [(f, v)]
  | (g, x) :: r => if g = f then (g, v) :: r else (g, x) :: putF f v r
theorem lookup_putF (f g : Str) (v : V) : ∀ fs : List (Str × V), (putF f v fs).lookup g = if g = f then some v else fs.lookup g
  | [] => by
    show List.lookup g [(f, v)] = _
    by_cases h : g = f
    · have hb : (g == f) = true := beq_iff_eq.mpr h
      simp only [List.lookup, hb, if_pos h]
    · have hb : (g == f) = false := beq_eq_false_iff_ne.mpr h
      simp only [List.lookup, hb, if_neg h]
  | (k, x) :: r => by
    have ih := lookup_putF f g v r
    rw [show putF f v ((k, x) :: r) = (if k = f then (k, v) :: r else (k, x) :: putF f v r) from rfl]
    by_cases hk : k = f
    · rw [if_pos hk]
      by_cases h : g = k
      · have hb : (g == k) = true := beq_iff_eq.mpr h
        simp only [List.lookup, hb, if_pos (h.trans hk)]
      · have hb : (g == k) = false := beq_eq_false_iff_ne.mpr h
        simp only [List.lookup, hb, if_neg (fun e : g = f => h (e.trans hk.symm))]
    · rw [if_neg hk]
      by_cases h : g = k
      · have hb : (g == k) = true := beq_iff_eq.mpr h
        simp only [List.lookup, hb, if_neg (fun e : g = f => hk (h.symm.trans e))]
      · have hb : (g == k) = false := beq_eq_false_iff_ne.mpr h
        simp only [List.lookup, hb]
        exact ih
theorem keys_putF (f : Str) (v : V) : ∀ fs : List (Str × V), f ∈ (putF f v fs).map (·.1) ∧ ∀ g, g ∈ fs.map (·.1) → g ∈ (putF f v fs).map (·.1)
  | [] => ⟨by simp [putF], fun g h => by simp at h⟩
  | (k, x) :: r => by
    obtain ⟨i1, i2⟩ := keys_putF f v r
    rw [show putF f v ((k, x) :: r) = (if k = f then (k, v) :: r else (k, x) :: putF f v r) from rfl]
    by_cases hk : k = f
    · rw [if_pos hk]
      subst hk
      exact ⟨by simp, fun g h => by simpa using h⟩
    · rw [if_neg hk]
      refine ⟨?_, fun g h => ?_⟩
      · rw [List.map_cons]
        exact List.mem_cons_of_mem _ i1
      · rw [List.map_cons] at h ⊢
        rcases List.mem_cons.mp h with e | e
        · exact List.mem_cons.mpr (.inl e)
        · exact List.mem_cons_of_mem _ (i2 g e)
theorem length_putF (f : Str) (v : V) : ∀ fs : List (Str × V), (putF f v fs).length ≤ fs.length + 1
  | [] => by simp [putF]
  | (k, x) :: r => by
    have ih := length_putF f v r
    rw [show putF f v ((k, x) :: r) = (if k = f then (k, v) :: r else (k, x) :: putF f v r) from rfl]
    by_cases hk : k = f
    · rw [if_pos hk, List.length_cons, List.length_cons]; omega
    · rw [if_neg hk, List.length_cons, List.length_cons]; omega
theorem RelO.some_of {v : V} {o : Option Value} (r : RelO (some v) o) : ∃ u, o = some u ∧ RelV v u := by
  cases o with
  | none => exact (show False from r).elim
  | some u => exact ⟨u, rfl, r⟩
theorem RelO.none_of {o : Option Value} (r : RelO none o) : o = none := by
  cases o with
  | none => rfl
  | some u => exact (show False from r).elim
theorem handed_of {v : V} {u : Value} (r : RelV v u) : PySem.W.handedIn u = true := by
  cases v with
  | non => cases (show u = Value.none from r); rfl
  | bl b => cases (show u = Value.bool b from r); rfl
  | int i => obtain ⟨t, e⟩ := (show ∃ t, u = Value.int i t from r); cases e; rfl
  | str x => obtain ⟨t, e⟩ := (show ∃ t, u = Value.str x t from r); cases e; rfl
  | byt b => obtain ⟨t, e⟩ := (show ∃ t, u = Value.bytes b t from r); cases e; rfl
  | flt b => obtain ⟨t, e⟩ := (show ∃ t, u = Value.float b t from r); cases e; rfl
  | ref a => cases (show u = Value.ref a from r); rfl
  | ty n => cases (show u = Value.type n from r); rfl
section
variable {P : Program} {w : World} {H H' : Hp} {h h' : Heap} {a C dx : Addr} {fs fs' : List (Str × V)}
theorem ins_get (hok : HOk P w H h) (e : H a = some (.ins C dx fs)) : ∃ mA, ObjM h a dx C mA ∧ (∀ f, RelO (fs.lookup f) (mA f)) ∧ PySem.Within mA (fs.map (·.1)) ∧ fs.length ≤ 1000 ∧ H dx = some (.own a) := by
  obtain ⟨d, z, ne, ob, mA, n, r, q⟩ := (show ObjOk P w H h a (.ins C dx fs) from hok a _ e)
  exact ⟨mA, ⟨ob, n, ne⟩, r, q, z, d⟩
end

structure Cls (K : PySem.W.Frag) (C : Addr) : Prop where
  pg : PySem.W.plainGet K C Str.empty = true
  hd : PySem.W.hasDictIn K C = true
  po : PySem.W.plainOver K C = true
  sa : PySem.W.findIn K (.ref C) "__setattr__" = some (some (.builtin "object.__setattr__"))
theorem Cls.get {K : PySem.W.Frag} {C : Addr} (c : Cls K C) (f : Str) : PySem.W.plainGet K C f = true := c.pg
noncomputable def NoAttr (K : PySem.W.Frag) (C : Addr) (f : Str) : Prop := PySem.W.findIn K (.ref C) f = some none
theorem NoAttr.taker {K : PySem.W.Frag} {C : Addr} {f : Str} (n : NoAttr K C f) : PySem.W.takerIn K C f = some none := by
  unfold PySem.W.takerIn
  rw [show PySem.W.findIn K (.ref C) f = some none from n]
  rfl
structure Meth (K : PySem.W.Frag) (C : Addr) (m : Str) (f : Addr) : Prop where
  at_ : PySem.W.findIn K (.ref C) m = some (some (.ref f))
  fn : PySem.W.isFn K (.ref f) = true
  kp : PySem.W.keepIn K (.ref f) = true
section
variable {X : Cx} {pins : List (Addr × Obj)} {σ : St} {H : Hp} {s : Shared} {a C dx : Addr} {fs : List (Str × V)} {f : Str} {v : V} {A : Around} {E : Value → Shared → Prop}

theorem getattr_ok {b : Bool} {Q : Value → Shared → Prop} (I : Inv X pins σ H s) (e : H a = some (.ins C dx fs)) (c : Cls X.K C) (n : NoAttr X.K C f) (l : fs.lookup f = some v)
    (h : ∀ u s', Inv X pins σ H s' → RelV v u → Q u s') : wpAny (model X.prog X.w) A (getAttr (.ref a) f b) Q E s := by
  obtain ⟨mA, O, r, _, _, _⟩ := ins_get I.hok e
  obtain ⟨u, hu, ru⟩ := RelO.some_of (v := v) (o := mA f) (by rw [← l]; exact r f)
  exact get_map I.kIn O (c.get f) c.hd n hu (handed_of ru) (h u _ (I.tok _) ru)
theorem getmeth_ok {m : Str} {g : Addr} {pl : Sem Bool} {Q : Value × List Value → Shared → Prop} (I : Inv X pins σ H s) (e : H a = some (.ins C dx fs)) (c : Cls X.K C) (k : Meth X.K C m g) (l : fs.lookup m = none)
    (h : Q (.ref g, [.ref a]) s) : wpAny (model X.prog X.w) A (getMethod (.ref a) m pl) Q E s := by
  obtain ⟨mA, O, r, _, _, _⟩ := ins_get I.hok e
  have hn : mA m = none := RelO.none_of (by rw [← l]; exact r m)
  exact get_meth I.kIn O (c.get m) k.at_ k.fn hn h
theorem setattr_ok {y : V} {u : Value} {Q : Unit → Shared → Prop} (I : Inv X pins σ H s) (e : H a = some (.ins C dx fs)) (c : Cls X.K C) (n : NoAttr X.K C f) (hl : fs.length < 1000) (ry : RelV y u)
    (h : ∀ s', Inv X pins σ (upd H a (.ins C dx (putF f y fs))) s' → Q () s') : wpAny (model X.prog X.w) A (setAttr (.ref a) f u) Q E s := by
  obtain ⟨mA, O, r, wi, _, ho⟩ := ins_get I.hok e
  have hz : (fs.map (·.1)).length ≤ sizeLine := by rw [List.length_map, sizeLine_eq]; omega
  refine set_map I.kIn O c.sa c.po n.taker c.hd wi hz fun h' O' sb => h _ ?_
  have hd : ∃ o, h'.get? dx = some o := let ⟨o, _, _, e', _⟩ := O'.ns; ⟨o, e'⟩
  refine I.write (x := a) (e := dx) (by rw [e]; exact True.intro) (.inr ho) (fun b q hb z => (sb.2 b hb).trans z) hd ?_
  refine ⟨by rw [upd_ne O.ne]; exact ho, ?_, O.ne, O'.obj, _, O'.ns, fun g => ?_, fun g hg => ?_⟩
  · have := length_putF f y fs; omega
  · show RelO ((putF f y fs).lookup g) (if g = f then some u else mA g)
    rw [lookup_putF]
    by_cases q : g = f
    · rw [if_pos q, if_pos q]; exact ry
    · rw [if_neg q, if_neg q]; exact r g
  · by_cases q : g = f
    · rw [q]; exact (keys_putF f y fs).1
    · refine (keys_putF f y fs).2 g (wi g fun z => hg ?_)
      show (if g = f then some u else mA g) = none
      rw [if_neg q]; exact z
theorem Inv.made (I : Inv X pins σ H s) : Inv X pins σ (upd (upd H s.heap.objs.size (.own (s.heap.objs.size + 1))) (s.heap.objs.size + 1) (.ins C s.heap.objs.size []))
    { s with heap := (s.heap.push PySem.W.emptyDict).push (PySem.W.instObj C s.heap.objs.size) } := by
  have e1 : (s.heap.push PySem.W.emptyDict).get? s.heap.objs.size = some PySem.W.emptyDict := Heap.get?_push_size s.heap rfl
  have e2 : ((s.heap.push PySem.W.emptyDict).push (PySem.W.instObj C s.heap.objs.size)).get? (s.heap.objs.size + 1) = some (PySem.W.instObj C s.heap.objs.size) := by
    have := Heap.get?_push_size (s.heap.push PySem.W.emptyDict) (o := PySem.W.instObj C s.heap.objs.size) rfl
    rwa [Heap.size_push] at this
  have e3 : (s.heap.push PySem.W.emptyDict).Ns s.heap.objs.size (fun _ => none) := ⟨PySem.W.emptyDict, #[], _, e1, rfl, (fun e he => absurd he (by simp)), fun _ => rfl⟩
  have I1 := I.laid (a := s.heap.objs.size) (o := .own (s.heap.objs.size + 1)) (h' := s.heap.push PySem.W.emptyDict) (t' := s.toks) (fun b u q => Heap.get?_push_of_some _ q) (Nat.le_refl _) ⟨_, e1⟩
  refine I1.laid (a := s.heap.objs.size + 1) (o := .ins C s.heap.objs.size []) (t' := s.toks) (fun b u q => Heap.get?_push_of_some _ q) (Nat.le_of_eq (Heap.size_push _ _)) ?_
  have ne : s.heap.objs.size ≠ s.heap.objs.size + 1 := Nat.ne_of_lt (Nat.lt_succ_self _)
  refine ⟨by rw [upd_ne ne, upd_same], Nat.zero_le _, ne, e2, fun _ => none, (Heap.Ns1.of_empty e3).at fun o q => Heap.get?_push_of_some _ q, fun _ => True.intro, fun y hy => absurd rfl hy⟩
theorem attr_of {prog : Program} {w : World} {env : Env} {e : Expr} {f : Str} {pos : Pos} {s : Shared} {Q : Value → Shared → Prop} (hb : attributeBase e f env (eval e env) = eval e env)
    (h : wpAny (model prog w) A (eval e env) (fun o s₁ => wpAny (model prog w) A (getAttr o f true) Q E s₁) E s) : wpAny (model prog w) A (eval (.Attribute e f pos) env) Q E s :=
  Attribute_any_ h (by rw [arm_eval_Attribute, hb])
end

noncomputable def tFld (K : PySem.W.Frag) (ta : TE) (f : Str) : TE := fun σ H Q => ta σ H fun x H1 => ∃ a C dx fs v, x = .ref a ∧ H1 a = some (.ins C dx fs) ∧ Cls K C ∧ NoAttr K C f ∧ fs.lookup f = some v ∧ Q v H1
noncomputable def sFld (K : PySem.W.Frag) (ta tv : TE) (f : Str) : TS := fun D σ H => tv σ H fun y H1 => ta σ H1 fun x H2 => ∃ a C dx fs, x = .ref a ∧ H2 a = some (.ins C dx fs) ∧ Cls K C ∧ NoAttr K C f ∧ fs.length < 1000 ∧
  D.nx σ (upd H2 a (.ins C dx (putF f y fs)))
noncomputable def InOp (X : Cx) (op : Operator) (rd : V → V → Hp → VK → Prop) : Prop :=
  ∀ (pins : List (Addr × Obj)) (s : Shared) (σ : St) (H : Hp) (x y : V) (u v : Value) (Q : VK), Inv X pins σ H s → RelV x u → RelV y v → rd x y H Q → wpAny (model X.prog X.w) X.A (inplaceOp op u v) (EP X pins σ Q) X.xe s
noncomputable def sFldAug (K : PySem.W.Frag) (ta tv : TE) (rd : V → V → Hp → VK → Prop) (f : Str) : TS := fun D σ H => ta σ H fun x H1 => ∃ a C dx fs v, x = .ref a ∧ H1 a = some (.ins C dx fs) ∧ Cls K C ∧ NoAttr K C f ∧ fs.lookup f = some v ∧
  tv σ H1 fun y H2 => rd v y H2 fun z H3 => ∃ dx' fs', H3 a = some (.ins C dx' fs') ∧ fs'.length < 1000 ∧ D.nx σ (upd H3 a (.ins C dx' (putF f z fs')))
section
variable {X : Cx} {o e value : Expr} {f : Str} {pos pos' tpos : Pos} {ta tv : TE}
theorem pe_fld (he : PE X e ta) (hb : attributeBase e f X.env (eval e X.env) = eval e X.env) : PE X (.Attribute e f pos) (tFld X.K ta f) := by
  intro pins s σ H Q I h
  refine attr_of hb (thn (he pins s σ H _ I h) fun u s1 zz9 => ?_)
  obtain ⟨x, H1, I1, rx, a, C, dx, fs, v, ex, ea, c, n, l, q⟩ := zz9
  subst ex
  obtain rfl : u = Value.ref a := rx
  exact getattr_ok I1 ea c n l fun u' s2 I2 ru => ⟨v, H1, I2, ru, q⟩
theorem ps_fld (ha : PE X o ta) (hv : PE X value tv) (hs : swapsWith value (some (.Attribute o f pos')) pos.line X.env = pure false) : PS X (.Assign [.Attribute o f pos'] value pos) (sFld X.K ta tv f) := by
  intro pins s σ H D I h
  refine plainObj_wpAny_Assign_Attribute (thn (hv pins s σ H _ I h) fun u s1 ⟨y, H1, I1, ry, q⟩ => thn (ha pins s1 σ H1 _ I1 q) fun ov s2 zz9 => ?_) hs
  obtain ⟨x, H2, I2, rx, a, C, dx, fs, ex, ea, c, n, l, q2⟩ := zz9
  subst ex
  obtain rfl : ov = Value.ref a := rx
  exact setattr_ok I2 ea c n l ry fun s3 I3 => ⟨σ, _, I3, q2⟩
theorem ps_fldaug {op : Operator} {rd : V → V → Hp → VK → Prop} (ha : PE X o ta) (hv : PE X value tv) (hop : InOp X op rd) : PS X (.AugAssign (.Attribute o f tpos) op value pos) (sFldAug X.K ta tv rd f) := by
  intro pins s σ H D I h
  refine wpAny_AugAssign_AttributeAny (thn (ha pins s σ H _ I h) fun ov s1 zz9 => ?_)
  obtain ⟨x, H1, I1, rx, a, C, dx, fs, v, ex, ea, c, n, l, q⟩ := zz9
  subst ex
  obtain rfl : ov = Value.ref a := rx
  refine getattr_ok I1 ea c n l fun u s2 I2 ru => thn (hv pins s2 σ H1 _ I2 q) fun w3 s3 ⟨y, H2, I3, ry, q3⟩ => thn (hop pins s3 σ H2 v y u w3 _ I3 ru ry q3) fun w4 s4 zz9 => ?_
  obtain ⟨z, H3, I4, rz, dx', fs', ea', l', q4⟩ := zz9
  exact setattr_ok I4 ea' c n l' rz fun s5 I5 => ⟨σ, _, I5, q4⟩
noncomputable def rAdd : V → V → Hp → VK → Prop := fun x y H Q => ∃ i j, x = .int i ∧ y = .int j ∧ Q (.int (i + j)) H
theorem in_add : InOp X .Add rAdd := by
  rintro pins s σ H x y u v Q I rx ry ⟨i, j, rfl, rfl, q⟩
  obtain ⟨t, rfl⟩ := (show ∃ t, u = Value.int i t from rx)
  obtain ⟨t', rfl⟩ := (show ∃ t', v = Value.int j t' from ry)
  exact PyProof.Rows.iadd_int ⟨.int (i + j), H, I.tok _, ⟨_, rfl⟩, q⟩
end

section
variable {X : Cx} {pins : List (Addr × Obj)} {σ : St} {H : Hp} {s : Shared} {A : Around} {E : Value → Shared → Prop} {Q : Value → Shared → Prop} {c : Value} {b : Bool}
inductive TyOf (K : PySem.W.Frag) (H : Hp) : V → Value → Prop where
  | non : TyOf K H .non (.type "NoneType")
  | bl (x : Bool) : TyOf K H (.bl x) (.type "bool")
  | int (i : Int) : TyOf K H (.int i) (.type "int")
  | str (x : Str) : TyOf K H (.str x) (.type "str")
  | flt (x : UInt64) : TyOf K H (.flt x) (.type "float")
  | lst {a : Addr} {xs : List V} (e : H a = some (.lst xs)) : TyOf K H (.ref a) (.type "list")
  | frz {a : Addr} {o : Obj} {xs : List V} (e : H a = some (.frz o (.lst xs))) : TyOf K H (.ref a) (.type "list")
  | tup {a : Addr} {xs : List V} (e : H a = some (.tup xs)) : TyOf K H (.ref a) (.type "tuple")
  | dK {a : Addr} {kvs : List (Key × V)} (e : H a = some (.dK kvs)) : TyOf K H (.ref a) (.type "dict")
  | dT {a : Addr} {kvs : List (List Key × V)} (e : H a = some (.dT kvs)) : TyOf K H (.ref a) (.type "dict")
  | ins {a C dx : Addr} {fs : List (Str × V)} (e : H a = some (.ins C dx fs)) (cl : Cls K C) (ha : PySem.W.findIn K (.ref C) "__class__" = some (some (.builtin "object.__class__")))
      (hn : PySem.W.specialIn K (.builtin "object.__class__") "__get__" = some (some (.builtin "getset_descriptor.__get__"))) (htk : PySem.W.takesIn K (.builtin "object.__class__") = some true)
      (hm : PySem.W.mroIn K C (.type "object") = some true) : TyOf K H (.ref a) (.ref C)
theorem isinst_ok {x : V} {u t : Value} (I : Inv X pins σ H s) (rx : RelV x u) (ty : TyOf X.K H x t) (e : PySem.W.kitOne X.K t c = some b) (h : ∀ tk, Q (.bool b) { s with toks := tk }) :
    wpAny (model X.prog X.w) A (call (.builtin "isinstance") [u, c]) Q E s := by
  cases ty with
  | non => cases (show u = Value.none from rx); exact PySem.W.kia_one PySem.W.kitx_none I.kIn True.intro e (fun z => nomatch z) h
  | bl y => cases (show u = Value.bool y from rx); exact PySem.W.kia_one PySem.W.kitx_bool I.kIn True.intro e (fun z => nomatch z) h
  | int i => obtain ⟨t, q⟩ := (show ∃ t, u = Value.int i t from rx); cases q; exact PySem.W.kia_one PySem.W.kitx_int I.kIn True.intro e (fun z => nomatch z) h
  | str y => obtain ⟨t, q⟩ := (show ∃ t, u = Value.str y t from rx); cases q; exact PySem.W.kia_one PySem.W.kitx_str I.kIn True.intro e (fun z => nomatch z) h
  | flt y => obtain ⟨t, q⟩ := (show ∃ t, u = Value.float y t from rx); cases q; exact PySem.W.kia_one PySem.W.kitx_float I.kIn True.intro e (fun z => nomatch z) h
  | @lst a xs ea =>
    cases (show u = Value.ref a from rx)
    obtain ⟨_, _, n, _, h1⟩ := (show ObjOk X.prog X.w H s.heap a (.lst xs) from I.hok a _ ea)
    exact PySem.W.kia_one PySem.W.kitx_list I.kIn ⟨_, h1, rfl⟩ e (fun z => nomatch z) h
  | @frz a ob xs ea =>
    cases (show u = Value.ref a from rx)
    obtain ⟨_, _, _, n, _, h1⟩ := (show ObjOk X.prog X.w H s.heap a (.frz ob (.lst xs)) from I.hok a _ ea)
    exact PySem.W.kia_one PySem.W.kitx_list I.kIn ⟨_, h1, rfl⟩ e (fun z => nomatch z) h
  | @tup a xs ea =>
    cases (show u = Value.ref a from rx)
    obtain ⟨_, _, _, p⟩ := (show ObjOk X.prog X.w H s.heap a (.tup xs) from I.hok a _ ea)
    obtain ⟨o, h1, h2, _⟩ := p
    exact PySem.W.kia_one PySem.W.kitx_tuple I.kIn ⟨o, h1, h2⟩ e (fun z => nomatch z) h
  | @dK a kvs ea =>
    cases (show u = Value.ref a from rx)
    obtain ⟨_, _, vs, _, p⟩ := (show ObjOk X.prog X.w H s.heap a (.dK kvs) from I.hok a _ ea)
    obtain ⟨o, es, ep, h1, h2, _⟩ := p
    exact PySem.W.kia_one PySem.W.kitx_dict I.kIn ⟨o, h1, h2.1⟩ e (fun z => nomatch z) h
  | @dT a kvs ea =>
    cases (show u = Value.ref a from rx)
    obtain ⟨_, _, xs, _, o, es, ep, h1, h2, _⟩ := (show ObjOk X.prog X.w H s.heap a (.dT kvs) from I.hok a _ ea)
    exact PySem.W.kia_one PySem.W.kitx_dict I.kIn ⟨o, h1, h2.1⟩ e (fun z => nomatch z) h
  | @ins a C dx fs ea cl ha hn htk hm =>
    cases (show u = Value.ref a from rx)
    obtain ⟨mA, O, _⟩ := ins_get I.hok ea
    obtain ⟨od, J, _⟩ := O.look
    exact PySem.W.kia_one (PySem.W.kitx_own (cl.get _) cl.hd ha hn htk hm) I.kIn J e (fun z => nomatch z) h
end
end L2

namespace L2
open PySem PySem.Spec PyProof.Rows

structure Room (k : Nat) (A : Around) : Prop where
  hd : A.handled = none
  dp : A.depth + 3 * k + 5 < recursionLimit
  un : A.units + 16 * k + 200 < cLine
theorem Room.mono {j k : Nat} {A : Around} (r : Room k A) (h : j ≤ k) : Room j A := ⟨r.hd, by have := r.dp; omega, by have := r.un; omega⟩
theorem Room.deeper {k : Nat} {A : Around} (r : Room (k + 1) A) (env : Env) : Room k (A.deeper env) :=
  ⟨r.hd, by have := r.dp; show A.depth + 1 + 3 * k + 5 < _; omega, by have := r.un; show A.units + 3 + 16 * k + 200 < _; omega⟩
theorem Room.in1 {k : Nat} {A : Around} (r : Room (k + 1) A) : Room k A.in1 :=
  ⟨r.hd, by have := r.dp; show A.depth + 3 * k + 5 < _; omega, by have := r.un; show A.units + 1 + 16 * k + 200 < _; omega⟩
theorem make_depth {A : Around} {C : Addr} {us : List Value} {kw : List (Str × Value)} : (A.under (.builtin "type.__call__" ⟨.ref C :: us, kw⟩)).depth = A.depth + 1 := by
  first | rfl | simp [Around.under, Code.weight, Code.isCreation, Code.isGuard, Code.isCaller, Code.frames, Code.isFrame, guardIds]
theorem make_units {A : Around} {C : Addr} {us : List Value} {kw : List (Str × Value)} : (A.under (.builtin "type.__call__" ⟨.ref C :: us, kw⟩)).units = A.units + 1 := by
  first | rfl | simp [Around.under, Code.cUnits, Code.frames, Code.isFrame]
theorem Room.make {k : Nat} {A : Around} (r : Room (k + 1) A) (C : Addr) (us : List Value) (kw : List (Str × Value)) : Room k (A.under (.builtin "type.__call__" ⟨.ref C :: us, kw⟩)) :=
  ⟨r.hd, by have := r.dp; rw [make_depth]; omega, by have := r.un; rw [make_units]; omega⟩
theorem Room.depth {k : Nat} {A : Around} (r : Room k A) : A.depth < recursionLimit := by have := r.dp; omega
theorem Room.units {k : Nat} {A : Around} (r : Room k A) : A.units + 64 < cLine := by have := r.un; omega
noncomputable def tNil : TA := fun _ H Q => Q [] H
noncomputable def tCons (ta : TE) (tr : TA) : TA := fun σ H Q => ta σ H fun x H1 => tr σ H1 fun xs H2 => Q (x :: xs) H2
section
variable {X : Cx} {e : Expr} {es : List Expr} {te : TE} {t : TA} {pos : Pos}
theorem pa_nil : PA X [] tNil := fun _ _ _ _ H Q I h => Calls.spliced_nil ⟨[], H, I, .nil, h⟩
theorem pa_cons (ha : PE X e te) (hr : PA X es t) (hs : starEach (e :: es) X.env = (false, eval e X.env) :: starEach es X.env := by rfl) : PA X (e :: es) (tCons te t) := by
  intro pos pins s σ H Q I h
  rw [hs]
  show wpAny _ _ (spliced ((false, eval e X.env) :: backTo pos (starEach es X.env))) _ _ s
  refine Calls.spliced_cons (thn (ha pins s σ H _ I h) fun u s1 zz9 => ?_)
  obtain ⟨x, H1, I1, r1, q1⟩ := zz9
  exact thn (hr pos pins s1 σ H1 _ I1 q1) fun us s2 ⟨xs, H2, I2, r2, q2⟩ => ⟨x :: xs, H2, I2, .cons r1 r2, q2⟩
noncomputable def tTup (t : TA) : TE := fun σ H Q => t σ H fun xs H1 => xs.length ≤ sizeLine ∧ ∀ p, H1 p = none → Q (.ref p) (upd H1 p (.tup xs))
noncomputable def tLst (t : TA) : TE := fun σ H Q => t σ H fun xs H1 => xs.length ≤ sizeLine ∧ ∀ p, H1 p = none → Q (.ref p) (upd H1 p (.lst xs))
theorem pe_tup {x1} (h : PA X es t) : PE X (.Tuple es x1 pos) (tTup t) := by
  intro pins s σ H Q I hq
  refine wpAny_Tuple_spliced (thn (h pos pins s σ H _ I hq) fun us s1 ⟨xs, H1, I1, r, z, q⟩ => ⟨by rw [← r.length]; exact z, ?_⟩)
  have hf : H1 s1.heap.objs.size = none := I1.hok.fresh (Nat.le_refl _)
  refine ⟨.ref s1.heap.objs.size, upd H1 s1.heap.objs.size (.tup xs), I1.laid (t' := s1.toks) (fun b u e => Heap.get?_push_of_some _ e) (Nat.le_refl _) ?_, rfl, q _ hf⟩
  exact ⟨z, us, r, ⟨_, Heap.get?_push_size _ rfl, rfl, _, rfl⟩⟩
theorem pe_lst (h : PA X es t) : PE X (.List es pos) (tLst t) := by
  intro pins s σ H Q I hq
  refine wpAny_List_spliced (thn (h pos pins s σ H _ I hq) fun us s1 ⟨xs, H1, I1, r, z, q⟩ => ⟨by rw [← r.length]; exact z, ?_⟩)
  have hf : H1 s1.heap.objs.size = none := I1.hok.fresh (Nat.le_refl _)
  refine ⟨.ref s1.heap.objs.size, upd H1 s1.heap.objs.size (.lst xs), I1.laid (t' := s1.toks) (fun b u e => Heap.get?_push_of_some _ e) (Nat.le_refl _) ?_, rfl, q _ hf⟩
  exact ⟨z, us, 0, r, Heap.get?_push_size _ rfl⟩
end

noncomputable abbrev Sp := List V → Hp → VK → XK → Prop
noncomputable abbrev CXT := List Env → Hp → Shared → XK → Value → Shared → Prop
structure Env0 (P : Program) (w : World) (K : PySem.W.Frag) (mg : Str → Option Value) (base : Heap) (A : Around) (outer : List Env) (s : Shared) (H : Hp) : Prop where
  frames : A.frames = some outer
  mod : Mod K mg base
  bs : ∀ b o, base.get? b = some o → s.heap.get? b = some o ∧ H b = none
  bsz : base.objs.size ≤ s.heap.objs.size
  funs : s.heap.FunFrames base outer
  frf : ∀ b ∈ frs outer, H b = none
  hok : HOk P w H s.heap
  bare : AllBare s.gens
noncomputable def CE (outer : List Env) (P : Program) (w : World) (H : Hp) (s : Shared) (Q : VK) (u : Value) (s' : Shared) : Prop :=
  ∃ v H', s'.os = s.os ∧ AllBare s'.gens ∧ Un (frs outer) [] H H' s.heap s'.heap ∧ HOk P w H' s'.heap ∧ RelV v u ∧ Q v H'
noncomputable def CR (CX : CXT) (outer : List Env) (P : Program) (w : World) (H : Hp) (s : Shared) (Q : VK) (E : XK) (r : Result) (s' : Shared) : Prop :=
  match r with
  | .ok (.ret u) => CE outer P w H s Q u s'
  | .ok _ => False
  | .error e => CX outer H s E e s'
structure FnOk (P : Program) (w : World) (K : PySem.W.Frag) (mg : Str → Option Value) (base : Heap) (CX : CXT) (k : Nat) (f : Addr) (fd : FuncData) (ps : List Str) (sp : Sp) : Prop where
  len : ∀ vs H Q E, sp vs H Q E → vs.length = ps.length
  run : ∀ (A : Around) (outer : List Env) (s : Shared) (H : Hp) (args : Args) (us : List Value) (vs : List V) (Q : VK) (E : XK), Room k A → Env0 P w K mg base A outer s H → BindsTo s fd args (ps.zip us) → Vals vs us → sp vs H Q E →
    codeAny (model P w) A (.call (.ref f) args) (CR CX outer P w H s Q E) s
theorem FnOk.mono {P : Program} {w : World} {K : PySem.W.Frag} {mg : Str → Option Value} {base : Heap} {CX : CXT} {j k : Nat} {f : Addr} {fd : FuncData} {ps : List Str} {sp : Sp} (F : FnOk P w K mg base CX j f fd ps sp) (h : j ≤ k) :
    FnOk P w K mg base CX k f fd ps sp := ⟨F.len, fun A outer s H args us vs Q E hr => F.run A outer s H args us vs Q E (hr.mono h)⟩
theorem FnOk.imp {P : Program} {w : World} {K : PySem.W.Frag} {mg : Str → Option Value} {base : Heap} {CX : CXT} {k : Nat} {f : Addr} {fd : FuncData} {ps : List Str} {sp sp' : Sp} (F : FnOk P w K mg base CX k f fd ps sp)
    (h : ∀ vs H Q E, sp' vs H Q E → sp vs H Q E) : FnOk P w K mg base CX k f fd ps sp' :=
  ⟨fun vs H Q E q => F.len vs H Q E (h _ _ _ _ q), fun A outer s H args us vs Q E hr he hb hv hs => F.run A outer s H args us vs Q E hr he hb hv (h _ _ _ _ hs)⟩
theorem Env0.make {P : Program} {w : World} {K : PySem.W.Frag} {mg : Str → Option Value} {base : Heap} {A : Around} {outer : List Env} {s : Shared} {H : Hp} (e : Env0 P w K mg base A outer s H) (C : Addr) (us : List Value) (kw : List (Str × Value)) :
    Env0 P w K mg base (A.under (.builtin "type.__call__" ⟨.ref C :: us, kw⟩)) outer s H := ⟨by first | exact e.frames | (simpa [Around.under, Code.envs, Code.isFrame, pushEnvs] using e.frames), e.mod, e.bs, e.bsz, e.funs, e.frf, e.hok, e.bare⟩
theorem Env0.in1 {P : Program} {w : World} {K : PySem.W.Frag} {mg : Str → Option Value} {base : Heap} {A : Around} {outer : List Env} {s : Shared} {H : Hp} (e : Env0 P w K mg base A outer s H) :
    Env0 P w K mg base A.in1 outer s H := ⟨e.frames, e.mod, e.bs, e.bsz, e.funs, e.frf, e.hok, e.bare⟩
section
variable {X : Cx} {pins : List (Addr × Obj)} {σ : St} {H : Hp} {s s' : Shared}
theorem Inv.env0 (I : Inv X pins σ H s) : Env0 X.prog X.w X.K X.mg X.base X.A X.stack s H :=
  ⟨I.ok.frames, I.ok.mod, I.bs, Nat.le_trans I.ok.bsz I.sz, I.stack, I.stkFree, I.hok, I.bare⟩
theorem Inv.after {Q : VK} {u : Value} (I : Inv X pins σ H s) (h : CE X.stack X.prog X.w H s Q u s') : EP X pins σ Q u s' := by
  obtain ⟨v, H', os, bare, un, hok, r, q⟩ := h
  obtain ⟨hh, g, d, t, os'⟩ := s'
  obtain rfl : os' = s.os := os
  exact ⟨v, H', I.call (h' := hh) (g' := g) (d' := d) (t' := t) (ch := []) un hok bare (fun b z => absurd z (by simp)), r, q⟩
end

noncomputable def tCall (sp : Sp) (dvs : List V) (E : XK) (t : TA) : TE := fun σ H Q => t σ H fun vs H1 => sp (vs ++ dvs) H1 Q E
noncomputable def tMeth (C : Addr) (m : Str) (sp : Sp) (dvs : List V) (E : XK) (ta : TE) (t : TA) : TE := fun σ H Q => ta σ H fun x H1 => ∃ a dx fs, x = .ref a ∧ H1 a = some (.ins C dx fs) ∧ fs.lookup m = none ∧
  t σ H1 fun vs H2 => sp (x :: (vs ++ dvs)) H2 Q E
noncomputable def tMake (C : Addr) (sp : Sp) (dvs : List V) (E : XK) (t : TA) : TE := fun σ H Q => t σ H fun vs H1 => ∀ x dx, H1 x = none → H1 dx = none → dx ≠ x →
  sp (.ref x :: (vs ++ dvs)) (upd (upd H1 dx (.own x)) x (.ins C dx [])) (fun v H2 => v = .non ∧ Q (.ref x) H2) E
noncomputable def Binds (K : PySem.W.Frag) (fd : FuncData) (ps : List Str) (ds : List Value) : Prop :=
  ∀ (s : Shared) (us : List Value), K.In s.heap → (us ++ ds).length = ps.length → BindsTo s fd ⟨us, []⟩ (ps.zip (us ++ ds))
theorem Binds.all {K : PySem.W.Frag} {fd : FuncData} {ps : List Str} (h : ∀ us : List Value, us.length = ps.length → bindArgs fd ⟨us, []⟩ = pure (ps.zip us)) : Binds K fd ps [] := fun s us _ hl => by
  rw [List.append_nil] at hl ⊢
  exact .of_eq (h us hl)
noncomputable def Passes (CX : CXT) (X : Cx) (E : XK) : Prop := ∀ (pins : List (Addr × Obj)) (σ : St) (H : Hp) (s : Shared) (e : Value) (s' : Shared), Inv X pins σ H s → CX X.stack H s E e s' → X.xe e s'
section
variable {X : Cx} {CX : CXT} {k : Nat} {f C : Addr} {fd : FuncData} {ps : List Str} {sp : Sp} {dvs : List V} {ds : List Value} {E : XK} {x m : Str} {p pos apos : Pos} {e o : Expr} {es : List Expr} {ta : TE} {t : TA}

theorem run_fn {pins : List (Addr × Obj)} {σ : St} {H : Hp} {s : Shared} {Q : VK} {us : List Value} {vs : List V} (F : FnOk X.prog X.w X.K X.mg X.base CX k f fd ps sp) (hr : Room k X.A) (hb : Binds X.K fd ps ds) (hd : Vals dvs ds) (hx : Passes CX X E)
    (I : Inv X pins σ H s) (r : Vals vs us) (h : sp (vs ++ dvs) H Q E) : wpAny (model X.prog X.w) X.A (call (.ref f) us) (EP X pins σ Q) X.xe s := by
  have r2 : Vals (vs ++ dvs) (us ++ ds) := r.append hd
  have hl : (us ++ ds).length = ps.length := by rw [← r2.length]; exact F.len _ _ _ _ h
  refine wpAny_call (codeAny_mono (F.run X.A X.stack s H ⟨us, []⟩ (us ++ ds) (vs ++ dvs) Q E hr I.env0 (hb s us I.kIn hl) r2 h) fun r s' hq => ?_)
  cases r with
  | error e => exact hx pins σ H s e s' I hq
  | ok fl =>
    cases fl with
    | ret u => exact I.after hq
    | next => exact False.elim hq
    | brk => exact False.elim hq
    | cont => exact False.elim hq
theorem pe_call (F : FnOk X.prog X.w X.K X.mg X.base CX k f fd ps sp) (hr : Room k X.A) (hg : Gl X x) (hm : X.mg x = some (.ref f)) (hk : PySem.W.keepIn X.K (.ref f) = true) (hb : Binds X.K fd ps ds) (hd : Vals dvs ds) (hx : Passes CX X E)
    (ha : PA X (e :: es) t) (hdb : (x == ("__debug__" : Str)) = false := by decide) (he : starEach (e :: es) X.env = (false, eval e X.env) :: starEach es X.env := by rfl) (hpl : (backTo pos (starEach es X.env)).any (·.1) = false := by rfl) :
    PE X (.Call (.Name x p) (e :: es) [] pos) (tCall sp dvs E t) := by
  intro pins s σ H Q I h
  refine wpAny_Call_Name_kw (ld_glob I hg hm ?_ hdb)
  refine PySem.W.callWith_K (h₀ := X.base) I.ok.mod.kin hk (thn (ha pos pins s σ H _ I h) fun us s1 ⟨vs, H1, I1, r, q⟩ => ⟨I1.kIn, ?_⟩) he hpl
  exact run_fn F hr hb hd hx I1 r q
theorem pe_meth {pl : Sem Bool} (he : PE X o ta) (c : Cls X.K C) (hm : Meth X.K C m f) (F : FnOk X.prog X.w X.K X.mg X.base CX k f fd ps sp) (hr : Room k X.A) (hb : Binds X.K fd ps ds) (hd : Vals dvs ds) (hx : Passes CX X E) (ha : PA X (e :: es) t)
    (hst : starEach (e :: es) X.env = (false, eval e X.env) :: starEach es X.env := by rfl) (hpl : (backTo pos (starEach es X.env)).any (·.1) = false := by rfl)
    (ht : eval (.Call (.Attribute o m apos) (e :: es) [] pos) X.env = (do
      let ov ← eval o X.env
      standAt apos.atName
      let (f, first) ← holding [ov] (getMethod ov m pl)
      callWith pos f first (backTo pos (starEach (e :: es) X.env)) (backToKw pos (keywordEach [] X.env))) := by rfl) :
    PE X (.Call (.Attribute o m apos) (e :: es) [] pos) (tMeth C m sp dvs E ta t) := by
  intro pins s σ H Q I h
  refine PySem.W.methodCall_KW (pl := pl) (thn (he pins s σ H _ I h) fun u s1 zz9 => ?_) ht
  obtain ⟨x, H1, I1, rx, a, dx, fs, ex, ea, l, q⟩ := zz9
  subst ex
  obtain rfl : u = Value.ref a := rx
  refine getmeth_ok I1 ea c hm l ?_
  refine PySem.W.callWith_K (first := [.ref a]) (h₀ := X.base) I.ok.mod.kin hm.kp (thn (ha pos pins s1 σ H1 _ I1 q) fun us s2 ⟨vs, H2, I2, r, q2⟩ => ⟨I2.kIn, ?_⟩) hst hpl
  exact run_fn (us := .ref a :: us) (vs := .ref a :: vs) F hr hb hd hx I2 (.cons rfl r) q2
structure Mk (K : PySem.W.Frag) (C f : Addr) : Prop where
  makes : PySem.W.makesIn K C = true
  init : PySem.W.findIn K (.ref C) "__init__" = some (some (.ref f))
  fn : PySem.W.isFn K (.ref f) = true
  kp : PySem.W.keepIn K (.ref C) = true
theorem run_make {pins : List (Addr × Obj)} {σ : St} {H : Hp} {s : Shared} {Q : VK} {us : List Value} {vs : List V} (M : Mk X.K C f) (F : FnOk X.prog X.w X.K X.mg X.base CX k f fd ps sp) (hr : Room (k + 1) X.A) (hb : Binds X.K fd ps ds) (hd : Vals dvs ds)
    (hx : Passes CX X E) (I : Inv X pins σ H s) (r : Vals vs us)
    (h : ∀ x dx, H x = none → H dx = none → dx ≠ x → sp (.ref x :: (vs ++ dvs)) (upd (upd H dx (.own x)) x (.ins C dx [])) (fun v H2 => v = .non ∧ Q (.ref x) H2) E) :
    wpAny (model X.prog X.w) X.A (call (.ref C) us) (EP X pins σ Q) X.xe s := by
  have hq := h (s.heap.objs.size + 1) s.heap.objs.size (I.hok.fresh (Nat.le_succ _)) (I.hok.fresh (Nat.le_refl _)) (Nat.ne_of_lt (Nat.lt_succ_self _))
  have I2 := Inv.made (C := C) I
  have r2 : Vals (V.ref (s.heap.objs.size + 1) :: (vs ++ dvs)) (Value.ref (s.heap.objs.size + 1) :: (us ++ ds)) := .cons rfl (r.append hd)
  have hl : (Value.ref (s.heap.objs.size + 1) :: us ++ ds).length = ps.length := by
    have e := r2.length
    rw [F.len _ _ _ _ hq] at e
    exact e.symm
  refine wpAny_call (make_map (f := f) I.kIn M.makes M.init (beq_iff_eq.mp M.fn) (codeAny_mono (F.run _ X.stack _ _ ⟨Value.ref (s.heap.objs.size + 1) :: us, []⟩ (Value.ref (s.heap.objs.size + 1) :: (us ++ ds)) _ _ E (hr.make C us [])
    (I2.env0.make C us []) (hb _ (Value.ref (s.heap.objs.size + 1) :: us) I2.kIn hl) r2 hq) fun r s' hq' => ?_))
  cases r with
  | error e => exact hx pins σ _ _ e s' I2 hq'
  | ok fl =>
    cases fl with
    | ret u =>
      obtain ⟨v, H', I3, rv, ev, q3⟩ := I2.after hq'
      subst ev
      exact ⟨rv, ⟨V.ref (s.heap.objs.size + 1), H', I3, rfl, q3⟩⟩
    | next => exact False.elim hq'
    | brk => exact False.elim hq'
    | cont => exact False.elim hq'
theorem pe_make (M : Mk X.K C f) (F : FnOk X.prog X.w X.K X.mg X.base CX k f fd ps sp) (hr : Room (k + 1) X.A) (hg : Gl X x) (hm : X.mg x = some (.ref C)) (hb : Binds X.K fd ps ds) (hd : Vals dvs ds) (hx : Passes CX X E)
    (ha : PA X (e :: es) t) (hdb : (x == ("__debug__" : Str)) = false := by decide) (he : starEach (e :: es) X.env = (false, eval e X.env) :: starEach es X.env := by rfl) (hpl : (backTo pos (starEach es X.env)).any (·.1) = false := by rfl) :
    PE X (.Call (.Name x p) (e :: es) [] pos) (tMake C sp dvs E t) := by
  intro pins s σ H Q I h
  refine wpAny_Call_Name_kw (ld_glob I hg hm ?_ hdb)
  refine PySem.W.callWith_K (h₀ := X.base) I.ok.mod.kin M.kp (thn (ha pos pins s σ H _ I h) fun us s1 ⟨vs, H1, I1, r, q⟩ => ⟨I1.kIn, ?_⟩) he hpl
  exact run_make M F hr hb hd hx I1 r q
theorem pe_make0 (M : Mk X.K C f) (F : FnOk X.prog X.w X.K X.mg X.base CX k f fd ps sp) (hr : Room (k + 1) X.A) (hg : Gl X x) (hm : X.mg x = some (.ref C)) (hb : Binds X.K fd ps ds) (hd : Vals dvs ds) (hx : Passes CX X E)
    (hdb : (x == ("__debug__" : Str)) = false := by decide) : PE X (.Call (.Name x p) [] [] pos) (tMake C sp dvs E tNil) := by
  intro pins s σ H Q I h
  refine wpAny_Call_Name_kw (ld_glob I hg hm ?_ hdb)
  exact PySem.W.callWith_K0 I.kIn M.kp (run_make (us := []) M F hr hb hd hx I .nil h)
end

section
variable {X : Cx} {CX : CXT} {k : Nat} {f C : Addr} {fd : FuncData} {ps ks : List Str} {sp : Sp} {E : XK} {x m : Str} {p pos apos kpos : Pos} {e o : Expr} {es : List Expr} {kws : List Keyword} {te ta : TE} {t tk : TA} {nm : Option Str}
variable {g : List Value → List Value → List Value} {gV : List V → List V → List V}
end

structure FnScope (N P : List Str) (sc : Scope) : Prop where
  kind : sc.kind = .function
  co : sc.isCoroutine = false
  gen : sc.isGenerator = false
  nd : N.Nodup
  pre : N.take P.length = P
  par : ∀ x ∈ P, sc.names.lookup x = some .local ∨ sc.names.lookup x = some .cell
  nofree : ∀ y ∈ sc.names, y.2 ≠ .free
theorem bindL_out {kindOf : Str → Option NameKind} {x : Str} : ∀ {binds : List (Str × Value)} {m : Str → Option Value}, (∀ v, (x, v) ∉ binds) → bindL kindOf binds m x = m x
  | [], _, _ => rfl
  | (n, v) :: r, m, h => by
    unfold bindL
    rw [bindL_out fun w hw => h w (List.mem_cons_of_mem _ hw)]
    split
    · have : x ≠ n := by rintro rfl; exact h v List.mem_cons_self
      simp [this]
    · rfl
theorem bindC_out {kindOf : Str → Option NameKind} {x : Str} : ∀ {binds : List (Str × Value)} {m : Str → Option Value}, (∀ v, (x, v) ∉ binds) → bindC kindOf binds m x = m x
  | [], _, _ => rfl
  | (n, v) :: r, m, h => by
    unfold bindC
    rw [bindC_out fun w hw => h w (List.mem_cons_of_mem _ hw)]
    split
    · rfl
    · have : x ≠ n := by rintro rfl; exact h v List.mem_cons_self
      simp [this]
theorem bindL_get {kindOf : Str → Option NameKind} {x : Str} {v : Value} : ∀ {P : List Str} {vs : List Value} {i : Nat} {m : Str → Option Value}, P.Nodup → P[i]? = some x → vs[i]? = some v → kindOf x = some .local →
    bindL kindOf (P.zip vs) m x = some v
  | [], _, _, _, _, h, _, _ => by simp at h
  | _ :: _, [], _, _, _, _, h, _ => by simp at h
  | p :: P, w :: vs, 0, m, nd, h1, h2, hk => by
    simp at h1 h2; subst h1; subst h2
    show bindL kindOf ((p, w) :: P.zip vs) m p = _
    unfold bindL
    rw [bindL_out fun v hv => (List.nodup_cons.mp nd).1 (List.of_mem_zip hv).1, if_pos hk]
    simp
  | p :: P, w :: vs, i + 1, m, nd, h1, h2, hk => by
    show bindL kindOf ((p, w) :: P.zip vs) m x = _
    unfold bindL
    exact bindL_get (i := i) (List.nodup_cons.mp nd).2 (by simpa using h1) (by simpa using h2) hk
theorem bindC_get {kindOf : Str → Option NameKind} {x : Str} {v : Value} : ∀ {P : List Str} {vs : List Value} {i : Nat} {m : Str → Option Value}, P.Nodup → P[i]? = some x → vs[i]? = some v → kindOf x ≠ some .local →
    bindC kindOf (P.zip vs) m x = some v
  | [], _, _, _, _, h, _, _ => by simp at h
  | _ :: _, [], _, _, _, _, h, _ => by simp at h
  | p :: P, w :: vs, 0, m, nd, h1, h2, hk => by
    simp at h1 h2; subst h1; subst h2
    show bindC kindOf ((p, w) :: P.zip vs) m p = _
    unfold bindC
    rw [bindC_out fun v hv => (List.nodup_cons.mp nd).1 (List.of_mem_zip hv).1, if_neg hk]
    simp
  | p :: P, w :: vs, i + 1, m, nd, h1, h2, hk => by
    show bindC kindOf ((p, w) :: P.zip vs) m x = _
    unfold bindC
    exact bindC_get (i := i) (List.nodup_cons.mp nd).2 (by simpa using h1) (by simpa using h2) hk
noncomputable def start (N : List Str) (vs : List V) : St := vs.map some ++ List.replicate (N.length - vs.length) none
noncomputable def cxOf (CX : CXT) (P : Program) (w : World) (K : PySem.W.Frag) (mg : Str → Option Value) (base : Heap) (N : List Str) (qual : Str) (scope : Scope) (f : Addr) (cd : Value) (A : Around) (outer : List Env) (s : Shared) (H : Hp) (E : XK) : Cx where
  prog := P
  w := w
  K := K
  mg := mg
  base := base
  A := A.deeper (envOfC qual scope s.heap.objs.size f cd)
  N := N
  s₀ := s
  H₀ := H
  env := envOfC qual scope s.heap.objs.size f cd
  outer := outer
  stack := envOfC qual scope s.heap.objs.size f cd :: outer
  ex := []
  calm := true
  fn := fun _ => true
  pn := []
  xe := fun e s' => wpAny (model P w) (A.deeper (envOfC qual scope s.heap.objs.size f cd)) (leaving (envOfC qual scope s.heap.objs.size f cd) e) (fun _ s'' => CX outer H s E e s'') (fun e' s'' => CX outer H s E e' s'') s'
theorem cell_has {sc : Scope} {n : Nat} {x : Str} (h : sc.names.lookup x = some .cell) : ∃ c, (cellsFrom n sc.names []).lookup x = some c := by
  have q := PySem.W.cellsFrom_some sc.names n [] (.inl h)
  exact Option.isSome_iff_exists.mp q
theorem inv_start {CX : CXT} {P : Program} {w : World} {K : PySem.W.Frag} {mg : Str → Option Value} {base : Heap} {N ps : List Str} {qual : Str} {scope : Scope} {f : Addr} {cd : Value} {A : Around} {outer : List Env} {s s1 : Shared} {H : Hp} {E : XK} {us : List Value} {vs : List V}
    (S : FnScope N ps scope) (hd : A.handled = none) (e0 : Env0 P w K mg base A outer s H) (hl : vs.length = ps.length) (r : Vals vs us)
    (x : InCallC s s.heap.objs.size (bindL (envOfC qual scope s.heap.objs.size f cd).kindOf (ps.zip us) fun _ => none) (cellsFrom (s.heap.objs.size + 1) scope.names []) (bindC (envOfC qual scope s.heap.objs.size f cd).kindOf (ps.zip us) fun _ => none) s1) :
    Inv (cxOf CX P w K mg base N qual scope f cd A outer s H E) [] (start N vs) H s1 := by
  have hpl : ps.length ≤ N.length := by have := congrArg List.length S.pre; rw [List.length_take] at this; omega
  obtain ⟨h1, tk, rfl, hk⟩ := x.done
  have noA : ∀ b : Addr, b ∉ (cxOf CX P w K mg base N qual scope f cd A outer s H E).ex := fun b z => absurd (show b ∈ ([] : List Addr) from z) (by simp)
  refine ⟨⟨e0.mod, S.kind, rfl, rfl, Nat.le_refl _, fun y z c h1 h2 => ?_, fun y hy => ?_, fun y c _ h => ?_, fun _ => hd, Around.frames_deeper e0.frames, .inr ⟨rfl, rfl⟩, fun b z => absurd z (noA b), e0.bs, e0.bsz, fun b _ _ => noA b, fun b z => absurd z (noA b), e0.funs, e0.frf⟩,
    rfl, e0.bare, Un.kept hk, ⟨_, x.toInCall.ns, fun i y v h1 h2 h3 => ?_⟩, fun y c h => ⟨_, x.cell y c h⟩, e0.hok.fresh (Nat.le_refl _), fun y c h => ?_, fun p hp => absurd (show p ∈ ([] : List (Addr × Obj)) from hp) (by simp), e0.hok.kept hk, ?_⟩
  · exact name_of_addr x.apart (PySem.mem_of_lookup h1) (PySem.mem_of_lookup h2)
  · have hy : scope.names.lookup y = some .cell ∨ scope.names.lookup y = some .free := hy
    rcases hy with hy | hy
    · exact cell_has hy
    · exact absurd rfl (S.nofree _ (PySem.mem_of_lookup hy))
  · exact Nat.le_of_lt (x.above y c (PySem.mem_of_lookup h))
  · have hi : i < vs.length := by
      unfold start at h2
      by_cases hi : i < vs.length
      · exact hi
      · rw [List.getElem?_append_right (by simpa using hi)] at h2
        rw [List.getElem?_replicate] at h2
        split at h2 <;> cases h2
    have ha : vs[i]? = some v := by
      unfold start at h2
      rw [List.getElem?_append_left (by simpa using hi), List.getElem?_map] at h2
      cases e : vs[i]? with
      | none => rw [e] at h2; cases h2
      | some a => rw [e] at h2; cases h2; rfl
    obtain ⟨u, hu, rv⟩ := r.get ha
    have hp : ps[i]? = some y := by
      rw [← S.pre, List.getElem?_take_of_lt (by omega)]; exact h1
    have ndP : ps.Nodup := by rw [← S.pre]; exact S.nd.sublist (List.take_sublist _ _)
    refine ⟨u, rv, ?_⟩
    rcases S.par y (List.mem_of_getElem? hp) with k | k
    · exact .inl ⟨k, bindL_get ndP hp hu k⟩
    · obtain ⟨c, e⟩ := cell_has (n := s.heap.objs.size + 1) k
      refine .inr ⟨.inl k, c, e, ?_⟩
      have q := x.cell y c e
      rw [bindC_get ndP hp hu (by show scope.names.lookup y ≠ _; rw [k]; decide)] at q
      exact q
  · exact e0.hok.fresh (Nat.le_of_lt (x.above y c (PySem.mem_of_lookup h)))
  · unfold start
    show _ = N.length
    rw [List.length_append, List.length_map, List.length_replicate]
    omega
theorem fn_of {CX : CXT} {P : Program} {w : World} {K : PySem.W.Frag} {mg : Str → Option Value} {base : Heap} {k : Nat} {f : Addr} {name qual : Str} {params : Arguments} {body : List Stmt} {scope : Scope} {dV kV doc pm cdv ct oc : Value} {an od : Option Addr}
    {osl : Array (Option Value)} {N ps : List Str} {sp : Sp} (lk : K.lookup f = some ⟨oc, od, .func (PySem.W.fnOf name qual params body scope dV kV doc pm an cdv ct), osl⟩) (hcd : PySem.W.codeIn K cdv qual = true) (S : FnScope N ps scope)
    (len : ∀ vs H Q E, sp vs H Q E → vs.length = ps.length)
    (hbody : ∀ (A : Around) (outer : List Env) (s : Shared) (H : Hp) (vs : List V) (Q : VK) (E : XK), Room k (A.deeper (envOfC qual scope s.heap.objs.size f cdv)) → sp vs H Q E →
      ∃ t, PSs (cxOf CX P w K mg base N qual scope f cdv A outer s H E) body t ∧ t { nx := fun _ H' => Q .non H', rt := Q } (start N vs) H) :
    FnOk P w K mg base CX (k + 1) f (PySem.W.fnOf name qual params body scope dV kV doc pm an cdv ct) ps sp := by
  refine ⟨len, fun A outer s H args us vs Q E hr e0 hb r hsp => ?_⟩
  have hl := len _ _ _ _ hsp
  have KX : K.In s.heap := e0.mod.kin.keeps fun b o e => (e0.bs b o e).1
  have lim : s.heap.NoLimit := e0.mod.nolimit.keeps fun b o e => (e0.bs b o e).1
  have hkind : ∀ y ∈ ps.zip us, scope.names.lookup y.1 = some .local ∨ (scope.names.lookup y.1 = some .cell ∧ ((cellsFrom (s.heap.objs.size + 1) scope.names []).lookup y.1).isSome = true) := fun ⟨n, v⟩ hy => by
    rcases S.par n (List.of_mem_zip hy).1 with q | q
    · exact .inl q
    · exact .inr ⟨q, PySem.W.cellsFrom_some _ _ _ (.inl q)⟩
  refine codeAny_call_function hr.depth (KX _ _ lk) rfl S.co S.gen rfl (PySem.W.codeRec_of KX hcd) (hb _ _ _ _ ?_)
  refine wpAny_newFunctionEnv_cells S.kind hkind fun env he s1 x => ?_
  subst he
  refine ⟨lim.keeps x.toInCall.keep, codeAny_func ?_⟩
  obtain ⟨t, ht, hq⟩ := hbody A outer s H vs Q E (hr.deeper _) hsp
  have I : Inv (cxOf CX P w K mg base N qual scope f cdv A outer s H E) [] (start N vs) H s1 := inv_start S hr.hd e0 hl r x
  refine wpAny_mono (ht [] s1 (start N vs) H _ I hq) (fun fl s' hs => ?_) fun e s' hs => hs
  have fin : ∀ {σ' : St} {H' : Hp} {v : V} {u : Value}, Inv (cxOf CX P w K mg base N qual scope f cdv A outer s H E) [] σ' H' s' → RelV v u → Q v H' → CE outer P w H s Q u s' :=
    fun {σ' H' v u} J rv q => ⟨v, H', J.os, J.bare, J.base, J.hok, rv, q⟩
  cases fl with
  | ret u =>
    obtain ⟨v, σ', H', J, rv, q⟩ := hs
    exact fin J rv q
  | next =>
    obtain ⟨σ', H', J, q⟩ := hs
    exact fin (v := V.non) (u := Value.none) J rfl q
  | brk =>
    obtain ⟨_, _, _, q⟩ := hs
    exact False.elim q
  | cont =>
    obtain ⟨_, _, _, q⟩ := hs
    exact False.elim q
end L2

namespace L2
open PySem PySem.Spec PyProof.Rows
section
variable {X : Cx} {x : Str} {p pos : Pos} {e : Expr} {es : List Expr} {t : TA} {id T : String} {r : List V → Hp → VK → Prop}

noncomputable def tCB (r : List V → Hp → VK → Prop) (t : TA) : TE := fun σ H Q => t σ H fun vs H1 => r vs H1 Q
theorem pe_callB (hc : CallR X (.builtin id) r) (hg : Gl X x) (hm : X.mg x = none) (hv : bootBuiltins x = some (.builtin id)) (ha : PA X (e :: es) t) (hn : x ≠ "__name__" := by decide) (hdb : (x == ("__debug__" : Str)) = false := by decide)
    (he : starEach (e :: es) X.env = (false, eval e X.env) :: starEach es X.env := by rfl) (hpl : (backTo pos (starEach es X.env)).any (·.1) = false := by rfl) : PE X (.Call (.Name x p) (e :: es) [] pos) (tCB r t) := by
  intro pins s σ H Q I h
  refine wpAny_Call_Name_kw (ld_blt I hg hm hv ?_ hn hdb)
  exact PyProof.Rows.callWith_builtin1 (thn (ha pos pins s σ H _ I h) fun us s1 ⟨vs, H1, I1, r1, q1⟩ => hc pins s1 σ H1 vs us Q I1 r1 q1) he hpl
theorem pe_callTy (hc : CallR X (.type T) r) (hg : Gl X x) (hm : X.mg x = none) (hv : bootBuiltins x = some (.type T)) (ha : PA X (e :: es) t) (hn : x ≠ "__name__" := by decide) (hdb : (x == ("__debug__" : Str)) = false := by decide)
    (he : starEach (e :: es) X.env = (false, eval e X.env) :: starEach es X.env := by rfl) (hpl : (backTo pos (starEach es X.env)).any (·.1) = false := by rfl) : PE X (.Call (.Name x p) (e :: es) [] pos) (tCB r t) := by
  intro pins s σ H Q I h
  refine wpAny_Call_Name_kw (ld_blt I hg hm hv ?_ hn hdb)
  exact PyProof.Rows.callWith_type1 (thn (ha pos pins s σ H _ I h) fun us s1 ⟨vs, H1, I1, r1, q1⟩ => hc pins s1 σ H1 vs us Q I1 r1 q1) he hpl
end
end L2

namespace L2
open PySem PySem.Spec PyProof.Rows

section
variable {κ : Type} [DecidableEq κ]
noncomputable def valV (kvs : List (κ × V)) (k : κ) : Option V := (kvs.find? fun kv => decide (kv.1 = k)).map (·.2)
noncomputable def putK (kvs : List (κ × V)) (k : κ) (v : V) : List (κ × V) :=
  if (kvs.any fun kv => decide (kv.1 = k)) = true then kvs.map (fun kv => if kv.1 = k then (kv.1, v) else kv) else kvs ++ [(k, v)]
noncomputable def dropK (kvs : List (κ × V)) (k : κ) : List (κ × V) := kvs.filter fun kv => decide (kv.1 ≠ k)
theorem valV_pos {p : κ × V} {r : List (κ × V)} {k : κ} (e : p.1 = k) : valV (p :: r) k = some p.2 := by simp [valV, List.find?_cons, e]
theorem valV_neg {p : κ × V} {r : List (κ × V)} {k : κ} (e : ¬ p.1 = k) : valV (p :: r) k = valV r k := by simp [valV, List.find?_cons, e]
theorem valV_any (k : κ) : ∀ kvs : List (κ × V), (kvs.any fun kv => decide (kv.1 = k)) = (valV kvs k).isSome
  | [] => rfl
  | p :: r => by
    rw [List.any_cons]
    by_cases e : p.1 = k
    · simp only [valV_pos e, decide_eq_true e, Bool.true_or, Option.isSome_some]
    · rw [valV_neg e, decide_eq_false e, Bool.false_or]; exact valV_any k r
theorem length_putK (kvs : List (κ × V)) (k : κ) (v : V) : (putK kvs k v).length ≤ kvs.length + 1 := by
  unfold putK
  split
  · rw [List.length_map]; omega
  · rw [List.length_append, List.length_cons, List.length_nil]; omega
theorem putK_new {kvs : List (κ × V)} {k : κ} (v : V) (h : valV kvs k = none) : putK kvs k v = kvs ++ [(k, v)] := by
  unfold putK
  rw [valV_any, h]
  exact if_neg (by decide)
theorem RelO.isSome_eq {o : Option V} {u : Option Value} (r : RelO o u) : o.isSome = u.isSome := by
  cases o with
  | none => cases u with
    | none => rfl
    | some _ => exact (show False from r).elim
  | some _ => cases u with
    | none => exact (show False from r).elim
    | some _ => rfl
theorem RelO.getD {o : Option V} {u : Option Value} {d : V} {d' : Value} (r : RelO o u) (rd : RelV d d') : RelV (o.getD d) (u.getD d') := by
  cases o with
  | none => cases u with
    | none => exact rd
    | some _ => exact (show False from r).elim
  | some _ => cases u with
    | none => exact (show False from r).elim
    | some _ => exact r
theorem KV.val {kvs : List (κ × V)} {vs : List (κ × Value)} (r : KV kvs vs) (k : κ) : RelO (valV kvs k) (valueAt vs k) := by
  unfold KV at r
  induction r with
  | nil => exact True.intro
  | @cons p q ps qs h t ih =>
    obtain ⟨h1, h2⟩ := h
    by_cases e : p.1 = k
    · have e' : q.1 = k := h1.symm.trans e
      have b : valueAt (q :: qs) k = some q.2 := by simp [valueAt, List.find?_cons, e']
      rw [valV_pos e, b]; exact h2
    · have e' : ¬ q.1 = k := fun z => e (h1.trans z)
      have b : valueAt (q :: qs) k = valueAt qs k := by simp [valueAt, List.find?_cons, e']
      rw [valV_neg e, b]; exact ih
theorem KV.any {kvs : List (κ × V)} {vs : List (κ × Value)} (r : KV kvs vs) (k : κ) : (kvs.any fun kv => decide (kv.1 = k)) = vs.any fun kv => decide (kv.1 = k) := by
  unfold KV at r
  induction r with
  | nil => rfl
  | cons h t ih => rw [List.any_cons, List.any_cons, ih, h.1]
theorem KV.repl {kvs : List (κ × V)} {vs : List (κ × Value)} (r : KV kvs vs) (k : κ) {y : V} {u : Value} (ry : RelV y u) :
    KV (kvs.map fun kv => if kv.1 = k then (kv.1, y) else kv) (vs.map fun kv => if kv.1 = k then (kv.1, u) else kv) := by
  unfold KV at r ⊢
  induction r with
  | nil => exact .nil
  | @cons p q ps qs h t ih =>
    rw [List.map_cons, List.map_cons]
    refine .cons ?_ ih
    obtain ⟨h1, h2⟩ := h
    by_cases e : p.1 = k
    · rw [if_pos e, if_pos (h1.symm.trans e)]; exact ⟨h1, ry⟩
    · rw [if_neg e, if_neg (fun z => e (h1.trans z))]; exact ⟨h1, h2⟩
theorem KV.put {kvs : List (κ × V)} {vs : List (κ × Value)} (r : KV kvs vs) (k : κ) {y : V} {u : Value} (ry : RelV y u) : KV (putK kvs k y) (stored vs k u) := by
  unfold putK stored
  rw [r.any k]
  by_cases e : (vs.any fun kv => decide (kv.1 = k)) = true
  · rw [if_pos e, if_pos e]; exact r.repl k ry
  · rw [if_neg e, if_neg e]; exact Paired.snoc r ⟨rfl, ry⟩
theorem KV.drop {kvs : List (κ × V)} {vs : List (κ × Value)} (r : KV kvs vs) (k : κ) : KV (dropK kvs k) (without vs k) := by
  unfold KV at r ⊢
  unfold dropK without
  induction r with
  | nil => exact .nil
  | @cons p q ps qs h t ih =>
    obtain ⟨h1, h2⟩ := h
    rw [List.filter_cons, List.filter_cons]
    by_cases e : p.1 = k
    · have a : ¬ decide (p.1 ≠ k) = true := by simp [e]
      have b : ¬ decide (q.1 ≠ k) = true := by simp [h1.symm.trans e]
      rw [if_neg a, if_neg b]; exact ih
    · have e' : ¬ q.1 = k := fun z => e (h1.trans z)
      have a : decide (p.1 ≠ k) = true := by simp [e]
      have b : decide (q.1 ≠ k) = true := by simp [e']
      rw [if_pos a, if_pos b]; exact .cons ⟨h1, h2⟩ ih
theorem KV.keys {kvs : List (κ × V)} {vs : List (κ × Value)} (r : KV kvs vs) : kvs.map (·.1) = vs.map (·.1) := by
  unfold KV at r
  induction r with
  | nil => rfl
  | cons h t ih => rw [List.map_cons, List.map_cons, ih, h.1]
theorem KV.length {kvs : List (κ × V)} {vs : List (κ × Value)} (r : KV kvs vs) : kvs.length = vs.length := Paired.length r
end


theorem kV_is {P : Program} {w : World} {k : Key} {u : Value} (r : RelV (kV k) u) : (mixKind P w).is k u = true := by
  cases k with
  | inl i => obtain ⟨t, e⟩ := (show ∃ t, u = Value.int i t from r); subst e; exact mixKind_int P w i t
  | inr x => obtain ⟨t, e⟩ := (show ∃ t, u = Value.str x t from r); subst e; exact mixKind_str P w x t
theorem items_are {P : Program} {w : World} : ∀ {ks : List Key} {us : List Value}, Vals (ks.map kV) us → ItemsAre (mixKind P w) ks us
  | [], _, r => by rw [List.map_nil] at r; cases r; exact .nil
  | k :: ks, _, r => by
    rw [List.map_cons] at r
    cases r with
    | cons h t => exact .cons (kV_is h) (items_are t)
noncomputable abbrev KT (H : Hp) : List (List Key × V) → List (List Key × Addr × Value) → Prop := Paired fun p q => p.1 = q.1 ∧ H q.2.1 = some (.tup (p.1.map kV)) ∧ RelV p.2 q.2.2
theorem KT.val {H : Hp} {kvs : List (List Key × V)} {xs : List (List Key × Addr × Value)} (r : KT H kvs xs) (k : List Key) : RelO (valV kvs k) ((atKey xs k).map (·.2)) := by
  induction r with
  | nil => exact True.intro
  | @cons p q ps qs h t ih =>
    obtain ⟨h1, _, h2⟩ := h
    by_cases e : p.1 = k
    · have e' : q.1 = k := h1.symm.trans e
      have b : atKey (q :: qs) k = some q.2 := by simp [atKey, List.find?_cons, e']
      rw [valV_pos e, b]; exact h2
    · have e' : ¬ q.1 = k := fun z => e (h1.trans z)
      have b : atKey (q :: qs) k = atKey qs k := by simp [atKey, List.find?_cons, e']
      rw [valV_neg e, b]; exact ih
theorem KT.repl {H : Hp} {kvs : List (List Key × V)} {xs : List (List Key × Addr × Value)} (r : KT H kvs xs) (k : List Key) {y : V} {u : Value} (ry : RelV y u) :
    KT H (kvs.map fun kv => if kv.1 = k then (kv.1, y) else kv) (xs.map (putAt k u)) := by
  induction r with
  | nil => exact .nil
  | @cons p q ps qs h t ih =>
    rw [List.map_cons, List.map_cons]
    refine .cons ?_ ih
    obtain ⟨h1, h2, h3⟩ := h
    unfold putAt
    by_cases e : p.1 = k
    · rw [if_pos e, if_pos (h1.symm.trans e)]; exact ⟨h1, h2, ry⟩
    · rw [if_neg e, if_neg (fun z => e (h1.trans z))]; exact ⟨h1, h2, h3⟩
theorem KT.put {H : Hp} {kvs : List (List Key × V)} {xs : List (List Key × Addr × Value)} (r : KT H kvs xs) (k : List Key) {b : Addr} {y : V} {u : Value} (hb : H b = some (.tup (k.map kV))) (ry : RelV y u) :
    KT H (putK kvs k y) (storedH xs k b u) := by
  have e : (kvs.any fun kv => decide (kv.1 = k)) = (atKey xs k).isSome := by
    rw [valV_any, (r.val k).isSome_eq, Option.isSome_map]
  unfold putK storedH
  rw [e]
  by_cases q : (atKey xs k).isSome = true
  · rw [if_pos q, if_pos q]; exact r.repl k ry
  · rw [if_neg q, if_neg q]; exact Paired.snoc r ⟨rfl, hb, ry⟩
theorem KT.keeps {H H' : Hp} {kvs : List (List Key × V)} {xs : List (List Key × Addr × Value)} (r : KT H kvs xs) (ht : ∀ b ys, H b = some (.tup ys) → H' b = some (.tup ys)) : KT H' kvs xs :=
  Paired.mapP r fun _ _ z => ⟨z.1, ht _ _ z.2.1, z.2.2⟩
section
variable {P : Program} {w : World} {H : Hp} {h : Heap} {a : Addr}
theorem rd_of {u : HO} (ok : HOk P w H h) (e : Rd H a u) : ObjOk P w H h a u := e.ok ok
theorem dk_rd {kvs : List (Key × V)} (ok : HOk P w H h) (e : Rd H a (.dK kvs)) : kvs.length ≤ sizeLine ∧ (a == sysModules) = false ∧ ∃ vs, KV kvs vs ∧ h.DictOf (mixKind P w) a vs :=
  show ObjOk P w H h a (.dK kvs) from rd_of ok e
theorem dk_of {kvs : List (Key × V)} (ok : HOk P w H h) (e : H a = some (.dK kvs)) : kvs.length ≤ sizeLine ∧ (a == sysModules) = false ∧ ∃ vs, KV kvs vs ∧ h.DictOf (mixKind P w) a vs := dk_rd ok (.inl e)
theorem key_of {ks : List Key} (ok : HOk P w H h) (e : H a = some (.tup (ks.map kV))) : (tupleKind (mixKind P w)).is h ks a := by
  obtain ⟨_, its, r, o, h1, h2, n, h3⟩ := (show ObjOk P w H h a (.tup (ks.map kV)) from ok a _ e)
  exact ⟨o, its.toArray, n, h1, h2, h3, by simpa using items_are r⟩
theorem dt_rd {kvs : List (List Key × V)} (ok : HOk P w H h) (e : Rd H a (.dT kvs)) : kvs.length ≤ sizeLine ∧ (a == sysModules) = false ∧
    ∃ xs, KT H kvs xs ∧ h.DictOfH (tupleKind (mixKind P w)) a xs := by
  obtain ⟨z, y, xs, r, o, es, ep, h1, h2, h3, h4, h5⟩ := (show ObjOk P w H h a (.dT kvs) from rd_of ok e)
  refine ⟨z, y, xs, r, o, es, ep, h1, h2, h3, h4, fun x hx => ?_, h5⟩
  have all : ∀ {l : List (List Key × V)} {m : List (List Key × Addr × Value)}, KT H l m → ∀ x ∈ m, (tupleKind (mixKind P w)).is h x.1 x.2.1 := by
    intro l m q
    induction q with
    | nil => intro x hx; exact nomatch hx
    | @cons p q ps qs hq t ih =>
      intro x hx
      rcases List.mem_cons.mp hx with e | hx
      · subst e
        exact key_of ok (by rw [← hq.1]; exact hq.2.1)
      · exact ih x hx
  exact all r x hx
theorem dt_of {kvs : List (List Key × V)} (ok : HOk P w H h) (e : H a = some (.dT kvs)) : kvs.length ≤ sizeLine ∧ (a == sysModules) = false ∧
    ∃ xs, KT H kvs xs ∧ h.DictOfH (tupleKind (mixKind P w)) a xs := dt_rd ok (.inl e)
end

noncomputable def DGet (H : Hp) (a : Addr) (y : V) (r : Option V) : Prop :=
  (∃ kvs k, Rd H a (.dK kvs) ∧ y = kV k ∧ r = valV kvs k) ∨ ∃ kvs k b, Rd H a (.dT kvs) ∧ y = .ref b ∧ H b = some (.tup (k.map kV)) ∧ r = valV kvs k
noncomputable def DPut (H : Hp) (a : Addr) (y v : V) (H' : Hp) : Prop :=
  (∃ kvs k, H a = some (.dK kvs) ∧ y = kV k ∧ kvs.length < sizeLine ∧ H' = upd H a (.dK (putK kvs k v))) ∨
  ∃ kvs k b, H a = some (.dT kvs) ∧ y = .ref b ∧ H b = some (.tup (k.map kV)) ∧ kvs.length < sizeLine ∧ H' = upd H a (.dT (putK kvs k v))
theorem DGet.k {H : Hp} {a : Addr} {kvs : List (Key × V)} {k : Key} (e : H a = some (.dK kvs)) : DGet H a (kV k) (valV kvs k) := .inl ⟨kvs, k, .inl e, rfl, rfl⟩
theorem DGet.t {H : Hp} {a b : Addr} {kvs : List (List Key × V)} {k : List Key} (e : H a = some (.dT kvs)) (eb : H b = some (.tup (k.map kV))) : DGet H a (.ref b) (valV kvs k) := .inr ⟨kvs, k, b, .inl e, rfl, eb, rfl⟩
theorem DPut.k {H : Hp} {a : Addr} {kvs : List (Key × V)} {k : Key} {v : V} (e : H a = some (.dK kvs)) (hl : kvs.length < sizeLine) : DPut H a (kV k) v (upd H a (.dK (putK kvs k v))) := .inl ⟨kvs, k, e, rfl, hl, rfl⟩
theorem DPut.t {H : Hp} {a b : Addr} {kvs : List (List Key × V)} {k : List Key} {v : V} (e : H a = some (.dT kvs)) (eb : H b = some (.tup (k.map kV))) (hl : kvs.length < sizeLine) :
    DPut H a (.ref b) v (upd H a (.dT (putK kvs k v))) := .inr ⟨kvs, k, b, e, rfl, eb, hl, rfl⟩
section
variable {X : Cx} {pins : List (Addr × Obj)} {σ : St} {H : Hp} {s : Shared} {a : Addr} {y v : V} {u r : Value} {o : Option V} {A : Around} {E : Value → Shared → Prop}

theorem Inv.big (I : Inv X pins σ H s) : sysModules < s.heap.objs.size := by
  have h : mainGlobals < s.heap.objs.size := (I.mod.glob.keeps I.bk).lt
  exact Nat.lt_trans (by decide) h
theorem d_getItem {Q : Value → Shared → Prop} (hu : A.units + 1 < cLine) (I : Inv X pins σ H s) (g : DGet H a y (some v)) (ry : RelV y u) (h : ∀ w' s', Inv X pins σ H s' → RelV v w' → Q w' s') :
    wpAny (model X.prog X.w) A (getItem (.ref a) u) Q E s := by
  rcases g with ⟨kvs, k, e, ey, l⟩ | ⟨kvs, k, b, e, ey, eb, l⟩
  · subst ey
    obtain ⟨z, hd, vs, rel, dd⟩ := dk_rd I.hok e
    obtain ⟨w', hw, rw'⟩ := RelO.some_of (v := v) (o := valueAt vs k) (by rw [l]; exact rel.val k)
    exact wpAny_getItem_of (kV_is ry) dd.mapOf hw (h w' _ (I.tok _) rw')
  · subst ey
    cases (show u = Value.ref b from ry)
    obtain ⟨z, hd, xs, rel, dd⟩ := dt_rd I.hok e
    obtain ⟨w', hw, rw'⟩ := RelO.some_of (v := v) (o := (atKey xs k).map (·.2)) (by rw [l]; exact rel.val k)
    obtain ⟨p, hp, hp2⟩ := Option.map_eq_some_iff.mp hw
    refine wpAny_getItem_heap (tupleKind_room_in1 hu) (key_of I.hok eb) dd hp ?_
    rw [hp2]
    exact h w' _ (I.tok _) rw'
theorem d_in {Q : Value → Shared → Prop} (hu : A.units + 1 < cLine) (I : Inv X pins σ H s) (g : DGet H a y o) (ry : RelV y u) (h : ∀ s', Inv X pins σ H s' → Q (.bool o.isSome) s') :
    wpAny (model X.prog X.w) A (compareOp .In u (.ref a)) Q E s := by
  rcases g with ⟨kvs, k, e, ey, l⟩ | ⟨kvs, k, b, e, ey, eb, l⟩
  · subst ey
    obtain ⟨z, hd, vs, rel, dd⟩ := dk_rd I.hok e
    refine wpAny_in_of (kV_is ry) hd dd.mapOf ?_
    rw [← (rel.val k).isSome_eq, ← l]
    exact h _ (I.tok _)
  · subst ey
    cases (show u = Value.ref b from ry)
    obtain ⟨z, hd, xs, rel, dd⟩ := dt_rd I.hok e
    refine wpAny_in_heap (tupleKind_room_in1 hu) (key_of I.hok eb) hd dd ?_
    have q := (rel.val k).isSome_eq
    rw [Option.isSome_map] at q
    rw [← q, ← l]
    exact h _ (I.tok _)
theorem d_notIn {Q : Value → Shared → Prop} (hu : A.units + 1 < cLine) (I : Inv X pins σ H s) (g : DGet H a y o) (ry : RelV y u) (h : ∀ s', Inv X pins σ H s' → Q (.bool (!o.isSome)) s') :
    wpAny (model X.prog X.w) A (compareOp .NotIn u (.ref a)) Q E s := by
  rcases g with ⟨kvs, k, e, ey, l⟩ | ⟨kvs, k, b, e, ey, eb, l⟩
  · subst ey
    obtain ⟨z, hd, vs, rel, dd⟩ := dk_rd I.hok e
    refine wpAny_notIn_of (kV_is ry) hd dd.mapOf ?_
    rw [← (rel.val k).isSome_eq, ← l]
    exact h _ (I.tok _)
  · subst ey
    cases (show u = Value.ref b from ry)
    obtain ⟨z, hd, xs, rel, dd⟩ := dt_rd I.hok e
    refine wpAny_notIn_heap (tupleKind_room_in1 hu) (key_of I.hok eb) hd dd ?_
    have q := (rel.val k).isSome_eq
    rw [Option.isSome_map] at q
    rw [← q, ← l]
    exact h _ (I.tok _)
theorem d_write {h' : Heap} {t' : Nat} {ob : HO} (I : Inv X pins σ H s) (mu : Mut (H a)) (hs : Heap.SameBut a s.heap h') (he : ∃ q, h'.get? a = some q) (new : ObjOk X.prog X.w (upd H a ob) h' a ob) :
    Inv X pins σ (upd H a ob) { s with heap := h', toks := t' } :=
  I.write (x := a) (e := a) mu (.inl rfl) (fun b q hb z => (hs.2 b hb).trans z) he new
theorem dk_new {P : Program} {w : World} {H' : Hp} {h' : Heap} {kvs : List (Key × V)} {vs : List (Key × Value)} (z : kvs.length ≤ sizeLine) (hd : (a == sysModules) = false) (rel : KV kvs vs) (dd : h'.DictOf (mixKind P w) a vs) :
    ObjOk P w H' h' a (.dK kvs) := ⟨z, hd, vs, rel, dd⟩
theorem d_setItem {H' : Hp} {Q : Unit → Shared → Prop} (hu : A.units + 1 < cLine) (I : Inv X pins σ H s) (g : DPut H a y v H') (ry : RelV y u) (rv : RelV v r) (h : ∀ s', Inv X pins σ H' s' → Q () s') :
    wpAny (model X.prog X.w) A (setItem (.ref a) u r) Q E s := by
  rcases g with ⟨kvs, k, e, ey, l, eH⟩ | ⟨kvs, k, b, e, ey, eb, l, eH⟩
  · subst ey eH
    obtain ⟨z, hd, vs, rel, dd⟩ := dk_of I.hok e
    have hz : vs.length ≤ sizeLine := by rw [← rel.length]; exact z
    have hl : (putK kvs k v).length ≤ sizeLine := by have := length_putK kvs k v; omega
    refine wpAny_setItem_pairs (hsz := hz) (kV_is ry) dd fun h' dd' hs => h _ ?_
    have he : ∃ q, h'.get? a = some q := let ⟨q, _, _, hq, _⟩ := dd'; ⟨q, hq⟩
    exact d_write I (by rw [e]; exact True.intro) hs he (dk_new hl hd (rel.put k rv) dd')
  · subst ey eH
    cases (show u = Value.ref b from ry)
    obtain ⟨z, hd, xs, rel, dd⟩ := dt_of I.hok e
    have hz : xs.length ≤ sizeLine := by rw [← Paired.length rel]; exact z
    have hl : (putK kvs k v).length ≤ sizeLine := by have := length_putK kvs k v; omega
    refine wpAny_setItem_heap (hsz := hz) (tupleKind_room_in1 hu) (key_of I.hok eb) dd fun h' dd' hs => h _ ?_
    obtain ⟨q, es, ep, hq, h2, h3, h4, _, h5⟩ := dd'
    refine d_write I (by rw [e]; exact True.intro) hs ⟨q, hq⟩ ⟨hl, hd, _, (rel.put k eb rv).keeps fun c ys ec => ?_, q, es, ep, hq, h2, h3, h4, h5⟩
    rw [upd_ne (ne_of ec e (fun z => nomatch z))]
    exact ec
end

section
variable {X : Cx} {pins : List (Addr × Obj)} {σ : St} {H : Hp} {s : Shared} {a : Addr} {kvs : List (Key × V)} {k : Key} {u : Value} {A : Around} {E : Value → Shared → Prop}
end


noncomputable def NoSl (i : Expr) : Prop := ∀ ov iv, subscripted i false ov iv = operate [ov, iv] (getItem ov iv)
theorem subD_of {prog : Program} {w : World} {A : Around} {E : Value → Shared → Prop} {s : Shared} {env : Env} {value slice : Expr} {pos : Pos} {T id : String} {Q : Value → Shared → Prop}
    (hl : typeLookup (.type T) "__getitem__" = pure (some (.builtin id))) (hs : NoSl slice)
    (h : wpAny (model prog w) A (eval value env) (fun o s₁ => wpAny (model prog w) A (eval slice env) (fun i s₂ => s₂.TypeIs o T ∧ wpAny (model prog w) A (getItem o i) Q E s₂) E s₁) E s) :
    wpAny (model prog w) A (eval (.Subscript value slice pos) env) Q E s := by
  refine Subscript_ (wpAny_mono h (fun o s₁ h₁ => wpAny_mono h₁ (fun i s₂ h₂ => ?_) fun _ _ x => x) fun _ _ x => x)
  obtain ⟨hT, h₂⟩ := h₂
  unfold subscriptTail
  refine wpAny_bind ?_
  rw [getitemInPython_of_ne hT.not_modules]
  refine wpAny_bind (wpAny_specialOf hT hl ?_)
  have fin : wpAny (model prog w) A (subscripted slice false o i) (fun r s₃ => wpAny (model prog w) A (letTemporaryGo value o r >>= fun _ => pure r) Q E s₃) E s₂ := by
    rw [hs o i]
    exact wpAny_operating (wpAny_mono h₂ (fun r s₃ h₃ => wpAny_bind (wpAny_letTemporaryGo (wpAny_pure h₃))) fun _ _ x => x)
  first
    | exact wpAny_pure (wpAny_bind fin)
    | exact wpAny_bind (wpAny_pure (wpAny_bind fin))
    | exact wpAny_bind fin
theorem dict_typeIs {X : Cx} {pins : List (Addr × Obj)} {σ : St} {H : Hp} {s : Shared} {a : Addr} {y : V} {o : Option V} (I : Inv X pins σ H s) (g : DGet H a y o) : s.TypeIs (.ref a) "dict" := by
  rcases g with ⟨kvs, k, e, _, _⟩ | ⟨kvs, k, b, e, _, _, _⟩
  · obtain ⟨_, _, vs, _, dd⟩ := dk_rd I.hok e
    exact dd.typeIs
  · obtain ⟨_, _, xs, _, dd⟩ := dt_rd I.hok e
    exact dd.typeIs
noncomputable def tDGet (td ty : TE) : TE := fun σ H Q => td σ H fun x H1 => ty σ H1 fun y H2 => ∃ a v, x = .ref a ∧ DGet H2 a y (some v) ∧ Q v H2
noncomputable def tDIn (ty td : TE) : TE := fun σ H Q => ty σ H fun y H1 => td σ H1 fun x H2 => ∃ a o, x = .ref a ∧ DGet H2 a y o ∧ Q (.bl o.isSome) H2
noncomputable def tDNotIn (ty td : TE) : TE := fun σ H Q => ty σ H fun y H1 => td σ H1 fun x H2 => ∃ a o, x = .ref a ∧ DGet H2 a y o ∧ Q (.bl (!o.isSome)) H2
noncomputable def sDPut (td ty tv : TE) : TS := fun D σ H => tv σ H fun v H1 => td σ H1 fun x H2 => ty σ H2 fun y H3 => ∃ a H4, x = .ref a ∧ DPut H3 a y v H4 ∧ D.nx σ H4
section
variable {X : Cx} {o i e value : Expr} {pos pos' tpos : Pos} {td ty tv : TE}
theorem pe_dget (hu : X.A.units + 1 < cLine) (ho : PE X o td) (hi : PE X i ty) (hs : NoSl i) : PE X (.Subscript o i pos) (tDGet td ty) := by
  intro pins s σ H Q I h
  refine subD_of PySem.F.slot_dict_getitem.lookup hs (thn (ho pins s σ H _ I h) fun u s1 ⟨x, H1, I1, rx, q1⟩ => thn (hi pins s1 σ H1 _ I1 q1) fun iv s2 zz9 => ?_)
  obtain ⟨y, H2, I2, ry, a, v, ex, g, q2⟩ := zz9
  subst ex
  obtain rfl : u = Value.ref a := rx
  exact ⟨dict_typeIs I2 g, d_getItem hu I2 g ry fun w' s3 I3 rw' => ⟨v, H2, I3, rw', q2⟩⟩
theorem pc_din (hu : X.A.units + 1 < cLine) (hi : PE X i ty) (ho : PE X o td) : PC X .In i o (tDIn ty td) := by
  intro pins s σ H Q I h
  refine thn (hi pins s σ H _ I h) fun iv s1 ⟨y, H1, I1, ry, q1⟩ => thn (ho pins s1 σ H1 _ I1 q1) fun u s2 zz9 => ?_
  obtain ⟨x, H2, I2, rx, a, ov, ex, g, q2⟩ := zz9
  subst ex
  obtain rfl : u = Value.ref a := rx
  exact d_in hu I2 g ry fun s3 I3 => ⟨.bl ov.isSome, H2, I3, rfl, q2⟩
theorem pc_dnotin (hu : X.A.units + 1 < cLine) (hi : PE X i ty) (ho : PE X o td) : PC X .NotIn i o (tDNotIn ty td) := by
  intro pins s σ H Q I h
  refine thn (hi pins s σ H _ I h) fun iv s1 ⟨y, H1, I1, ry, q1⟩ => thn (ho pins s1 σ H1 _ I1 q1) fun u s2 zz9 => ?_
  obtain ⟨x, H2, I2, rx, a, ov, ex, g, q2⟩ := zz9
  subst ex
  obtain rfl : u = Value.ref a := rx
  exact d_notIn hu I2 g ry fun s3 I3 => ⟨.bl (!ov.isSome), H2, I3, rfl, q2⟩
theorem ps_dput (hu : X.A.units + 1 < cLine) (ho : PE X o td) (hi : PE X i ty) (hv : PE X value tv) (hs : swapsWith value (some (.Subscript o i pos')) pos.line X.env = pure false) :
    PS X (.Assign [.Subscript o i pos'] value pos) (sDPut td ty tv) := by
  intro pins s σ H D I h
  refine wpAny_Assign_Subscript (thn (hv pins s σ H _ I h) fun r s1 ⟨v, H1, I1, rv, q1⟩ => thn (ho pins s1 σ H1 _ I1 q1) fun u s2 ⟨x, H2, I2, rx, q2⟩ => thn (hi pins s2 σ H2 _ I2 q2) fun iv s3 zz9 => ?_) hs
  obtain ⟨y, H3, I3, ry, a, H4, ex, g, q3⟩ := zz9
  subst ex
  obtain rfl : u = Value.ref a := rx
  exact d_setItem hu I3 g ry rv fun s4 I4 => ⟨σ, H4, I4, q3⟩
end


theorem dk_empty {P : Program} {w : World} {H : Hp} (h : Heap) (hb : sysModules < h.objs.size) : ObjOk P w H (h.push { cls := .type "dict", data := .dict #[] }) h.objs.size (.dK []) :=
  ⟨Nat.zero_le _, beq_eq_false_iff_ne.mpr (Ne.symm (Nat.ne_of_lt hb)), [], .nil, Heap.DictOf.new h⟩
noncomputable def tDNewK : TE := fun _ H Q => ∀ p, H p = none → Q (.ref p) (upd H p (.dK []))
section
variable {X : Cx} {pos : Pos}
theorem pe_dnewK : PE X (.Dict [] [] pos) tDNewK := fun pins s σ H Q I h =>
  wpAny_Dict_empty ⟨.ref s.heap.objs.size, _, I.laid (a := s.heap.objs.size) (o := .dK []) (t' := s.toks) (fun _ _ q => Heap.get?_push_of_some _ q) (Nat.le_refl _) (dk_empty s.heap I.big), rfl, h _ (I.hok.fresh (Nat.le_refl _))⟩
end

structure M1 (X : Cx) (o : Expr) (m : Str) (apos : Pos) (e : Expr) (cpos : Pos) : Prop where
  base : attributeBase o m X.env (eval o X.env) = eval o X.env
  few : ((backTo cpos (starEach [e] X.env)).all (fun x => !x.1) && (backToKw cpos (keywordEach [] X.env)).all (fun x => x.1.isSome)
    && decide (([e] : List Expr).length + ([] : List Keyword).length + (if ([] : List Keyword).isEmpty then 0 else 1) < 30)) = true
  line : (apos.endLine == cpos.line) = true
  trees : backTo cpos (starEach [e] X.env) = [(false, eval e X.env)]
structure M2 (X : Cx) (o : Expr) (m : Str) (apos : Pos) (e f : Expr) (cpos : Pos) : Prop where
  base : attributeBase o m X.env (eval o X.env) = eval o X.env
  few : ((backTo cpos (starEach [e, f] X.env)).all (fun x => !x.1) && (backToKw cpos (keywordEach [] X.env)).all (fun x => x.1.isSome)
    && decide (([e, f] : List Expr).length + ([] : List Keyword).length + (if ([] : List Keyword).isEmpty then 0 else 1) < 30)) = true
  line : (apos.endLine == cpos.line) = true
  trees : backTo cpos (starEach [e, f] X.env) = [(false, eval e X.env), (false, eval f X.env)]
noncomputable def IsD (H : Hp) (a : Addr) : Prop := (∃ kvs, Rd H a (.dK kvs)) ∨ ∃ kvs, Rd H a (.dT kvs)
theorem isD_at {X : Cx} {pins : List (Addr × Obj)} {σ : St} {H : Hp} {s : Shared} {a : Addr} (I : Inv X pins σ H s) (d : IsD H a) :
    s.TypeIs (.ref a) "dict" ∧ (∀ b, Value.ref a = .ref b → ∃ ob, s.heap.get? b = some ob ∧ ob.dict = none) ∧ (a == sysModules) = false := by
  rcases d with ⟨kvs, e⟩ | ⟨kvs, e⟩
  · obtain ⟨_, hd, vs, _, dd⟩ := dk_rd I.hok e
    refine ⟨dd.typeIs, fun b q => ?_, hd⟩
    cases q
    obtain ⟨ob, _, _, h1, h2, _⟩ := dd
    exact ⟨ob, h1, h2.2.1⟩
  · obtain ⟨_, hd, xs, _, dd⟩ := dt_rd I.hok e
    refine ⟨dd.typeIs, fun b q => ?_, hd⟩
    cases q
    obtain ⟨ob, _, _, h1, h2, _⟩ := dd
    exact ⟨ob, h1, h2.2.1⟩
section
variable {X : Cx} {pins : List (Addr × Obj)} {σ : St} {H : Hp} {s : Shared} {a : Addr} {y d : V} {u r : Value} {o : Option V} {A : Around} {E : Value → Shared → Prop}
theorem d_get2 {Q : Value → Shared → Prop} (hu : A.units + 1 < cLine) (I : Inv X pins σ H s) (g : DGet H a y o) (ry : RelV y u) (rd : RelV d r) (h : ∀ w' s', Inv X pins σ H s' → RelV (o.getD d) w' → Q w' s') :
    wpAny (model X.prog X.w) A (call (.builtin "dict.get") [.ref a, u, r]) Q E s := by
  rcases g with ⟨kvs, k, e, ey, l⟩ | ⟨kvs, k, b, e, ey, eb, l⟩
  · subst ey
    obtain ⟨z, hd, vs, rel, dd⟩ := dk_rd I.hok e
    refine call_meetsIn PySem.F.slot_dict_get dd.typeIs PySem.F.entry_dict_get (PySem.F.args_dict_get_3 _ _ _) (meets_dict_get_default (mixKind X.prog X.w) a (kV_is ry) hd r) ⟨_, dd.mapOf, h _ _ (I.tok _) ?_⟩
    rw [l]
    exact (rel.val k).getD rd
  · subst ey
    cases (show u = Value.ref b from ry)
    obtain ⟨z, hd, xs, rel, dd⟩ := dt_rd I.hok e
    refine call_meetsIn PySem.F.slot_dict_get dd.typeIs PySem.F.entry_dict_get (PySem.F.args_dict_get_3 _ _ _) (meetsH_dict_get_default (tupleKind (mixKind X.prog X.w)) a b hd r) ⟨tupleKind_room_in1 hu, k, xs, key_of I.hok eb, dd, h _ _ (I.tok _) ?_⟩
    rw [l]
    exact (rel.val k).getD rd
end

noncomputable def tDGet2 (td ty tx : TE) : TE := fun σ H Q => td σ H fun x H1 => ∃ a, x = .ref a ∧ IsD H1 a ∧ ty σ H1 fun y H2 => tx σ H2 fun z H3 => ∃ o, DGet H3 a y o ∧ Q (o.getD z) H3
section
variable {X : Cx} {o e f : Expr} {apos cpos : Pos} {td ty tx : TE}
theorem pe_dget2 (hu : X.A.units + 1 < cLine) (ho : PE X o td) (he : PE X e ty) (hf : PE X f tx) (m : M2 X o "get" apos e f cpos) : PE X (.Call (.Attribute o "get" apos) [e, f] [] cpos) (tDGet2 td ty tx) := by
  intro pins s σ H Q I h
  refine wpAny_Call_method m.base m.few m.line PySem.F.plainAttrs_dict PySem.F.slot_dict_get PySem.F.type_dict_get (thn (ho pins s σ H _ I h) fun u s1 zz9 => ?_)
  obtain ⟨x, H1, I1, rx, a, ex, d, q1⟩ := zz9
  subst ex
  obtain rfl : u = Value.ref a := rx
  obtain ⟨t1, t2, _⟩ := isD_at I1 d
  refine ⟨t1, t2, ?_⟩
  rw [m.trees]
  refine Calls.callWith_builtin rfl (Calls.evalArgs_plain (Calls.spliced_cons (thn (he pins s1 σ H1 _ I1 q1) fun iv s2 ⟨y, H2, I2, ry, q2⟩ =>
    Calls.spliced_cons (thn (hf pins s2 σ H2 _ I2 q2) fun fv s3 ⟨z, H3, I3, rz, ov, g, q3⟩ => Calls.spliced_nil ?_))))
  exact d_get2 hu I3 g ry rz fun w' s4 I4 rw' => ⟨_, H3, I4, rw', q3⟩
end

section
variable {X : Cx} {pins : List (Addr × Obj)} {σ : St} {H : Hp} {s : Shared} {a : Addr} {kvs : List (Key × V)} {A : Around} {E : Value → Shared → Prop}
end


section
variable {X : Cx} {pins : List (Addr × Obj)} {σ : St} {H : Hp} {s : Shared} {a : Addr} {y : V} {u : Value} {A : Around} {E : Value → Shared → Prop}
end
end L2

namespace HT
open PySem PyProof.Rows

section
open PySem.SeqAt
open PySem.AutoSeq1 (wpAny_loadPart')
open PySem.MeetsSeq PySem.MeetsSeq2 PySem.MeetsSeq3

end

section
variable {prog : Program} {w : World} {A : Around} {E : Value → Shared → Prop} {s : Shared}

end
end HT

namespace L2
open PySem PySem.Spec PyProof.Rows

noncomputable abbrev TO := St → Hp → (Option Int → Hp → Prop) → Prop
noncomputable def PO (X : Cx) (e : Option Expr) (t : TO) : Prop :=
  ∀ (pins : List (Addr × Obj)) (s : Shared) (σ : St) (H : Hp) (Q : Option Int → Hp → Prop), Inv X pins σ H s → t σ H Q →
    wpAny (model X.prog X.w) X.A (evalPart e X.env) (fun u s' => ∃ o H', Inv X pins σ H' s' ∧ IsPart u o ∧ Q o H') X.xe s
noncomputable def tNoPart : TO := fun _ H Q => Q none H
noncomputable def tPart (t : TE) : TO := fun σ H Q => t σ H fun x H1 => ∃ i, x = .int i ∧ Q (some i) H1
theorem intsAre_of {ns : List Int} : ∀ {us : List Value}, Vals (ns.map V.int) us → IntsAre us ns := by
  induction ns with
  | nil => intro us r; rw [List.map_nil] at r; cases r; exact .nil
  | cons n ns ih =>
    intro us r
    rw [List.map_cons] at r
    cases r with
    | cons r1 r2 =>
      obtain ⟨t, e⟩ := r1
      subst e
      exact .cons n t (ih r2)
section
variable {X : Cx} {e : Expr} {te : TE} {lo hi : Option Expr} {tl th : TO} {pos p2 : Pos}

theorem po_none : PO X none tNoPart := by
  intro pins s σ H Q I h
  rw [evalPart_none]
  exact wpAny_pure ⟨none, H, I, .none, h⟩
theorem po_some (h : PE X e te) : PO X (some e) (tPart te) := by
  intro pins s σ H Q I hw
  rw [evalPart_some]
  refine thn (h pins s σ H _ I hw) fun u s1 zz9 => ?_
  obtain ⟨x, H1, I1, r1, q1⟩ := zz9
  obtain ⟨i, rfl, q⟩ := q1
  obtain ⟨t, rfl⟩ := r1
  exact ⟨some i, H1, I1, .int i t, q⟩
noncomputable def SlR (X : Cx) (r : V → Option Int → Option Int → Hp → VK → Prop) : Prop :=
  ∀ (pins : List (Addr × Obj)) (s : Shared) (σ : St) (H : Hp) (x : V) (v vl vu : Value) (lo hi : Option Int) (sl : Addr) (Q : VK), Inv X pins σ H s → RelV x v → s.heap.IsSliceOf sl vl vu .none → IsPart vl lo → IsPart vu hi → r x lo hi H Q →
    ∃ T id, typeLookup (.type T) "__getitem__" = pure (some (.builtin id)) ∧ s.TypeIs v T ∧ wpAny (model X.prog X.w) X.A (getItem v (.ref sl)) (EP X pins σ Q) X.xe s
theorem SlR.or {r r' : V → Option Int → Option Int → Hp → VK → Prop} (h : SlR X r) (h' : SlR X r') : SlR X (fun x lo hi H Q => r x lo hi H Q ∨ r' x lo hi H Q) := by
  intro pins s σ H x v vl vu lo hi sl Q I rx hs pl pu q
  rcases q with q | q
  · exact h pins s σ H x v vl vu lo hi sl Q I rx hs pl pu q
  · exact h' pins s σ H x v vl vu lo hi sl Q I rx hs pl pu q
noncomputable def tSl (r : V → Option Int → Option Int → Hp → VK → Prop) (te : TE) (tl th : TO) : TE := fun σ H Q => te σ H fun x H1 => tl σ H1 fun l H2 => th σ H2 fun u H3 => r x l u H3 Q
theorem pe_slice {r : V → Option Int → Option Int → Hp → VK → Prop} (hr : SlR X r) (he : PE X e te) (hl : PO X lo tl) (hu : PO X hi th) : PE X (.Subscript e (.Slice lo hi none p2) pos) (tSl r te tl th) := by
  intro pins s σ H Q I h
  refine Subscript_ (thn (he pins s σ H _ I h) fun v s1 zz9 => ?_)
  obtain ⟨x, H1, I1, r1, q1⟩ := zz9
  refine wpAny_Slice (thn (hl pins s1 σ H1 _ I1 q1) fun vl s2 ⟨l, H2, I2, pl, q2⟩ => thn (hu pins s2 σ H2 _ I2 q2) fun vu s3 zz9 => ?_)
  obtain ⟨u, H3, I3, pu, q3⟩ := zz9
  rw [evalPart_none]
  refine wpAny_pure ?_
  have I4 : Inv X pins σ H3 { s3 with heap := s3.heap.push { cls := .type "slice", data := .fields #[vl, vu, .none] } } := I3.kept (t' := s3.toks) fun b ob q => Heap.get?_push_of_some _ q
  obtain ⟨T, id, hT, ht, hg⟩ := hr pins { s3 with heap := s3.heap.push { cls := .type "slice", data := .fields #[vl, vu, .none] } } σ H3 x v vl vu l u s3.heap.objs.size Q I4 r1 (Heap.IsSliceOf.new ..) pl pu q3
  show wpAny (model X.prog X.w) X.A (subscriptTail e (.Slice lo hi none p2) v (.ref s3.heap.objs.size)) (EP X pins σ Q) X.xe { s3 with heap := s3.heap.push { cls := .type "slice", data := .fields #[vl, vu, .none] } }
  exact tail_any (ops := [.ref s3.heap.objs.size, v]) ht hT hg (by with_unfolding_all rfl)
end
end L2

namespace L2
open PySem PySem.Spec PyProof.Rows

noncomputable def ixN (n : Nat) (i : Int) : Option Nat := if 0 ≤ i then (if i < n then some i.toNat else none) else if -(n : Int) ≤ i then some (i + n).toNat else none
noncomputable def atI {α : Type} (xs : List α) (i : Int) : Option α := (ixN xs.length i).bind fun j => xs[j]?
theorem ixN_seq {n : Nat} {i : Int} {j : Nat} (h : ixN n i = some j) : seqIndex? i n = some j ∧ j < n ∧ -(n : Int) ≤ i ∧ i < n := by
  unfold ixN at h
  by_cases h0 : 0 ≤ i
  · rw [if_pos h0] at h
    by_cases h1 : i < n
    · rw [if_pos h1] at h
      have e : i.toNat = j := Option.some.inj h
      exact ⟨by rw [seqIndex_of h0 h1, e], by omega, by omega, h1⟩
    · rw [if_neg h1] at h; cases h
  · rw [if_neg h0] at h
    by_cases h1 : -(n : Int) ≤ i
    · rw [if_pos h1] at h
      have e : (i + n).toNat = j := Option.some.inj h
      exact ⟨by rw [seqIndex_neg (by omega) h1, e], by omega, h1, by omega⟩
    · rw [if_neg h1] at h; cases h
theorem atI_get {α : Type} {xs : List α} {i : Int} {v : α} (h : atI xs i = some v) : ∃ j, seqIndex? i xs.length = some j ∧ xs[j]? = some v ∧ j < xs.length ∧ -(xs.length : Int) ≤ i ∧ i < xs.length := by
  unfold atI at h
  cases e : ixN xs.length i with
  | none => rw [e] at h; cases h
  | some j =>
    rw [e] at h
    obtain ⟨h1, h2, h3, h4⟩ := ixN_seq e
    exact ⟨j, h1, h, h2, h3, h4⟩
theorem atI_nat {α : Type} {xs : List α} {j : Nat} {v : α} (h : xs[j]? = some v) : atI xs (j : Int) = some v := by
  have hj : j < xs.length := (List.getElem?_eq_some_iff.mp h).1
  have e : ixN xs.length (j : Int) = some j := by
    unfold ixN
    rw [if_pos (by omega), if_pos (by omega)]; simp
  unfold atI; rw [e]; exact h
noncomputable def PlainIx (b : Expr) : Prop := ∀ o i, subscripted b false o i = operate [o, i] (getItem o i)
noncomputable def IxR (X : Cx) (r : R2) : Prop :=
  ∀ (value slice : Expr) (pins : List (Addr × Obj)) (s : Shared) (σ : St) (H : Hp) (x y : V) (v u : Value) (Q : VK), Inv X pins σ H s → RelV x v → RelV y u → r x y H Q →
    subscripted slice false v u = operate [v, u] (getItem v u) → wpAny (model X.prog X.w) X.A (subscriptTail value slice v u) (EP X pins σ Q) X.xe s
noncomputable def MtR (X : Cx) (id : String) (r : V → List V → Hp → VK → Prop) : Prop :=
  ∀ (pins : List (Addr × Obj)) (s : Shared) (σ : St) (H : Hp) (x : V) (xs : List V) (v : Value) (us : List Value) (Q : VK), Inv X pins σ H s → RelV x v → Vals xs us → r x xs H Q →
    wpAny (model X.prog X.w) X.A (call (.builtin id) (v :: us)) (EP X pins σ Q) X.xe s
section
variable {X : Cx} {a b : Expr} {ta tb : TE} {pos : Pos}
theorem IxR.or {r r' : R2} (h : IxR X r) (h' : IxR X r') : IxR X (fun x y H Q => r x y H Q ∨ r' x y H Q) := by
  intro value slice pins s σ H x y v u Q I rx ry q hs
  rcases q with q | q
  · exact h value slice pins s σ H x y v u Q I rx ry q hs
  · exact h' value slice pins s σ H x y v u Q I rx ry q hs
theorem MtR.or {id : String} {r r' : V → List V → Hp → VK → Prop} (h : MtR X id r) (h' : MtR X id r') : MtR X id (fun x xs H Q => r x xs H Q ∨ r' x xs H Q) := by
  intro pins s σ H x xs v us Q I rx rs q
  rcases q with q | q
  · exact h pins s σ H x xs v us Q I rx rs q
  · exact h' pins s σ H x xs v us Q I rx rs q
theorem pe_ix {r : R2} (hr : IxR X r) (ha : PE X a ta) (hb : PE X b tb) (hs : PlainIx b) : PE X (.Subscript a b pos) (tOp r ta tb) := by
  intro pins s σ H Q I h
  exact Subscript_ (binT ha hb I h fun v u s2 x y H2 I2 rx ry q => hr a b pins s2 σ H2 x y v u Q I2 rx ry q (hs _ _))
noncomputable def rIxL (K : PySem.W.Frag) : R2 := fun x y H Q => ∃ p xs i v, x = .ref p ∧ y = .int i ∧ SqL K H p xs ∧ atI xs i = some v ∧ Q v H
noncomputable def rIxT (K : PySem.W.Frag) : R2 := fun x y H Q => ∃ p xs i v, x = .ref p ∧ y = .int i ∧ SqT K H p xs ∧ atI xs i = some v ∧ Q v H
noncomputable def rIxS : R2 := fun x y H Q => ∃ z i c, x = .str z ∧ y = .int i ∧ z.length ≤ sizeLine ∧ atI z.cps.toList i = some c ∧ Q (.str ⟨#[c]⟩) H
theorem ix_list : IxR X (rIxL X.K) := by
  intro value slice pins s σ H x y v u Q I rx ry h hs
  obtain ⟨p, xs, i, z, rfl, rfl, hq, he, q⟩ := h
  cases rx
  obtain ⟨t, rfl⟩ := ry
  obtain ⟨its, r, pl, hz⟩ := I.list hq
  obtain ⟨j, h1, h2, h3, h4, h5⟩ := atI_get he
  obtain ⟨w, ew, rw'⟩ := r.get h2
  have hl := r.length
  have hn := line63
  have fin : EP X pins σ Q w s := ⟨z, H, I, rw', q⟩
  by_cases h0 : 0 ≤ i
  · have hj : i.toNat = j := by
      rw [seqIndex_of h0 h5] at h1
      exact Option.some.inj h1
    exact item_listR pl.isList h0 (by omega) (by rw [hj]; simpa using ew) fin hs
  · have hj : (i + (its.toArray.size : Int)).toNat = j := by
      rw [seqIndex_neg (by omega) h4] at h1
      rw [List.size_toArray, ← hl]
      exact Option.some.inj h1
    exact subscriptTail_builtinR (x := w) pl.isList.typeIs slot_list_getitem.lookup
      (wpAny_getItem_list_neg (Q := fun r s' => r = w ∧ EP X pins σ Q r s') pl.isList (by omega) (by rw [List.size_toArray] <;> omega) (by omega) (by rw [hj]; simpa using ew) ⟨rfl, fin⟩) hs
theorem ix_tup : IxR X (rIxT X.K) := by
  intro value slice pins s σ H x y v u Q I rx ry h hs
  obtain ⟨p, xs, i, z, rfl, rfl, hq, he, q⟩ := h
  cases rx
  obtain ⟨t, rfl⟩ := ry
  obtain ⟨its, r, pl, hz⟩ := I.tuple hq
  obtain ⟨j, h1, h2, h3, h4, h5⟩ := atI_get he
  obtain ⟨w, ew, rw'⟩ := r.get h2
  have hl := r.length
  have hn := line63
  have fin : EP X pins σ Q w s := ⟨z, H, I, rw', q⟩
  exact subscriptTail_builtinR (x := w) pl.typeIs slot_tuple_getitem.lookup
    (getItem_tuple (j := j) (Q := fun r s' => r = w ∧ EP X pins σ Q r s') pl (by omega) (by omega) (by rw [List.size_toArray, ← hl]; exact h1) (by simpa using ew) ⟨rfl, fin⟩) hs
theorem ix_str : IxR X rIxS := by
  intro value slice pins s σ H x y v u Q I rx ry h hs
  obtain ⟨z, i, c, rfl, rfl, hz, he, q⟩ := h
  obtain ⟨t, rfl⟩ := rx
  obtain ⟨t', rfl⟩ := ry
  obtain ⟨j, h1, h2, h3, h4, h5⟩ := atI_get he
  have hl : z.cps.toList.length = z.length := by simp [Str.length]
  rw [hl] at h1 h4 h5
  have hn := line63
  exact tail_any (typeIs_str s z t) slot_str_getitem.lookup (getItem_str (c := c) (by
    have e1 : decide (i < -(2 ^ 63 : Int)) = false := decide_eq_false (by omega)
    have e2 : decide (i ≥ 2 ^ 63) = false := decide_eq_false (by omega)
    rw [e1, e2, Bool.or_false]) (by rw [h1]; simpa using h2) ⟨.str ⟨#[c]⟩, H, I.tok _, ⟨_, rfl⟩, q⟩) hs
theorem mapSeq_set (its : List Value) (n j : Nat) (u : Value) : Obj.mapSeq (·.setIfInBounds j u) { cls := .type "list", data := .seq its.toArray n } = { cls := .type "list", data := .seq (its.set j u).toArray n } := by
  simp [Obj.mapSeq]
theorem Inv.lst {pins : List (Addr × Obj)} {σ : St} {H : Hp} {s : Shared} {p : Addr} {xs : List V} (I : Inv X pins σ H s) (h : H p = some (.lst xs)) :
    ∃ (its : List Value) (n : Nat), Vals xs its ∧ s.heap.get? p = some { cls := .type "list", data := .seq its.toArray n } ∧ xs.length ≤ sizeLine := by
  obtain ⟨z, its, n, r, e⟩ := I.hok p _ h
  exact ⟨its, n, r, e, z⟩
theorem Inv.lstUpd {pins : List (Addr × Obj)} {σ : St} {H : Hp} {s : Shared} {p : Addr} {xs ys : List V} {its its' : List Value} {n n' : Nat} {f : Obj → Obj} (I : Inv X pins σ H s) (h : H p = some (.lst xs))
    (ho : s.heap.get? p = some { cls := .type "list", data := .seq its.toArray n }) (hf : f { cls := .type "list", data := .seq its.toArray n } = { cls := .type "list", data := .seq its'.toArray n' }) (r : Vals ys its') (hz : ys.length ≤ sizeLine) (t : Nat) :
    Inv X pins σ (upd H p (.lst ys)) { s with heap := s.heap.update p f, toks := t } := by
  have e : (s.heap.update p f).get? p = some { cls := .type "list", data := .seq its'.toArray n' } := by
    rw [Heap.get?_update_self f ho (by rw [hf] <;> rfl), hf]
  refine I.write (x := p) (e := p) (by rw [h]; trivial) (.inl rfl) (fun b u hb q => (Heap.get?_update_other _ _ (Ne.symm hb)).trans q) ⟨_, e⟩ ?_
  exact ⟨hz, its', n', r, e⟩
noncomputable def rSetL : V → V → V → Hp → (Hp → Prop) → Prop := fun o i v H Q => ∃ p xs k j, o = .ref p ∧ i = .int k ∧ H p = some (.lst xs) ∧ ixN xs.length k = some j ∧ Q (upd H p (.lst (xs.set j v)))
theorem set_list : PSet X rSetL := by
  intro pins s σ H o i v ov iv u Q I ro ri rv h
  obtain ⟨p, xs, k, j, rfl, rfl, hp, hj, q⟩ := h
  cases ro
  obtain ⟨t, rfl⟩ := ri
  obtain ⟨its, n, r, ho, hz⟩ := I.lst hp
  obtain ⟨h1, h2, h3, h4⟩ := ixN_seq hj
  have hl := r.length
  have hn := line63
  have I' : Inv X pins σ (upd H p (.lst (xs.set j v))) { s with heap := s.heap.update p (Obj.mapSeq (·.setIfInBounds j u)) } :=
    I.lstUpd hp ho (mapSeq_set its n j u) (r.set rv j) (by rw [List.length_set]; exact hz) s.toks
  by_cases h0 : 0 ≤ k
  · have hk : k.toNat = j := by
      rw [seqIndex_of h0 h4] at h1
      exact Option.some.inj h1
    exact PySem.W.ki_setAt ho h0 (by omega) (by rw [List.size_toArray, ← hl]; exact h4) (by rw [hk]; exact ⟨_, I', q⟩)
  · have hk : (k + (its.toArray.size : Int)).toNat = j := by
      rw [seqIndex_neg (by omega) h3] at h1
      rw [List.size_toArray, ← hl]
      exact Option.some.inj h1
    exact PySem.W.ki_setBack ho (by omega) (by rw [List.size_toArray, ← hl]; exact h3) (by omega) (by rw [hk]; exact ⟨_, I', q⟩)
noncomputable def flatV : V → Bool
  | .non => true
  | .bl _ => true
  | .int _ => true
  | .str _ => true
  | _ => false
noncomputable def eqV : V → V → Bool
  | .non, .non => true
  | .bl a, .bl b => a == b
  | .bl a, .int b => (if a then 1 else 0) == b
  | .int a, .bl b => a == (if b then 1 else 0)
  | .int a, .int b => a == b
  | .str a, .str b => a == b
  | _, _ => false
theorem eqAt_V {A : Around} {s : Shared} {y x : V} {u v : Value} (ry : RelV y u) (rx : RelV x v) (fy : flatV y = true) (fx : flatV x = true) : SeqAt.EqAt A s u v (eqV y x) := by
  cases y with
  | non =>
    cases ry
    cases x with
    | non => cases rx; exact SeqAt.EqAt.same _
    | bl b => cases rx; exact SeqAt.EqAt.none_bool b
    | int b => obtain ⟨t, rfl⟩ := rx; exact SeqAt.EqAt.none_int b t
    | str b => obtain ⟨t, rfl⟩ := rx; exact SeqAt.EqAt.none_str b t
    | _ => exact absurd (show false = true from fx) Bool.false_ne_true
  | bl a =>
    cases ry
    cases x with
    | non => cases rx; exact SeqAt.EqAt.bool_none a
    | bl b => cases rx; exact SeqAt.EqAt.bool_bool a b
    | int b => obtain ⟨t, rfl⟩ := rx; exact SeqAt.EqAt.bool_int a b t
    | str b => obtain ⟨t, rfl⟩ := rx; exact SeqAt.EqAt.bool_str a b t
    | _ => exact absurd (show false = true from fx) Bool.false_ne_true
  | int a =>
    obtain ⟨t', rfl⟩ := ry
    cases x with
    | non => cases rx; exact SeqAt.EqAt.int_none a t'
    | bl b => cases rx; exact SeqAt.EqAt.int_bool a t' b
    | int b => obtain ⟨t, rfl⟩ := rx; exact SeqAt.EqAt.int_int a t' b t
    | str b => obtain ⟨t, rfl⟩ := rx; exact SeqAt.EqAt.int_str a t' b t
    | _ => exact absurd (show false = true from fx) Bool.false_ne_true
  | str a =>
    obtain ⟨t', rfl⟩ := ry
    cases x with
    | non => cases rx; exact SeqAt.EqAt.str_none a t'
    | bl b => cases rx; exact SeqAt.EqAt.str_bool a t' b
    | int b => obtain ⟨t, rfl⟩ := rx; exact SeqAt.EqAt.str_int a t' b t
    | str b => obtain ⟨t, rfl⟩ := rx; exact SeqAt.EqAt.str_str a t' b t
    | _ => exact absurd (show false = true from fx) Bool.false_ne_true
  | _ => exact absurd (show false = true from fy) Bool.false_ne_true
noncomputable def eqU (x : V) (u : Value) : Bool := match u with
  | .none => eqV .non x
  | .bool b => eqV (.bl b) x
  | .int i _ => eqV (.int i) x
  | .str z _ => eqV (.str z) x
  | _ => false
theorem eqU_of {x y : V} {u : Value} (r : RelV y u) (f : flatV y = true) : eqU x u = eqV y x := by
  cases y with
  | non => cases r; rfl
  | bl b => cases r; rfl
  | int i => obtain ⟨t, rfl⟩ := r; rfl
  | str z => obtain ⟨t, rfl⟩ := r; rfl
  | _ => exact absurd (show false = true from f) Bool.false_ne_true
theorem any_eqU {x : V} : ∀ {xs : List V} {us : List Value}, Vals xs us → xs.all flatV = true → us.any (eqU x) = xs.any fun y => eqV y x
  | _, _, .nil, _ => rfl
  | y :: xs, u :: us, .cons r t, f => by
    rw [List.all_cons, Bool.and_eq_true] at f
    rw [List.any_cons, List.any_cons, eqU_of r f.1, any_eqU t f.2]
theorem mem_eqAt {A : Around} {s : Shared} {x : V} {v : Value} (rx : RelV x v) (fx : flatV x = true) : ∀ {xs : List V} {us : List Value}, Vals xs us → xs.all flatV = true → ∀ u ∈ us, SeqAt.EqAt A s u v (eqU x u)
  | _, _, .nil, _ => fun u hu => by cases hu
  | y :: xs, u :: us, .cons r t, f => fun u' hu => by
    rw [List.all_cons, Bool.and_eq_true] at f
    rcases List.mem_cons.mp hu with rfl | hu
    · rw [eqU_of r f.1]; exact eqAt_V r rx f.1 fx
    · exact mem_eqAt rx fx t f.2 u' hu
noncomputable def inV (x : V) (xs : List V) : Bool := xs.any fun y => eqV y x
noncomputable def rIn (K : PySem.W.Frag) (neg : Bool) : R2 := fun x y H Q => ∃ p xs, y = .ref p ∧ (SqL K H p xs ∨ SqT K H p xs) ∧ flatV x = true ∧ xs.all flatV = true ∧ Q (.bl (if neg then !inV x xs else inV x xs)) H
theorem op_in_seq : OpR X (compareOp .In) (rIn X.K false) := by
  intro pins s σ H x y v u Q I rx ry h
  obtain ⟨p, xs, rfl, hq, fx, fs, q⟩ := h
  cases ry
  rcases hq with hq | hq
  · obtain ⟨its, r, pl, hz⟩ := I.list hq
    refine SeqAt.in_listAt (eqU x) pl.isList (fun w hw => mem_eqAt rx fx r fs w (by simpa using hw)) ⟨.bl _, H, I, rfl, ?_⟩
    rw [show its.toArray.any (eqU x) = its.any (eqU x) by simp, any_eqU r fs]
    exact q
  · obtain ⟨its, r, pl, hz⟩ := I.tuple hq
    refine SeqAt.in_tupleAt (eqU x) pl (fun w hw => mem_eqAt rx fx r fs w (by simpa using hw)) ⟨.bl _, H, I, rfl, ?_⟩
    rw [show its.toArray.any (eqU x) = its.any (eqU x) by simp, any_eqU r fs]
    exact q
theorem op_notIn_seq : OpR X (compareOp .NotIn) (rIn X.K true) := by
  intro pins s σ H x y v u Q I rx ry h
  obtain ⟨p, xs, rfl, hq, fx, fs, q⟩ := h
  cases ry
  rcases hq with hq | hq
  · obtain ⟨its, r, pl, hz⟩ := I.list hq
    refine SeqAt.notIn_listAt (eqU x) pl.isList (fun w hw => mem_eqAt rx fx r fs w (by simpa using hw)) ⟨.bl _, H, I, rfl, ?_⟩
    rw [show its.toArray.any (eqU x) = its.any (eqU x) by simp, any_eqU r fs]
    exact q
  · obtain ⟨its, r, pl, hz⟩ := I.tuple hq
    refine SeqAt.notIn_tupleAt (eqU x) pl (fun w hw => mem_eqAt rx fx r fs w (by simpa using hw)) ⟨.bl _, H, I, rfl, ?_⟩
    rw [show its.toArray.any (eqU x) = its.any (eqU x) by simp, any_eqU r fs]
    exact q
theorem CallR.or {f : Value} {r r' : List V → Hp → VK → Prop} (h : CallR X f r) (h' : CallR X f r') : CallR X f (fun xs H Q => r xs H Q ∨ r' xs H Q) := by
  intro pins s σ H xs us Q I rs q
  rcases q with q | q
  · exact h pins s σ H xs us Q I rs q
  · exact h' pins s σ H xs us Q I rs q
theorem call_list_of : CallR X (.type "list") (fun xs H Q => ∃ p ys, xs = [.ref p] ∧ (SqL X.K H p ys ∨ SqT X.K H p ys) ∧ ∀ l, H l = none → Q (.ref l) (upd H l (.lst ys))) := by
  intro pins s σ H xs us Q I r h
  obtain ⟨p, ys, rfl, hq, q⟩ := h
  obtain ⟨u, rfl, rx⟩ := vals1 r
  cases rx
  have fin : ∀ (its : List Value), Vals ys its → ys.length ≤ sizeLine → ∀ (h' : Heap) (c' : Nat), (∀ b o', s.heap.get? b = some o' → h'.get? b = some o') →
      h'.get? s.heap.objs.size = some { cls := .type "list", dict := none, data := .seq its.toArray c', slots := #[] } → EP X pins σ Q (.ref s.heap.objs.size) { s with heap := h' } := fun its r' hz h' c' kp e =>
    ⟨.ref s.heap.objs.size, _, I.laid (t' := s.toks) kp (Nat.le_refl _) (show ObjOk X.prog X.w _ h' _ (.lst ys) from ⟨hz, its, c', r', e⟩), rfl, q _ (I.hok.fresh (Nat.le_refl _))⟩
  rcases hq with hq | hq
  · obtain ⟨its, r', pl, hz⟩ := I.list hq
    have hlen := r'.length
    obtain ⟨o, ho, hc, n, hd⟩ := pl.isList
    exact call_list_seq p (.inl rfl) ho hc hd (fun h' c' kp e => fin its r' hz h' c' kp e) (by simp only [List.size_toArray] <;> omega)
  · obtain ⟨its, r', pl, hz⟩ := I.tuple hq
    have hlen := r'.length
    obtain ⟨o, ho, hc, n, hd⟩ := pl
    exact call_list_seq p (.inr rfl) ho hc hd (fun h' c' kp e => fin its r' hz h' c' kp e) (by simp only [List.size_toArray] <;> omega)
noncomputable def tyV (K : PySem.W.Frag) (T : String) (x : V) (H : Hp) : Prop := match x with
  | .str _ => T = "str"
  | .int _ => T = "int"
  | .ref p => (T = "list" ∧ ∃ xs, SqL K H p xs) ∨ (T = "tuple" ∧ ∃ o, K.lookup p = some o ∧ o.cls = .type "tuple" ∧ o.dict = none) ∨
      (T = "dict" ∧ ((∃ kvs, H p = some (.dK kvs)) ∨ ∃ kvs, H p = some (.dT kvs))) ∨ (T = "set" ∧ ∃ S n, H p = some (.set S n))
  | _ => False
theorem tyV_is {pins : List (Addr × Obj)} {σ : St} {H : Hp} {s : Shared} {T : String} {x : V} {v : Value} (I : Inv X pins σ H s) (r : RelV x v) (ty : tyV X.K T x H) :
    s.TypeIs v T ∧ ∀ a, v = .ref a → ∃ ob, s.heap.get? a = some ob ∧ ob.dict = none := by
  cases x with
  | str z =>
    obtain ⟨t, rfl⟩ := r
    cases (show T = "str" from ty)
    exact ⟨typeIs_str s z t, fun _ e => nomatch e⟩
  | int i =>
    obtain ⟨t, rfl⟩ := r
    cases (show T = "int" from ty)
    exact ⟨typeIs_int s i t, fun _ e => nomatch e⟩
  | ref p =>
    cases r
    rcases ty with ⟨rfl, xs, hq⟩ | ⟨rfl, o, hk, hc, hd⟩ | ⟨rfl, hk⟩ | ⟨rfl, S, n, hk⟩
    · obtain ⟨its, _, pl, _⟩ := I.list hq
      refine ⟨pl.isList.typeIs, fun a e => ?_⟩
      cases e
      obtain ⟨o, n, e, c, hd, _⟩ := pl
      exact ⟨o, e, hd⟩
    · refine ⟨⟨o, I.kIn p o hk, hc⟩, fun a e => ?_⟩
      cases e
      exact ⟨o, I.kIn _ o hk, hd⟩
    · have z : ∃ o, s.heap.get? p = some o ∧ o.ExactDict := by
        rcases hk with ⟨kvs, hk⟩ | ⟨kvs, hk⟩
        · obtain ⟨_, _, _, _, o, _, _, e, ex, _⟩ := I.hok p _ hk
          exact ⟨o, e, ex⟩
        · obtain ⟨_, _, _, _, o, _, _, e, ex, _⟩ := I.hok p _ hk
          exact ⟨o, e, ex⟩
      obtain ⟨o, e, ex⟩ := z
      refine ⟨⟨o, e, ex.1⟩, fun a e2 => ?_⟩
      cases e2
      exact ⟨o, e, ex.2.1⟩
    · obtain ⟨o, _, _, _, e, ex, _⟩ := I.hok p _ hk
      refine ⟨⟨o, e, ex.1⟩, fun a e2 => ?_⟩
      cases e2
      exact ⟨o, e, ex.2.1⟩
  | _ => exact False.elim ty
noncomputable def tBM (K : PySem.W.Frag) (T : String) (r : V → List V → Hp → VK → Prop) (to : TE) (t : TA) : TE := fun σ H Q => to σ H fun x H1 => tyV K T x H1 ∧ t σ H1 fun xs H2 => r x xs H2 Q
variable {o e : Expr} {es : List Expr} {to : TE} {t : TA} {name : Str} {apos cpos : Pos} {T id : String} {r : V → List V → Hp → VK → Prop}
theorem pe_bm (pa : PlainAttrs T) (slot : Slot T name id) (hty : typeOf (.builtin id) = pure (.type "method_descriptor")) (hm : MtR X id r) (ho : PE X o to) (ha : PA X (e :: es) t)
    (hbase : attributeBase o name X.env (eval o X.env) = eval o X.env := by rfl)
    (hfew : ((backTo cpos (starEach (e :: es) X.env)).all (fun x => !x.1) && (backToKw cpos (keywordEach [] X.env)).all (fun x => x.1.isSome)
      && decide ((e :: es).length + ([] : List Keyword).length + (if ([] : List Keyword).isEmpty then 0 else 1) < 30)) = true := by rfl)
    (hline : (apos.endLine == cpos.line) = true := by rfl) (hs : starEach (e :: es) X.env = (false, eval e X.env) :: starEach es X.env := by rfl) (hplain : (backTo cpos (starEach es X.env)).any (·.1) = false := by rfl) :
    PE X (.Call (.Attribute o name apos) (e :: es) [] cpos) (tBM X.K T r to t) := by
  intro pins s σ H Q I h
  refine wpAny_Call_method_late hbase hfew hline rfl (thn (ho pins s σ H _ I h) fun v s1 zz9 => ?_)
  obtain ⟨x, H1, I1, r1, ty, q1⟩ := zz9
  obtain ⟨h1, h2⟩ := tyV_is I1 r1 ty
  refine ⟨T, id, pa, slot, hty, h1, h2, ?_⟩
  have hA := ha cpos pins s1 σ H1 _ I1 q1
  rw [hs] at hA ⊢
  refine Calls.callWith_builtin (by show (false || (backTo cpos (starEach es X.env)).any (·.1)) = false; rw [hplain] <;> rfl) (Calls.evalArgs_plain ?_)
  exact thn hA fun us s2 ⟨vs, H2, I2, r2, q2⟩ => hm pins s2 σ H2 x vs v us Q I2 r1 r2 q2
/- xs.append(e), list.index on a module's tuple .. are MtR facts of 06m -/
end
end L2

namespace L2
open PySem PySem.Spec PyProof.Rows

noncomputable def MtM (X : Cx) (id : String) (r : V → List V → Hp → VK → Prop) : Prop :=
  ∀ (pins : List (Addr × Obj)) (s : Shared) (σ : St) (H : Hp) (x : V) (xs : List V) (v : Value) (us : List Value) (Q : VK), Inv X pins σ H s → RelV x v → Vals xs us → r x xs H Q →
    wpAny (model X.prog X.w) X.A (call (.builtin id) (v :: us)) (EP X pins σ Q) X.xe s
theorem Vals.one : ∀ {x : V} {us : List Value}, Vals [x] us → ∃ u, us = [u] ∧ RelV x u
  | _, _, .cons r .nil => ⟨_, rfl, r⟩
theorem Vals.zero : ∀ {us : List Value}, Vals [] us → us = []
  | _, .nil => rfl
section
variable {X : Cx} {pins : List (Addr × Obj)} {σ : St} {H : Hp} {s : Shared} {l b : Addr} {xs ys zs : List V}

theorem Inv.lset {its its' : List Value} {n : Nat} {f : Array Value → Array Value} {t' : Nat} (I : Inv X pins σ H s) (hH : H l = some (.lst xs))
    (e : s.heap.get? l = some { cls := .type "list", data := .seq its.toArray n }) (hf : f its.toArray = its'.toArray) (hv : Vals ys its') (hz : ys.length ≤ sizeLine) :
    Inv X pins σ (upd H l (.lst ys)) { s with heap := s.heap.update l (Obj.mapSeq f), toks := t' } := by
  have q := PySem.IsL.update e f
  rw [hf] at q
  refine I.write (x := l) (e := l) (by rw [hH]; exact trivial) (.inl rfl) (fun b' u hb hu => (Heap.get?_update_other s.heap (Obj.mapSeq f) (Ne.symm hb)).trans hu) ⟨_, q⟩ ?_
  exact ⟨hz, its', _, hv, q⟩
theorem Inv.lnew {its : List Value} {t' : Nat} (I : Inv X pins σ H s) (hv : Vals ys its) (hz : ys.length ≤ sizeLine) :
    Inv X pins σ (upd H s.heap.objs.size (.lst ys)) { s with heap := s.heap.push { cls := .type "list", data := .seq its.toArray }, toks := t' } :=
  I.laid (fun _ _ q => Heap.get?_push_of_some _ q) (Nat.le_refl _) ⟨hz, its, 0, hv, Heap.get?_push_size _ rfl⟩
theorem Inv.fresh (I : Inv X pins σ H s) : H s.heap.objs.size = none := I.hok.fresh (Nat.le_refl _)
theorem Inv.lstM (I : Inv X pins σ H s) (hH : H l = some (.lst xs)) : xs.length ≤ sizeLine ∧ ∃ (its : List Value) (n : Nat), Vals xs its ∧ xs.length = its.length ∧ s.heap.get? l = some { cls := .type "list", data := .seq its.toArray n } := by
  obtain ⟨z, its, n, r, e⟩ := I.hok l _ hH
  exact ⟨z, its, n, r, r.length, e⟩
end

section
variable {X : Cx}

noncomputable def rAppend : V → List V → Hp → VK → Prop := fun x vs H Q => ∃ l xs y, x = .ref l ∧ vs = [y] ∧ H l = some (.lst xs) ∧ xs.length < sizeLine ∧ Q .non (upd H l (.lst (xs ++ [y])))
theorem mt_append : MtM X "list.append" rAppend := by
  intro pins s σ H x vs v us Q I rx rv h
  obtain ⟨l, xs, y, rfl, rfl, hH, hz, q⟩ := h
  cases rx
  obtain ⟨u, rfl, ru⟩ := rv.one
  obtain ⟨z, its, n, r, hl, e⟩ := I.lstM hH
  refine call_meets F.slot_list_append ⟨_, e, rfl⟩ F.entry_list_append (F.args_list_append_2 _ _) (PySem.list_append l its.toArray n u (by rw [List.size_toArray]; omega)) ⟨e, ?_⟩
  refine ⟨.non, _, I.lset (its' := its ++ [u]) hH e (by simp) (r.append (.cons ru .nil)) ?_, rfl, q⟩
  rw [List.length_append, List.length_singleton]
  omega
noncomputable def rCat : R2 := fun x y H Q => ∃ l b xs zs, x = .ref l ∧ y = .ref b ∧ H l = some (.lst xs) ∧ H b = some (.lst zs) ∧ xs.length + zs.length ≤ sizeLine ∧ ∀ p, H p = none → Q (.ref p) (upd H p (.lst (xs ++ zs)))
theorem op_cat : OpR X (binaryOp .Add) rCat := by
  intro pins s σ H x y v u Q I rx ry h
  obtain ⟨l, b, xs, zs, rfl, rfl, hH, hB, hz, q⟩ := h
  cases rx
  cases ry
  obtain ⟨z, its, n, r, hl, e⟩ := I.lstM hH
  obtain ⟨z2, its2, n2, r2, hl2, e2⟩ := I.lstM hB
  refine PySem.P.add_list e e2 ?_ (by rw [List.size_toArray, List.size_toArray]; omega)
  have ea : its.toArray ++ its2.toArray = (its ++ its2).toArray := by simp
  rw [ea]
  exact ⟨.ref _, _, I.lnew (t' := s.toks) (r.append r2) (by rw [List.length_append]; omega), rfl, q _ I.fresh⟩
end

section
variable {prog : Program} {w : World} {A : Around} {E : Value → Shared → Prop} {s : Shared}
end

section
variable {X : Cx}
end
end L2

namespace Att
open PySem PySem.W PySem.Calls PyProof.Rows

theorem ints_of_wellAll {P : Params} {h : Heap} : ∀ (ns : List Int) (vs : List Value), WellAll P h vs (ns.map WData.int) → IntsAre vs ns := by
  intro ns
  induction ns with
  | nil =>
    intro vs w
    rw [List.map_nil] at w
    cases w
    exact .nil
  | cons n ns ih =>
    intro vs w
    rw [List.map_cons] at w
    cases w with
    | cons a b =>
      cases a
      exact .cons _ _ (ih _ b)
theorem script_of {l : OpenLaw} {n : Nat} (hn : l.most = some n) {P : Params} {h : Heap} {args : List WData} {vals : List Value}
    (hpre : l.row.toRowW.claim.pre args = true) (hwl : WellAll P h vals args) :
    ∃ a vs ns, vals = [Value.ref a] ∧ args = [WData.list (ns.map WData.int)] ∧ h.get? a = some { cls := .type "list", data := .seq vs.toArray } ∧ IntsAre vs ns ∧ ns.length ≤ n := by
  have hsh : WShape.hasAll [] args [.list .int] = true := (pre_splitW hpre).1
  have hc : l.pre.holds [] { args := args } = true := (pre_splitW hpre).2
  obtain ⟨d, r, rfl, h1, h2⟩ := hasAllW_cons hsh
  obtain rfl := hasAllW_nil h2
  obtain ⟨xs, rfl, h3⟩ := hasW_list h1
  obtain ⟨ns, rfl⟩ := items_int h3
  have hlen : ns.length ≤ n := by
    unfold OpenLaw.pre at hc
    have h4 : (WTm.not (.lt (.lit (.int (n : Int))) (.len (.arg 0)))).holds [] { args := [.list (ns.map .int)] } = true := by
      have h4 := (holds_andW hc).1
      rw [hn] at h4
      exact h4
    have h5 := condW_of h4 (w_not (w_lt w_lit (w_len_list (w_arg rfl))))
    rw [List.length_map] at h5
    refine Nat.le_of_not_lt fun q => ?_
    have q' : (n : Int) < ((ns.length : Nat) : Int) := by omega
    first
      | (rw [decide_eq_true q'] at h5; exact absurd h5 (by decide))
      | (simp at h5; omega)
  cases hwl with
  | cons w1 w2 =>
    cases w2
    cases w1 with
    | list ho hall => exact ⟨_, _, ns, rfl, rfl, ho, ints_of_wellAll ns _ hall, hlen⟩
theorem post_true (l : OpenLaw) (args : List WData) : l.row.toRowW.claim.post args (.bool true) args = true :=
  postW_of (r := l.row.toRowW) (X := (true == true))
    (show WShape.has [] (.bool true) .bool = true by first | rfl | decide | simp [WShape.has, WShape.arms, WShape.armsAll])
    (show (WTm.eq .res (.lit (.bool true))).value [] { args := args, res := some (.bool true), after := args } = some (.bool (true == true)) from w_eq_bool (w_res rfl) w_lit) rfl
theorem attach_call {l : OpenLaw} {n : Nat} {q : Program} {loose : List Str} {XP : (Str → Option Value) → Heap → Prop} {YP : World → Heap → Prop} {d : DefRec}
    (hn : l.most = some n) (hdf : d.params.defaults = [])
    (call : ∀ (w : World) (s₀ s₁ : Shared) (mg mb : Str → Option Value) (fa : Addr) (o : Obj) (pm cd doc : Value) (a : Addr) (vs : List Value) (ns : List Int),
      Ground q loose [] XP w s₀ mg mb s₁.heap → YP w s₁.heap →
      s₁.heap.get? fa = some o → o.data = .func (docDef d.name d.params d.body d.scope pm cd doc) → s₁.heap.CodeRec cd d.name → mg d.name = some (.ref fa) →
      s₁.heap.get? a = some { cls := .type "list", data := .seq vs.toArray } → IntsAre vs ns → ns.length ≤ n → s₁.gens = #[] →
      codeAny (model l.prog w) callerA (.call (.ref fa) ⟨[.ref a], []⟩) (fun r s' => r = .ok (.ret (.bool true)) ∧ OldK s₁.heap s'.heap ∧ s'.os = s₁.os ∧ AllBare s'.gens) s₁) :
    WalkO q loose XP YP l.row.toRowW d [] (fun f vs => PySem.call f vs) := by
  intro w s₀ s₁ mg mb G Y fa o pm cd doc dV kV ho hd hcd hD hmg hg args vals as hpre hlay hrd hwl hlo
  obtain rfl : dV = .none := Dflts.none hD hdf
  obtain rfl : kV = .none := Dflts.noKw hD
  obtain ⟨a, vs, ns, rfl, rfl, hobj, hints, hlen⟩ := script_of hn hpre hwl
  refine enter_call (codeAny_mono (call w s₀ s₁ mg mb fa o pm cd doc a vs ns G Y ho (fd_plain hd) hcd hmg hobj hints hlen hg) fun r s' hq => ?_)
  obtain ⟨rfl, h2, h3, h4⟩ := hq
  exact ⟨.inl ⟨.bool true, .bool true, [], rfl, fun _ => rfl, .bool true, post_true l _, fun _ => ⟨List.Pairwise.nil, fun _ hm => (nomatch hm)⟩⟩, h2, h3, h4⟩
section
variable {prog : Program} {w : World} {A : Around} {E : Value → Shared → Prop} {s : Shared} {K : Frag}

end
end Att

namespace L2
open PySem PySem.Spec PyProof.Rows

theorem vals_ints : ∀ {vs : List Value} {ns : List Int}, IntsAre vs ns → Vals (ns.map V.int) vs
  | _, _, .nil => .nil
  | _, _, .cons n t h => .cons ⟨t, rfl⟩ (vals_ints h)
noncomputable def Only (H : Hp) : Prop := ∀ b, H b = none ∨ ∃ o xs, H b = some (.frz o (.lst xs))
theorem law_call {P : Program} {w : World} {K : PySem.W.Frag} {mg mb : Str → Option Value} {CX : CXT} {k : Nat} {fa a : Addr} {fd : FuncData} {x : Str} {sp : Sp} {s₁ : Shared} {vs : List Value} {ns : List Int}
    (KX : K.In s₁.heap) (hns : s₁.heap.Ns mainGlobals mg) (hb : s₁.heap.Ns builtinsNs mb) (hbb : ∀ x : Str, x ≠ "__name__" → mb x = bootBuiltins x) (hlim : s₁.heap.NoLimit) (hg : s₁.gens = #[])
    (ha : s₁.heap.get? a = some { cls := .type "list", data := .seq vs.toArray }) (hi : IntsAre vs ns) (hl : ns.length ≤ sizeLine) (hr : Room k callerA)
    (F : ∀ base : Heap, K.In base → base.Ns mainGlobals mg → FnOk P w K mg base CX k fa fd [x] sp) (hbind : ∀ (s : Shared) (u : Value), BindsTo s fd ⟨[u], []⟩ [(x, u)])
    (hsp : ∀ H : Hp, Only H → SqL K H a (ns.map V.int) → sp [.ref a] H (fun v _ => v = .bl true) fun _ _ _ => False)
    (hCX : ∀ H e s', CX [] H s₁ (fun _ _ _ => False) e s' → False) :
    codeAny (model P w) callerA (.call (.ref fa) ⟨[.ref a], []⟩) (fun r s' => r = .ok (.ret (.bool true)) ∧ OldK s₁.heap s'.heap ∧ s'.os = s₁.os ∧ AllBare s'.gens) s₁ := by
  have rv := vals_ints hi
  have lenV := hi.length
  -- from an abstract heap in which nothing but the script may be tracked
  have core : ∀ H : Hp, Only H → SqL K H a (ns.map V.int) → HOk P w H s₁.heap → (∀ b, H b ≠ none → b = a) → (H a ≠ none → K.lookup a = none) →
      codeAny (model P w) callerA (.call (.ref fa) ⟨[.ref a], []⟩) (fun r s' => r = .ok (.ret (.bool true)) ∧ OldK s₁.heap s'.heap ∧ s'.os = s₁.os ∧ AllBare s'.gens) s₁ := by
    intro H hO hS hok hA hK
    have base_of : ∀ {b : Addr} {o : Obj}, s₁.heap.get? b = some o → H b = none → (hidT s₁.heap H).get? b = some o := fun e n => hidT_get e n
    have noA : ∀ {b : Addr} {o : Obj} {es : Array DictEntry} {ep : Nat}, s₁.heap.get? b = some o → o.data = .dict es ep → H b = none := fun {b o es ep} e d => by
      cases q : H b with
      | none => rfl
      | some u =>
        have e' : b = a := hA b (by rw [q]; simp)
        subst e'
        rw [ha] at e; cases e
        have d' : Data.seq vs.toArray _ = Data.dict es ep := d
        cases d'
    have nsK : ∀ {b : Addr} {m : Str → Option Value}, s₁.heap.Ns b m → (hidT s₁.heap H).Ns b m := fun {b m} ⟨o, es, ep, e, d, r⟩ => ⟨o, es, ep, base_of e (noA e d), d, r⟩
    have hKb : K.In (hidT s₁.heap H) := fun b o e => base_of (KX b o e) (by
      cases q : H b with
      | none => rfl
      | some u =>
        have e' : b = a := hA b (by rw [q]; simp)
        subst e'
        rw [hK (by rw [q]; simp)] at e; cases e)
    have hM : Mod K mg (hidT s₁.heap H) := ⟨hKb, nsK hns, ⟨mb, nsK hb, hbb⟩, let ⟨mc, h1, h2⟩ := hlim; ⟨mc, nsK h1, h2⟩⟩
    have e0 : Env0 P w K mg (hidT s₁.heap H) callerA [] s₁ H := ⟨rfl, hM, fun b o e => of_hidT e, Nat.le_of_eq (hidT_size _ _), trivial, fun b hb => absurd (show b ∈ ([] : List Addr) from hb) (by simp), hok, .of_eq hg⟩
    refine codeAny_mono ((F _ hKb (nsK hns)).run callerA [] s₁ H ⟨[.ref a], []⟩ [.ref a] [.ref a] _ _ hr e0 (hbind s₁ (.ref a)) (.cons rfl .nil) (hsp H hO hS)) fun r s' h => ?_
    cases r with
    | error e => exact (hCX H e s' h).elim
    | ok fl =>
      cases fl with
      | next => exact False.elim h
      | brk => exact False.elim h
      | cont => exact False.elim h
      | ret u =>
        obtain ⟨v, H', os, bare, un, hok', r', q⟩ := h
        have q' : v = .bl true := q
        subst q'
        obtain rfl : u = Value.bool true := r'
        refine ⟨rfl, OldK.of_keep fun b o e => ?_, os, bare⟩
        cases q : H b with
        | none => exact un.keep b o e q (by intro z; exact absurd (show b ∈ ([] : List Addr) from z) (by simp)) (by simp)
        | some u =>
          rcases hO b with z | ⟨ob, xs, z⟩
          · rw [q] at z; cases z
          · have z2 := un.frzs b ob _ z
            obtain ⟨e1, _⟩ := hok b _ z
            obtain ⟨e2, _⟩ := hok' b _ z2
            rw [e] at e1; cases e1
            exact e2
  cases hk : K.lookup a with
  | some o =>
    -- the script is one of the module's own objects
    have e := KX a o hk
    rw [ha] at e
    cases e
    refine core (fun _ => none) (fun _ => .inl rfl) (.inr ⟨_, vs.toArray, _, hk, rfl, rfl, rfl, by rw [List.size_toArray, lenV]; exact hl, by simpa using rv⟩) (fun b u z => by have z' : (none : Option HO) = some u := z; cases z') (fun b z => absurd rfl z) fun z => absurd rfl z
  | none =>
    refine core (fun b => if b = a then some (.frz { cls := .type "list", data := .seq vs.toArray } (.lst (ns.map V.int))) else none) (fun b => ?_) (.inl (.inr ⟨{ cls := .type "list", data := .seq vs.toArray }, if_pos rfl⟩)) (fun b u z => ?_) (fun b z => ?_) fun _ => hk
    · by_cases hb : b = a
      · exact .inr ⟨_, _, if_pos hb⟩
      · exact .inl (if_neg hb)
    · by_cases hb : b = a
      · have z' := (if_pos hb).symm.trans z
        cases z'
        subst hb
        exact ⟨ha, by rw [List.length_map]; exact hl, vs, _, rv, ha⟩
      · have z' := (if_neg hb).symm.trans z
        cases z'
    · by_cases hb : b = a
      · exact hb
      · exact absurd (if_neg hb) z
end L2

namespace L2
open PySem PySem.Spec PyProof.Rows

theorem walk_of {l : PySem.W.OpenLaw} {n k : Nat} {q : Program} {loose : List Str} {XP : (Str → Option Value) → Heap → Prop} {YP : World → Heap → Prop} {d : DefRec} {K : Params → PySem.W.Frag} {CX : World → CXT} {sp : World → Sp} {x : Str}
    (hn : l.most = some n) (hn2 : n ≤ sizeLine) (hdf : d.params.defaults = []) (hr : Room k callerA)
    (hY : ∀ (w : World) (h : Heap), YP w h → (K w.params).In h)
    (F : ∀ (w : World) (mg : Str → Option Value) (fa : Addr) (h : Heap), (K w.params).In h → h.Ns mainGlobals mg → mg d.name = some (.ref fa) →
      ∃ fd : FuncData, (∀ (s : Shared) (u : Value), BindsTo s fd ⟨[u], []⟩ [(x, u)]) ∧
        ∀ base : Heap, (K w.params).In base → base.Ns mainGlobals mg → FnOk l.prog w (K w.params) mg base (CX w) k fa fd [x] (sp w))
    (hsp : ∀ (w : World) (H : Hp) (a : Addr) (ns : List Int), ns.length ≤ n → Only H → SqL (K w.params) H a (ns.map V.int) → sp w [.ref a] H (fun v _ => v = .bl true) fun _ _ _ => False)
    (hCX : ∀ (w : World) (H : Hp) (s : Shared) (e : Value) (s' : Shared), CX w [] H s (fun _ _ _ => False) e s' → False) :
    PySem.W.WalkO q loose XP YP l.row.toRowW d [] (fun f vs => PySem.call f vs) := by
  refine Att.attach_call hn hdf fun w s₀ s₁ mg mb fa o pm cd doc a vs ns G Y ho hd hcd hmg hobj hints hlen hg => ?_
  have KX := hY w _ Y
  obtain ⟨fd, hb, hF⟩ := F w mg fa _ KX G.T.g hmg
  exact law_call KX G.T.g G.T.b G.T.builtins G.T.nolimit hg hobj hints (Nat.le_trans hlen hn2) hr hF hb (fun H hO hS => hsp w H a ns hlen hO hS) fun H e s' => hCX w H s₁ e s'
end L2

namespace L2
open PySem PySem.Spec PyProof.Rows

noncomputable def defArgs (s : Stmt) : Arguments := match s with
  | .FunctionDef _ a _ _ _ _ _ _ _ _ => a
  | _ => { posonlyargs := [], args := [], vararg := none, kwonlyargs := [], kw_defaults := [], kwarg := none, defaults := [] }
noncomputable def defBody (s : Stmt) : List Stmt := match s with
  | .FunctionDef _ _ b _ _ _ _ _ _ _ => b
  | _ => []
noncomputable def defScope (s : Stmt) : Scope := match s with
  | .FunctionDef _ _ _ _ _ _ sc _ _ _ => sc
  | _ => { kind := .function, names := [], isGenerator := false, isCoroutine := false }
noncomputable abbrev CX0 : CXT := fun _ _ _ _ _ _ => False
noncomputable abbrev E0 : XK := fun _ _ _ => False
theorem pass0 {X : Cx} : Passes CX0 X E0 := fun _ _ _ _ _ _ _ h => h.elim
structure Fun (K : PySem.W.Frag) (x qual : Str) (st : Stmt) (f : Addr) (fd : FuncData) : Prop where
  ex : ∃ (oc : Value) (od : Option Addr) (kV doc pm : Value) (an : Option Addr) (cdv ct : Value) (osl : Array (Option Value)),
    fd = PySem.W.fnOf x qual (defArgs st) (defBody st) (defScope st) .none kV doc pm an cdv ct ∧ K.lookup f = some ⟨oc, od, .func fd, osl⟩ ∧ PySem.W.codeIn K cdv qual = true
  kp : PySem.W.keepIn K (.ref f) = true
section
variable {P : Program} {w : World} {K : PySem.W.Frag} {mg : Str → Option Value} {base : Heap}
theorem Fun.ok {x qual : Str} {st : Stmt} {f : Addr} {fd : FuncData} {N ps : List Str} {k : Nat} {sp : Sp} (F : Fun K x qual st f fd) (S : FnScope N ps (defScope st)) (len : ∀ vs H Q E, sp vs H Q E → vs.length = ps.length)
    (hbody : ∀ (cdv : Value) (A : Around) (outer : List Env) (s : Shared) (H : Hp) (vs : List V) (Q : VK) (E : XK), Room k (A.deeper (envOfC qual (defScope st) s.heap.objs.size f cdv)) → sp vs H Q E →
      ∃ t, PSs (cxOf CX0 P w K mg base N qual (defScope st) f cdv A outer s H E).nox (defBody st) t ∧ t { nx := fun _ H' => Q .non H', rt := Q } (start N vs) H) : FnOk P w K mg base CX0 (k + 1) f fd ps sp := by
  obtain ⟨oc, od, kV, doc, pm, an, cdv, ct, osl, rfl, lk, hcd⟩ := F.ex
  refine fn_of lk hcd S len fun A outer s H vs Q E hr hsp => ?_
  obtain ⟨t, h, q⟩ := hbody cdv A outer s H vs Q E hr hsp
  exact ⟨t, h.nox, q⟩
theorem Fun.binds {x qual : Str} {st : Stmt} {f : Addr} {fd : FuncData} {ps : List Str} (F : Fun K x qual st f fd)
    (h : ∀ (kV doc pm : Value) (an : Option Addr) (cdv ct : Value) (us : List Value), us.length = ps.length → bindArgs (PySem.W.fnOf x qual (defArgs st) (defBody st) (defScope st) .none kV doc pm an cdv ct) ⟨us, []⟩ = pure (ps.zip us)) : Binds K fd ps [] := by
  obtain ⟨oc, od, kV, doc, pm, an, cdv, ct, osl, rfl, lk, hcd⟩ := F.ex
  exact .all (h kV doc pm an cdv ct)
theorem fun_mk {x qual : Str} {st : Stmt} {f : Addr} {oc : Value} {od an : Option Addr} {osl : Array (Option Value)} {kV doc pm cdv ct : Value} (l : K.lookup f = some ⟨oc, od, .func (PySem.W.fnOf x qual (defArgs st) (defBody st) (defScope st) .none kV doc pm an cdv ct), osl⟩)
    (c : PySem.W.codeIn K cdv qual = true) (k : PySem.W.keepIn K (.ref f) = true) : Fun K x qual st f (PySem.W.fnOf x qual (defArgs st) (defBody st) (defScope st) .none kV doc pm an cdv ct) := ⟨⟨oc, od, kV, doc, pm, an, cdv, ct, osl, rfl, l, c⟩, k⟩
end
theorem hu_of {A : Around} {k : Nat} (hr : Room k A) : A.units + 1 < cLine := Nat.lt_of_le_of_lt (Nat.add_le_add_left (by decide : 1 ≤ 64) _) hr.units
theorem small1000 {n : Nat} (h : n ≤ 1000) : n < sizeLine := Nat.lt_of_le_of_lt h (by decide)
section
variable {X : Cx}
theorem pv (i : Nat) {x : Str} {pos : Pos} (hN : X.N[i]? = some x := by rfl) (hv : Vis X.env.scope x := by first | exact Or.inl rfl | exact Or.inr (Or.inl rfl) | exact Or.inr (Or.inr rfl)) (hd : (x == ("__debug__" : Str)) = false := by decide)
    (hcd : (x == ("__classdict__" : Str)) = false := by decide) : PE X (.Name x pos) (tVar i) := pe_var hN hv hd hcd
end
section
variable {X : Cx}
end
theorem iteF {A B : Prop} (h : B) : if false = true then A else B := by
  rw [if_neg Bool.false_ne_true]
  exact h
theorem iteT {A B : Prop} (h : A) : if true = true then A else B := by
  rw [if_pos rfl]
  exact h
theorem ite2 {c A B : Prop} [Decidable c] (h1 : c → A) (h2 : ¬ c → B) : if c then A else B := by
  by_cases h : c
  · rw [if_pos h]
    exact h1 h
  · rw [if_neg h]
    exact h2 h
noncomputable def Same (H H' : Hp) : Prop := ∀ b o, H b = some o → H' b = some o
theorem Same.refl (H : Hp) : Same H H := fun _ _ h => h
theorem Same.trans {H H1 H2 : Hp} (a : Same H H1) (b : Same H1 H2) : Same H H2 := fun c o h => b c o (a c o h)
theorem Same.free {H H' : Hp} (e : Same H H') {l : Addr} (h : H' l = Option.none) : H l = Option.none := by
  cases q : H l with
  | none => rfl
  | some o =>
    rw [e l o q] at h
    cases h
theorem Same.seq {K : PySem.W.Frag} {H H' : Hp} {a : Addr} {xs : List V} (e : Same H H') (h : SqL K H a xs) : SqL K H' a xs := by
  rcases h with (h | ⟨o, h⟩) | h
  · exact .inl (.inl (e _ _ h))
  · exact .inl (.inr ⟨o, e _ _ h⟩)
  · exact .inr h
section
variable {κ : Type} [DecidableEq κ]
end
end L2

set_option Elab.async false
set_option linter.all false
set_option maxRecDepth 100000
namespace L2
open PySem PySem.Spec PyProof.Rows
structure Dn (P : Program) (w : World) (K : PySem.W.Frag) (mg : Str → Option Value) (base : Heap) (k : Nat) (x : Str) (ps : List Str) (sp : Sp) : Prop where
  ex : ∃ f fd, FnOk P w K mg base CX0 k f fd ps sp ∧ mg x = some (.ref f) ∧ PySem.W.keepIn K (.ref f) = true ∧ Binds K fd ps []
noncomputable def tFn (sp : Sp) (t : TA) : TE := fun σ H Q => t σ H fun vs H1 => sp vs H1 Q E0
section
variable {X : Cx} {k : Nat} {ps : List Str} {sp : Sp} {x : Str} {p pos : Pos} {e : Expr} {es : List Expr} {t : TA}
theorem pe_fn (D : Dn X.prog X.w X.K X.mg X.base k x ps sp) (hr : Room k X.A) (ha : PA X (e :: es) t) (hg : Gl X x := by rfl) (hdb : (x == ("__debug__" : Str)) = false := by decide)
    (he : starEach (e :: es) X.env = (false, eval e X.env) :: starEach es X.env := by rfl) (hpl : (backTo pos (starEach es X.env)).any (·.1) = false := by rfl) :
    PE X (.Call (.Name x p) (e :: es) [] pos) (tFn sp t) := by
  obtain ⟨f, fd, F, hm, hk, hb⟩ := D.ex
  have q := pe_call (p := p) (pos := pos) F hr hg hm hk hb .nil pass0 ha hdb he hpl
  have e : tCall sp [] E0 t = tFn sp t := by
    funext σ H Q
    show t σ H (fun vs H1 => sp (vs ++ []) H1 Q E0) = t σ H fun vs H1 => sp vs H1 Q E0
    simp only [List.append_nil]
  rw [← e]
  exact q
theorem call_isi : CallR X (.builtin "isinstance") (fun xs H Q => ∃ x n t b, xs = [x, V.ty n] ∧ TyOf X.K H x t ∧ PySem.W.kitOne X.K t (.type n) = some b ∧ Q (.bl b) H) := by
  intro pins s σ H xs us Q I r h
  obtain ⟨x, n, t, b, rfl, ty, e, q⟩ := h
  cases r with
  | cons r1 r2 =>
    cases r2 with
    | cons r3 r4 =>
      cases r4
      cases (show _ = Value.type n from r3)
      exact isinst_ok I r1 ty e fun tk => ⟨.bl b, H, I.tok _, rfl, q⟩
end
theorem kit_ii {K : PySem.W.Frag} : PySem.W.kitOne K (.type "int") (.type "int") = some true := by rfl
theorem kit_ib {K : PySem.W.Frag} : PySem.W.kitOne K (.type "int") (.type "bool") = some false := by rfl
theorem same_new {H : Hp} {p : Addr} (h : H p = none) (o : HO) : Same H (upd H p o) := fun b u q => by rw [upd_ne (ne_of_none q h)]; exact q
theorem Same.tupq {K : PySem.W.Frag} {H H' : Hp} {a : Addr} {xs : List V} (e : Same H H') (h : SqT K H a xs) : SqT K H' a xs := by
  rcases h with (h | ⟨o, h⟩) | h
  · exact .inl (.inl (e _ _ h))
  · exact .inl (.inr ⟨o, e _ _ h⟩)
  · exact .inr h
end L2

set_option Elab.async false
set_option linter.all false
set_option maxRecDepth 100000
namespace L2
open PySem PySem.Spec PyProof.Rows
noncomputable abbrev Cx.comp (X : Cx) (scope : Scope) (cl : List (Str × Addr)) (C : Addr) (N' : List Str) (s₀ : Shared) (H₀ : Hp) (fp : List Addr) (pins : List (Addr × Obj)) : Cx :=
  { X with N := N', s₀ := s₀, H₀ := H₀, env := compEnvC scope cl C X.env, outer := X.stack, stack := X.stack, ex := fp, fn := fun _ => false, pn := X.pn ++ pins, xe := fun _ _ => False }
noncomputable def PIfs (X : Cx) (ifs : List Expr) (t : TT) : Prop :=
  ∀ (pins : List (Addr × Obj)) (s : Shared) (σ : St) (H : Hp) (Q : Bool → Hp → Prop), Inv X pins σ H s → t σ H Q →
    wpAny (model X.prog X.w) X.A (forIn ifs true fun c r => if r = true then do let ok ← isTrue c X.env (eval c X.env); pure (ForInStep.yield ok) else pure (ForInStep.yield r)) (TP X pins σ Q) X.xe s
noncomputable def tAll : TT := fun _ H Q => Q true H
theorem pifs_nil {X : Cx} : PIfs X [] tAll := fun _ _ _ H _ I h => wpAny_tests_nil ⟨H, I, h⟩
theorem pifs_one {X : Cx} {c : Expr} {t : TT} (h : PT X c t) : PIfs X [c] t := fun pins s σ H Q I q => wpAny_tests_one (h pins s σ H Q I q)
noncomputable def capSt (caps : List (Str × Nat)) (σ : St) : St := caps.map fun p => (σ[p.2]?).join
noncomputable def tLC (caps : List (Str × Nat)) (wi : TI) (tt : TT) (te : TE) : TE := fun σ H Q => wi σ H fun J H1 => ∀ D, H1 D = none →
  ∃ W : Nat → Nat → Hp → Prop, (∃ m, W 0 m (upd H1 D (.lst []))) ∧ ∀ i m H2, W i m H2 →
    (J.stop i H2 ∧ Q (.ref D) H2) ∨ (J.go i H2 ∧ ∀ x H', J.yld i H2 x H' → tt (some x :: capSt caps σ) H' fun b H3 =>
      if b = true then te (some x :: capSt caps σ) H3 fun v H4 => ∃ ys m', H4 D = some (.lst ys) ∧ ys.length < sizeLine ∧ m' < m ∧ W (i + 1) m' (upd H4 D (.lst (ys ++ [v])))
      else ∃ m', m' < m ∧ W (i + 1) m' H3)
section
variable {X : Cx}
theorem comp_ok {scope : Scope} {cl : List (Str × Addr)} {N' : List Str} {fp : List Addr} {pins : List (Addr × Obj)} {σ : St} {H : Hp} {s : Shared} (I : Inv X pins σ H s) (hf : ∀ b ∈ fp, FpOk X pins H b) (hin : ∀ b ∈ fp, b < s.heap.objs.size)
    (hkind : scope.kind = .function) (hcl : ∀ x c, cl.lookup x = some c → X.env.cells.lookup x = some c)
    (hhas : ∀ x, ((relabel scope X.env).names.lookup x = some .cell ∨ (relabel scope X.env).names.lookup x = some .free) → ∃ c, cl.lookup x = some c) :
    (X.comp scope cl s.heap.objs.size N' s H fp pins).Ok where
  mod := I.ok.mod
  kind := by show (relabel scope X.env).kind = _; exact hkind
  glob := I.ok.glob
  blt := I.ok.blt
  above := Nat.le_refl _
  inj := fun x y c h1 h2 => I.ok.inj x y c (hcl x c h1) (hcl y c h2)
  has := hhas
  cab := fun x c h _ => by cases h
  hd := I.ok.hd
  frames := I.ok.frames
  stk := .inl rfl
  exf := fun b hb => ⟨Nat.ne_of_lt (hin b hb), fun x c e => (hf b hb).2.2.2.2.1 x c (hcl x c e)⟩
  bs := I.bs
  bsz := Nat.le_trans I.ok.bsz I.sz
  noex := fun b o e hb => by
    rcases (hf b hb).2.2.2.1 with z | z
    · exact I.ok.noex b o e z
    · exact absurd (Nat.lt_of_lt_of_le (Heap.lt_size (I.ok.bs b o e).1) z) (Nat.lt_irrefl _)
  exfs := fun b hb z => by
    rcases List.mem_cons.mp (I.stkSub b z) with e | e
    · exact (hf b hb).2.1 e
    · exact (hf b hb).2.2.1 e
  funs := I.stack
  frf := I.stkFree
theorem comp_inv {scope : Scope} {cl : List (Str × Addr)} {x : Str} {caps : List (Str × Nat)} {fp : List Addr} {pins : List (Addr × Obj)} {σ : St} {H : Hp} {s : Shared} {h1 : Heap} {t' : Nat} {m : Str → Option Value} (I : Inv X pins σ H s) (hf : ∀ b ∈ fp, FpOk X pins H b) (hin : ∀ b ∈ fp, b < s.heap.objs.size)
    (hkind : scope.kind = .function) (hcl : ∀ x c, cl.lookup x = some c → X.env.cells.lookup x = some c)
    (hhas : ∀ x, ((relabel scope X.env).names.lookup x = some .cell ∨ (relabel scope X.env).names.lookup x = some .free) → ∃ c, cl.lookup x = some c)
    (hcap : ∀ p ∈ caps, X.N[p.2]? = some p.1 ∧ X.env.scope.names.lookup p.1 = some .cell ∧ ((relabel scope X.env).names.lookup p.1 = some .cell ∨ (relabel scope X.env).names.lookup p.1 = some .free))
    (hn : h1.Ns s.heap.objs.size m) (hk : ∀ b o, s.heap.get? b = some o → h1.get? b = some o) :
    Inv (X.comp scope cl s.heap.objs.size (x :: caps.map (·.1)) s H fp pins) [] (none :: capSt caps σ) H { s with heap := h1, toks := t' } := by
  refine ⟨comp_ok I hf hin hkind hcl hhas, rfl, I.bare, Un.kept hk, ⟨m, hn, fun i y v e1 e2 e3 => ?_⟩, fun y c e => ?_, I.hok.fresh (Nat.le_refl _), fun y c e => I.freeC y c (hcl y c e), fun p hp => ?_, I.hok.kept hk, ?_⟩
  · cases i with
    | zero => cases e2
    | succ i =>
      have e1' : (caps.map (·.1))[i]? = some y := e1
      have e2' : (caps.map fun p => (σ[p.2]?).join)[i]? = some (some v) := e2
      rw [List.getElem?_map] at e1' e2'
      cases q : caps[i]? with
      | none => rw [q] at e1'; cases e1'
      | some p =>
        rw [q] at e1' e2'
        have hy : p.1 = y := Option.some.inj e1'
        have hv : (σ[p.2]?).join = some v := Option.some.inj e2'
        obtain ⟨c1, c2, c3⟩ := hcap p (List.mem_of_getElem? q)
        have hv' : σ[p.2]? = some (some v) := by
          cases z : σ[p.2]? with
          | none => rw [z] at hv; cases hv
          | some w => rw [z] at hv; rw [← hv]; rfl
        obtain ⟨m0, _, hl0⟩ := I.loc
        obtain ⟨u, ru, lk⟩ := hl0 p.2 p.1 v c1 hv' (.inr (.inl c2))
        subst hy
        refine ⟨u, ru, .inr ⟨c3, ?_⟩⟩
        obtain ⟨c, hc⟩ := hhas p.1 c3
        rcases lk with ⟨k, _⟩ | ⟨_, c', hc', z⟩
        · have k' : X.env.scope.names.lookup p.1 = some .local := k
          rw [c2] at k'; cases k'
        · have : c = c' := Option.some.inj ((hcl p.1 c hc).symm.trans hc')
          subst this
          obtain ⟨o, ho, hd⟩ := z
          exact ⟨c, hc, o, hk _ _ ho, hd⟩
  · obtain ⟨v, o, ho, hd⟩ := I.cell y c (hcl y c e)
    exact ⟨v, o, hk _ _ ho, hd⟩
  · have hp' : p ∈ X.pn ++ pins := by simpa using hp
    obtain ⟨a1, a2, a3, a4, a5⟩ := I.pin p hp'
    refine ⟨hk _ _ a1, a2, Nat.ne_of_lt (Heap.lt_size a1), fun z => ?_, a5⟩
    rcases List.mem_cons.mp (I.stkSub p.1 z) with e | e
    · exact a3 e
    · exact a4 e
  · show (none :: capSt caps σ).length = (x :: caps.map (·.1)).length
    simp [capSt]
theorem lc_core {elt iter : Expr} {x : Str} {px : Pos} {ifs : List Expr} {scope : Scope} {cl : List (Str × Addr)} {pos : Pos} {caps : List (Str × Nat)} {wi : TI} {tt : TT} {te : TE} (hc : X.calm = true)
    (hi : PI X (.Name x px) iter wi)
    (ht : ∀ C s₀ H₀ fp pins, PIfs (X.comp scope cl C (x :: caps.map (·.1)) s₀ H₀ fp pins) ifs tt) (he : ∀ C s₀ H₀ fp pins, PE (X.comp scope cl C (x :: caps.map (·.1)) s₀ H₀ fp pins) elt te)
    (hclos : closureFor scope X.env = pure cl) (hcell : ∀ y ∈ scope.names, y.2 ≠ .cell) (hkind : scope.kind = .function) (hnames : ∀ y ∈ scope.names, y.2 = .local → scope.names.lookup y.1 = some .local) (hx : scope.names.lookup x = some .local)
    (hcl : ∀ x c, cl.lookup x = some c → X.env.cells.lookup x = some c)
    (hhas : ∀ x, ((relabel scope X.env).names.lookup x = some .cell ∨ (relabel scope X.env).names.lookup x = some .free) → ∃ c, cl.lookup x = some c)
    (hcap : ∀ p ∈ caps, X.N[p.2]? = some p.1 ∧ X.env.scope.names.lookup p.1 = some .cell ∧ ((relabel scope X.env).names.lookup p.1 = some .cell ∨ (relabel scope X.env).names.lookup p.1 = some .free))
    (hnd : (x :: caps.map (·.1)).Nodup)
    (hs : ∀ x, foldedSetIterable iter X.env x = pure x) {pins : List (Addr × Obj)} {s : Shared} {σ : St} {H : Hp} {Q : VK} {use : Option (Value → Sem Unit)} {QQ : Value → Shared → Prop} {pos2 : Pos} (I : Inv X pins σ H s) (h : tLC caps wi tt te σ H Q)
    (fin : ∀ D C H5 s6 r, FpOk X pins H5 C → (∃ m, s6.heap.Ns C m) → Inv X pins σ H5 s6 → Q (.ref D) H5 → compPost (model X.prog X.w) X.A X.xe use QQ (.ref D) C (.ok r) s6) :
    wpAny (model X.prog X.w) X.A (comprehension (.ListComp elt [⟨.Name x px, iter, ifs, 0⟩] scope pos) scope X.env pos2 (newList []) false (eval iter X.env) use) QQ X.xe s := by
  refine wpAny_comprehension_free (use := use) rfl hs hclos hkind hnames (thn (hi pins s σ H _ I h) fun v s1 h1 => thn h1 fun itv s2 h2 => ?_)
  obtain ⟨it, fp, tn, J, H2, e, I2, T, st2, f2, q2⟩ := h2
  subst e
  -- the new list
  refine wpAny_newObj_type ?_ (by show 0 ≤ sizeLine; exact Nat.zero_le _)
  have fD : H2 s2.heap.objs.size = none := I2.fresh
  obtain ⟨W, ⟨m0, w0⟩, turn⟩ := q2 s2.heap.objs.size fD
  have I3 := I2.lnew (its := []) (ys := []) (t' := s2.toks) .nil (Nat.zero_le _)
  have lt2 : ∀ b ∈ fp, b < s2.heap.objs.size := fun b hb => by
    obtain ⟨o, ho, _⟩ := T.obj 0 _ st2 b hb
    exact Heap.lt_size ho
  have neD : ∀ b ∈ fp, b ≠ s2.heap.objs.size := fun b hb => Nat.ne_of_lt (lt2 b hb)
  have st3 : tn 0 (s2.heap.push { cls := .type "list", data := .seq ([] : List Value).toArray }) := T.keep 0 _ _ st2 fun b _ o e => Heap.get?_push_of_some _ e
  have f3 : ∀ b ∈ fp, FpOk X pins (upd H2 s2.heap.objs.size (.lst [])) b := fun b hb => ⟨by rw [upd_ne (neD b hb)]; exact (f2 b hb).1, (f2 b hb).2⟩
  generalize hs3 : ({ s2 with heap := s2.heap.push { cls := .type "list", data := .seq ([] : List Value).toArray }, toks := s2.toks } : Shared) = s3 at I3
  generalize hD : s2.heap.objs.size = D at *
  have hs3h : s3.heap = s2.heap.push { cls := .type "list", data := .seq ([] : List Value).toArray } := by rw [← hs3]
  have goal3 : wpAny (model X.prog X.w) X.A (newFunctionEnv scope X.env.globals cl [] X.env.qual none .none (some X.env)) (fun cenv s₄ =>
      codeAny (model X.prog X.w) X.A (.compStart (.ListComp elt [⟨.Name x px, iter, ifs, 0⟩] scope pos) 0 (.ref it) (.ref D) { cenv with scope := relabel scope X.env })
        (compPost (model X.prog X.w) X.A X.xe use QQ (.ref D) cenv.locals) s₄) X.xe s3 := by
    have lt3 : ∀ b ∈ fp, b < s3.heap.objs.size := fun b hb => by
      rw [hs3h, Heap.size_push, hD]
      exact Nat.lt_succ_of_lt (lt2 b hb)
    refine wpAny_newFunctionEnv hcell (by intro y hy; simp at hy) (fun h₁ hns₁ hsb₁ => ?_) hkind
    have old : ∀ b o, s3.heap.get? b = some o → h₁.get? b = some o := fun b o e => hsb₁.extBut b o (Nat.ne_of_lt (Heap.lt_size e)) (Heap.get?_push_of_some _ e)
    have I4 : Inv (X.comp scope cl s3.heap.objs.size (x :: caps.map (·.1)) s3 (upd H2 D (.lst [])) fp pins) [] (none :: capSt caps σ) (upd H2 D (.lst [])) { s3 with heap := h₁, toks := s3.toks + 0 } :=
      comp_inv I3 f3 lt3 hkind hcl hhas hcap hns₁ old
    have st4 : tn 0 h₁ := T.keep 0 _ _ (by rw [← hs3h] at st3; exact st3) fun b hb o e => old b o e
    -- what stays true of the iterator's objects
    have stat : ∀ {H' : Hp}, (∀ b ∈ fp, H' b = none) → ∀ b ∈ fp, FpOk (X.comp scope cl s3.heap.objs.size (x :: caps.map (·.1)) s3 (upd H2 D (.lst [])) fp pins) [] H' b := fun hn b hb =>
      ⟨hn b hb, Nat.ne_of_lt (lt3 b hb), I4.ok.exfs b hb, .inl hb, fun y c e => (f3 b hb).2.2.2.2.1 y c (hcl y c e), fun p hp => (f3 b hb).2.2.2.2.2 p (by simpa using hp)⟩
    have loop : codeAny (model X.prog X.w) X.A (.compLoop (.ListComp elt [⟨.Name x px, iter, ifs, 0⟩] scope pos) 0 (.ref it) (.ref D) (compEnvC scope cl s3.heap.objs.size X.env))
        (compPost (model X.prog X.w) X.A X.xe use QQ (.ref D) s3.heap.objs.size) { s3 with heap := h₁, toks := s3.toks + 0 } := by
      refine codeAny_compLoop_tests (fun n s' => ∃ i v H', Inv (X.comp scope cl s3.heap.objs.size (x :: caps.map (·.1)) s3 (upd H2 D (.lst [])) fp pins) [] (v :: capSt caps σ) H' s' ∧ tn i s'.heap ∧ (∀ b ∈ fp, H' b = none) ∧ W i n H') ?_ m0 ⟨0, none, _, I4, st4, fun b hb => (f3 b hb).1, w0⟩
      rintro n s5 ⟨i, v5, H5, I5, st5, fr5, w5⟩
      rcases turn i n H5 w5 with ⟨stop, qn⟩ | ⟨go, step⟩
      · refine wpAny_noRaise (thn (T.done (X.comp scope cl s3.heap.objs.size (x :: caps.map (·.1)) s3 (upd H2 D (.lst [])) fp pins) rfl rfl rfl hc i [] s5 _ H5 (fun _ _ => False) I5 (stat fr5) st5 stop) fun r s6 zz9 => ?_)
        obtain ⟨hr, I6⟩ := zz9
        subst hr
        obtain ⟨m6, hn6, _⟩ := I6.loc
        have fC : H5 s3.heap.objs.size = none := I6.free
        have u6 : Un (frs X.stack) fp (upd H2 D (.lst [])) H5 s3.heap s6.heap := I6.base
        exact fin _ _ _ _ _ (I3.fpOk (Nat.le_refl _) fC) ⟨m6, hn6⟩ (I3.call' (ch := fp) I6.os u6 I6.hok I6.bare fun b hb => ⟨(f3 b hb).2.2.2.1, (f3 b hb).2.1, (f3 b hb).2.2.2.2.1, (f3 b hb).2.2.2.2.2⟩) qn
      · refine wpAny_noRaise (thn (T.item (X.comp scope cl s3.heap.objs.size (x :: caps.map (·.1)) s3 (upd H2 D (.lst [])) fp pins) rfl rfl rfl hc i [] s5 _ H5 (fun _ _ => False) I5 (stat fr5) st5 go) fun r s6 zz9 => ?_)
        obtain ⟨u, hr, h6⟩ := zz9
        subst hr
        -- a plain name: the step ahead of the store is nothing
        show wpAny _ _ (letOwnedTupleGo (.Name x px) (.ref it) u >>= fun _ => assign (.Name x px) (compEnvC scope cl s3.heap.objs.size X.env) u) _ _ _
        refine wpAny_bind (wpAny_noRaise (thn h6 fun _ s6 zz9 => ?_))
        obtain ⟨y, H6, I6, r6, y6, st6, fr6⟩ := zz9
        have I6' := I6.pinned (stat fr6) (T.obj _ _ st6)
        refine wpAny_assign_Name (wpAny_noRaise (store_ok (i := 0) I6' hnd rfl (.inl (lookup_relabel_local hx)) r6 (fun s7 I7 => ?_) (.inr (lookup_relabel_local hx))))
        have again : ∀ {v8 : Option V} {H8 : Hp} {s8 : Shared} {m' : Nat}, Inv (X.comp scope cl s3.heap.objs.size (x :: caps.map (·.1)) s3 (upd H2 D (.lst [])) fp pins) ([] ++ pinsAt fp s6.heap) (v8 :: capSt caps σ) H8 s8 → W (i + 1) m' H8 →
            ∃ i v H', Inv (X.comp scope cl s3.heap.objs.size (x :: caps.map (·.1)) s3 (upd H2 D (.lst [])) fp pins) [] (v :: capSt caps σ) H' s8 ∧ tn i s8.heap ∧ (∀ b ∈ fp, H' b = none) ∧ W i m' H' := fun {v8 H8 s8 m'} I8 w8 => by
          refine ⟨i + 1, v8, H8, I8.unpinned, T.keep _ _ _ st6 fun b hb o e => (I8.pin (b, o) (List.mem_append_right _ (List.mem_append_right _ (mem_pinsAt hb e)))).1, fun b hb => ?_, w8⟩
          obtain ⟨o, e, d⟩ := T.obj _ _ st6 b hb
          exact (I8.pin (b, o) (List.mem_append_right _ (List.mem_append_right _ (mem_pinsAt hb e)))).2.1
        refine wpAny_noRaise (thn (ht _ _ _ _ _ _ s7 _ H6 _ I7 (step y H6 y6)) fun ok s8 zz9 => ?_)
        obtain ⟨H8, I8, q8⟩ := zz9
        cases ok with
        | false =>
          rw [if_neg Bool.false_ne_true] at q8 ⊢
          obtain ⟨m', hm', w8⟩ := q8
          exact ⟨m', hm', again I8 w8⟩
        | true =>
          rw [if_pos rfl] at q8 ⊢
          refine wpAny_noRaise (thn (he _ _ _ _ _ _ s8 _ H8 _ I8 q8) fun z s9 zz9 => ?_)
          obtain ⟨v9, H9, I9, r9, ys, m', hD9, hz9, hm9, w9⟩ := zz9
          refine wpAny_noRaise (thn (mt_append _ s9 _ H9 (.ref D) [v9] (.ref D) [z] (fun v H' => v = .non ∧ H' = upd H9 D (.lst (ys ++ [v9]))) I9 rfl (.cons r9 .nil) ⟨D, ys, v9, rfl, rfl, hD9, hz9, rfl, rfl⟩) fun _ s10 zz9 => ?_)
          obtain ⟨v10, H10, I10, _, _, eH⟩ := zz9
          subst eH
          exact ⟨m', hm9, again I10 w9⟩
    exact codeAny_compStart_list loop (T.self _ 0 _ _ _ st4 loop)
  subst hs3
  subst hD
  exact goal3
theorem pe_lc {elt iter : Expr} {x : Str} {px : Pos} {ifs : List Expr} {scope : Scope} {cl : List (Str × Addr)} {pos : Pos} {caps : List (Str × Nat)} {wi : TI} {tt : TT} {te : TE} (hc : X.calm = true)
    (hi : PI X (.Name x px) iter wi)
    (ht : ∀ C s₀ H₀ fp pins, PIfs (X.comp scope cl C (x :: caps.map (·.1)) s₀ H₀ fp pins) ifs tt) (he : ∀ C s₀ H₀ fp pins, PE (X.comp scope cl C (x :: caps.map (·.1)) s₀ H₀ fp pins) elt te)
    (hclos : closureFor scope X.env = pure cl) (hcell : ∀ y ∈ scope.names, y.2 ≠ .cell) (hkind : scope.kind = .function) (hnames : ∀ y ∈ scope.names, y.2 = .local → scope.names.lookup y.1 = some .local) (hx : scope.names.lookup x = some .local)
    (hcl : ∀ x c, cl.lookup x = some c → X.env.cells.lookup x = some c)
    (hhas : ∀ x, ((relabel scope X.env).names.lookup x = some .cell ∨ (relabel scope X.env).names.lookup x = some .free) → ∃ c, cl.lookup x = some c)
    (hcap : ∀ p ∈ caps, X.N[p.2]? = some p.1 ∧ X.env.scope.names.lookup p.1 = some .cell ∧ ((relabel scope X.env).names.lookup p.1 = some .cell ∨ (relabel scope X.env).names.lookup p.1 = some .free))
    (hnd : (x :: caps.map (·.1)).Nodup)
    (hs : ∀ x, foldedSetIterable iter X.env x = pure x := by intro _; rfl) :
    PE X (.ListComp elt [⟨.Name x px, iter, ifs, 0⟩] scope pos) (tLC caps wi tt te) := by
  intro pins s σ H Q I h
  rw [eval_ListComp]
  refine lc_core hc hi ht he hclos hcell hkind hnames hx hcl hhas hcap hnd hs I h ?_
  intro D C H5 s6 r fC ⟨m6, hn6⟩ I6 q
  exact ⟨m6, hn6, fun h' hs' => ⟨.ref D, H5, I6.turned (fun b o n e => (hs'.2 b n).trans e) fC.1 fC.2.1 fC.2.2.2.1 fC.2.2.2.2.1 fC.2.2.2.2.2, rfl, q⟩⟩
theorem ps_setLC {i : Nat} {y : Str} {py spos : Pos} {elt iter : Expr} {x : Str} {px : Pos} {ifs : List Expr} {scope : Scope} {cl : List (Str × Addr)} {pos : Pos} {caps : List (Str × Nat)} {wi : TI} {tt : TT} {te : TE} (hN : X.N.Nodup) (hi' : X.N[i]? = some y) (hy : Loc X.env.scope y) (hc : X.calm = true)
    (hi : PI X (.Name x px) iter wi)
    (ht : ∀ C s₀ H₀ fp pins, PIfs (X.comp scope cl C (x :: caps.map (·.1)) s₀ H₀ fp pins) ifs tt) (he : ∀ C s₀ H₀ fp pins, PE (X.comp scope cl C (x :: caps.map (·.1)) s₀ H₀ fp pins) elt te)
    (hclos : closureFor scope X.env = pure cl) (hcell : ∀ y ∈ scope.names, y.2 ≠ .cell) (hkind : scope.kind = .function) (hnames : ∀ y ∈ scope.names, y.2 = .local → scope.names.lookup y.1 = some .local) (hx : scope.names.lookup x = some .local)
    (hcl : ∀ x c, cl.lookup x = some c → X.env.cells.lookup x = some c)
    (hhas : ∀ x, ((relabel scope X.env).names.lookup x = some .cell ∨ (relabel scope X.env).names.lookup x = some .free) → ∃ c, cl.lookup x = some c)
    (hcap : ∀ p ∈ caps, X.N[p.2]? = some p.1 ∧ X.env.scope.names.lookup p.1 = some .cell ∧ ((relabel scope X.env).names.lookup p.1 = some .cell ∨ (relabel scope X.env).names.lookup p.1 = some .free))
    (hnd : (x :: caps.map (·.1)).Nodup)
    (hs : ∀ x, foldedSetIterable iter X.env x = pure x := by intro _; rfl)
    (hsw : swapsWith (.ListComp elt [⟨.Name x px, iter, ifs, 0⟩] scope pos) (some (.Name y py)) spos.line X.env = pure true := by rfl)
    (hf : X.fn y = true ∨ X.env.scope.names.lookup y = some .local := by first | exact .inl rfl | exact .inr rfl | assumption) :
    PS X (.Assign [.Name y py] (.ListComp elt [⟨.Name x px, iter, ifs, 0⟩] scope pos) spos) (tAsg (tLC caps wi tt te) (gName i)) := by
  intro pins s σ H D I h
  rw [exec_Assign_Name_used _ _ _ _ hsw]
  refine wpAny_bind (wpAny_standAt (wpAny_bind ?_))
  refine wpAny_bind (thn (lc_core (use := some (assign (.Name y py) X.env)) (QQ := fun _ s' => SP X pins D .next s') hc hi ht he hclos hcell hkind hnames hx hcl hhas hcap hnd hs I h ?_) fun _ s' hq => wpAny_pure (wpAny_pure hq))
  intro D' C H5 s6 r fC ⟨m6, hn6⟩ I6 q
  show wpAny _ X.A (assign (.Name y py) X.env (.ref D')) _ _ _
  refine wpAny_assign_Name (store_ok2 I6 hN hi' hy (v := .ref D') rfl (fun s7 I7 zz9 => ?_) hf)
  obtain ⟨a, sb, ha⟩ := zz9
  have hne : C ≠ a := by
    rcases ha with rfl | ha
    · exact fC.2.1
    · exact fun z => fC.2.2.2.2.1 _ _ ha z.symm
  refine ⟨m6, hn6.sameBut sb hne, fun h' hs' => ?_⟩
  exact ⟨_, H5, I7.turned (fun b o n e => (hs'.2 b n).trans e) fC.1 fC.2.1 fC.2.2.2.1 fC.2.2.2.2.1 fC.2.2.2.2.2, q⟩
end
end L2

set_option Elab.async false
set_option linter.all false
set_option maxRecDepth 100000
namespace L2
open PySem PySem.Spec PyProof.Rows
noncomputable def Fly (base : Heap) (l : List Env) (a T : Addr) (C : Value) (h : Heap) : Prop :=
  base.StaysIn h ∧ base.get? a = none ∧ h.FunFrames base l ∧ ∃ a0 oe vs oT ts, h.get? a = some oe ∧ (oe.cls = C ∧ vs[0]? = some a0) ∧ oe.data = .fields vs ∧ vs[1]? = some (.ref T) ∧ base.get? T = none ∧ T ≠ a ∧ h.get? T = some oT ∧ oT.data = .fields ts ∧ ts[3]? = some .none
noncomputable def CXR (P : Program) (w : World) (base : Heap) : CXT := fun outer H s E e s' => ∃ (a T : Addr) (C : Value) (H' : Hp), e = .ref a ∧ s'.os = s.os ∧ AllBare s'.gens ∧ Un (frs outer) [] H H' s.heap s'.heap ∧ HOk P w H' s'.heap ∧
  Fly base outer a T C s'.heap ∧ H' a = none ∧ H' T = none ∧ s.heap.get? a = none ∧ s.heap.get? T = none ∧ E C none H'
theorem ObjOk.got {P : Program} {w : World} {H : Hp} {h : Heap} {a : Addr} {o : HO} (x : ObjOk P w H h a o) : ∃ ob, h.get? a = some ob := by
  cases o with
  | lst xs => obtain ⟨_, _, _, _, e⟩ := x; exact ⟨_, e⟩
  | tup xs => obtain ⟨_, _, _, o, e, _⟩ := x; exact ⟨_, e⟩
  | dK kvs => obtain ⟨_, _, _, _, o, _, _, e, _⟩ := x; exact ⟨_, e⟩
  | dT kvs => obtain ⟨_, _, _, _, o, _, _, e, _⟩ := x; exact ⟨_, e⟩
  | set S n => obtain ⟨o, _, _, _, e, _⟩ := x; exact ⟨_, e⟩
  | ins C dx fs => obtain ⟨_, _, _, e, _⟩ := x; exact ⟨_, e⟩
  | own y => obtain ⟨_, e⟩ := x; exact ⟨_, e⟩
  | xd fs => obtain ⟨_, ⟨_, _, _, e, _⟩, _⟩ := x; exact ⟨_, e⟩
  | rng lo hi => obtain ⟨_, _, _, e⟩ := x; exact ⟨_, e⟩
  | frz ob u => obtain ⟨e, _⟩ := x; exact ⟨_, e⟩
  | tbl ps => exact ⟨_, (show h.get? a = some _ from x)⟩
  | met f y => exact ⟨_, (show h.get? a = some _ from x)⟩
  | ext φ => obtain ⟨_, ⟨_, e⟩, _⟩ := x; exact ⟨_, e⟩
section
variable {X : Cx} {pins : List (Addr × Obj)} {σ : St} {H : Hp} {s : Shared}
theorem Inv.untr (I : Inv X pins σ H s) {b : Addr} (e : s.heap.get? b = none) : H b = none := by
  cases q : H b with
  | none => rfl
  | some o =>
    obtain ⟨ob, z⟩ := (I.hok b o q).got
    rw [e] at z; cases z
theorem Inv.stkNo (I : Inv X pins σ H s) {b : Addr} (h1 : b ≠ X.env.locals) (h2 : b ∉ X.fs) : b ∉ frs X.stack := fun z => (List.mem_cons.mp (I.stkSub b z)).elim h1 h2
end
abbrev bmV : List Value := [.type "ValueError", .type "Exception", .type "BaseException", .type "object"]
noncomputable def XCls (K : PySem.W.Frag) (C : Addr) : Prop := PySem.W.excIn K C bmV "ValueError.__new__" = true
theorem xcls_obj {K : PySem.W.Frag} {h : Heap} {C : Addr} (X : K.In h) (q : XCls K C) : ∃ bm N nm q bs hdct sn sub ab col dd k0 k1 k2 k3 k5 mN, h.get? C = some (excClassObj nm q C N bs bm hdct sn sub ab col dd k0 k1 k2 k3 k5 "ValueError.__new__") ∧ h.Ns N mN ∧ mN "__init__" = none ∧ OwnTail h bmV bm := by
  unfold XCls PySem.W.excIn at q
  split at q
  · rename_i dd cd sl ho
    split at q
    · rename_i C' bm k0 k1 k2 k3 n k5 hm hs
      simp only [Bool.and_eq_true, beq_iff_eq, Bool.not_eq_true'] at q
      obtain ⟨⟨⟨⟨⟨rfl, rfl⟩, hdel⟩, ht⟩, hok⟩, hni⟩ := q
      obtain ⟨nm, bs, mro, ns, qn, hd, sn, sub, ab, col, del⟩ := cd
      dsimp only at hm hdel hok hni
      subst hm hdel
      have hsl : sl = #[k0, k1, k2, k3, some (.builtin "ValueError.__new__"), k5] := by
        obtain ⟨l⟩ := sl
        simp only at hs
        rw [hs]
      subst hsl
      exact ⟨bm, ns, nm, qn, bs, hd, sn, sub, ab, col, dd, k0, k1, k2, k3, k5, _, X _ _ ho, .of_isNs (PySem.W.isNs_of_in X hok), PySem.W.nsMap_none_of_in X hok hni, PySem.W.tail_of_in X ht⟩
    · cases q
  · cases q
section
variable {P : Program} {w : World} {K : PySem.W.Frag} {mg : Str → Option Value} {base : Heap} {N : List Str} {qual : Str} {scope : Scope} {f : Addr} {cd : Value} {A : Around} {outer : List Env} {s0 : Shared} {H0 : Hp} {E : XK}
theorem ps_raise {x : Str} {C : Addr} {e : Expr} {te : TE} {np cpos pos : Pos} (hE : XCls K C) (hm : mg x = some (.ref C)) (he : PE (cxOf (CXR P w base) P w K mg base N qual scope f cd A outer s0 H0 E) e te)
    (hg : Gl (cxOf (CXR P w base) P w K mg base N qual scope f cd A outer s0 H0 E) x := by rfl)
    (hst : starEach [e] (cxOf (CXR P w base) P w K mg base N qual scope f cd A outer s0 H0 E).env = [(false, eval e (cxOf (CXR P w base) P w K mg base N qual scope f cd A outer s0 H0 E).env)] := by rfl)
    (hd : (x == ("__debug__" : Str)) = false := by decide) :
    PS (cxOf (CXR P w base) P w K mg base N qual scope f cd A outer s0 H0 E) (.Raise (some (.Call (.Name x np) [e] [] cpos)) none pos) (fun _ σ H => te σ H fun v H1 => ([v] : List V).length = 1 ∧ E (.ref C) none H1) := by
  intro pins s σ H D I h
  obtain ⟨bm, Na, nm, q, bs, hdct, sn, sub, ab, col, dd, k0, k1, k2, k3, k5, mN, hC, hN, hni, T⟩ := xcls_obj I.ok.mod.kin hE
  refine wpAny_Raise_call_subU (C := C) (nm := nm) (q := q) (N := Na) (bs := bs) (bm := bm) (hdct := hdct) (sn := sn) (sub := sub) (ab := ab) (col := col) (dd := dd) (k0 := k0) (k1 := k1) (k2 := k2) (k3 := k3) (k5 := k5)
    PySem.F.excBase_ValueError rfl PySem.F.excBase_ValueError (mN := mN) (T.hasType rfl) (I.ok.hd rfl) (by rw [hst]; rfl) hni (ld_glob I hg hm ⟨rfl, ?_⟩ hd)
  have ha := pa_cons (X := cxOf (CXR P w base) P w K mg base N qual scope f cd A outer s0 H0 E) he pa_nil hst cpos pins s σ H (fun vs H1 => vs.length = 1 ∧ E (.ref C) none H1) I h
  rw [hst] at ha ⊢
  refine Calls.evalArgs_plain (wpAny_mono ha (fun us s2 ⟨vs, H2, I2, r2, hl2, q2⟩ => ?_) fun _ _ z => z)
  have hlu : us.length ≤ sizeLine := by
    rw [← r2.length, hl2]
    decide
  refine ⟨rfl, hlu, I2.bk _ _ hC, hN.keeps I2.bk, T.keeps I2.bk, fun h' ex hx => ?_⟩
  -- all but the frames
  have hin : ∀ env ∈ (envOfC qual scope s0.heap.objs.size f cd :: outer), ∀ b, env.frame = some b → b ∈ (envOfC qual scope s0.heap.objs.size f cd :: outer).filterMap (·.frame) := fun env he b hb => List.mem_filterMap.mpr ⟨env, he, hb⟩
  have stk : s2.heap.FunFrames base (envOfC qual scope s0.heap.objs.size f cd :: outer) := I2.stack
  have notL : ∀ b o, s0.heap.get? b = some o → b ≠ s0.heap.objs.size := fun b o e => Nat.ne_of_lt (Heap.lt_size e)
  have inB : ∀ b o, s2.heap.get? b = some o → b ∉ frs (envOfC qual scope s0.heap.objs.size f cd :: outer) → (PySem.W.hideAll s2.heap (frs (envOfC qual scope s0.heap.objs.size f cd :: outer))).get? b = some o := fun b o e n => PySem.W.hideAll_get _ e n
  show wpAny (model P w) (A.deeper (envOfC qual scope s0.heap.objs.size f cd)) (leaving (envOfC qual scope s0.heap.objs.size f cd) (.ref ex)) (fun _ s'' => CXR P w base outer H0 s0 E (.ref ex) s'') (fun e' s'' => CXR P w base outer H0 s0 E e' s'') { s2 with heap := h' }
  refine wpAny_leaves_madeW (base := PySem.W.hideAll s2.heap (frs (envOfC qual scope s0.heap.objs.size f cd :: outer))) (h := s2.heap) (L := s0.heap.objs.size) I2.ok.frames rfl (fun b o z => PySem.W.of_hideAll _ z) (PySem.W.funFrames_hide stk hin) hx fun h'' t fl tup ht U => ?_
  obtain ⟨f1, f2, f3, oe, vs, Tr, oT, ts, g1, g2, g3, g4, g5, g6, g7, g8, g9⟩ := fl
  have baseB : base.StaysIn (PySem.W.hideAll s2.heap (frs (envOfC qual scope s0.heap.objs.size f cd :: outer))) := fun b o z => inB b o (I2.bk b o z) fun hb => by rw [(stk.mem hb).1] at z; cases z
  have U2 : ∀ b o, s2.heap.get? b = some o → (∀ vs, o.data ≠ .fields vs) → ∃ sl, h''.get? b = some { o with slots := sl } := fun b o z n => U b o (hx.keeps b o z) n
  have noT : s2.heap.get? Tr = none := by
    cases z : s2.heap.get? Tr with
    | none => rfl
    | some o =>
      by_cases hb : Tr ∈ frs (envOfC qual scope s0.heap.objs.size f cd :: outer)
      · obtain ⟨_, o', ho', d'⟩ := stk.mem hb
        obtain ⟨sl, z2⟩ := U2 Tr o' ho' d'
        rw [g7] at z2
        have z3 := congrArg (fun q : Option Obj => q.map (·.data)) z2
        simp only [Option.map_some, g8] at z3
        exact absurd (Option.some.inj z3).symm (d' ts)
      · rw [inB Tr o z hb] at g5
        cases g5
  have up : ∀ b o, s0.heap.get? b = some o → s2.heap.get? b ≠ none := fun b o z n => by
    obtain ⟨o', z'⟩ := I2.base.there b o z (fun q => absurd (show b ∈ ([] : List Addr) from q) (by simp))
    rw [n] at z'; cases z'
  have no0 : ∀ b, s2.heap.get? b = none → s0.heap.get? b = none := fun b n => by
    cases z : s0.heap.get? b with
    | none => rfl
    | some o => exact absurd n (up b o z)
  have nex : ∀ b, b ∉ (cxOf (CXR P w base) P w K mg base N qual scope f cd A outer s0 H0 E).ex := fun b q => absurd (show b ∈ ([] : List Addr) from q) (by simp)
  have notIn : ∀ b o, s0.heap.get? b = some o → b ∉ frs outer → b ∉ frs (envOfC qual scope s0.heap.objs.size f cd :: outer) := fun b o z n => I2.stkNo (notL b o z) n
  refine ⟨ex, Tr, .ref C, H2, rfl, I2.os, I2.bare, ⟨fun b o z n hb _ => ?_, fun b o z n hb _ => ?_, fun b o z n _ => I2.base.free b o z n (nex b), fun b o z _ => ?_, I2.base.tups, I2.base.frzs, I2.base.tbls⟩, fun b u z => ?_, ⟨fun b o z => f1 b o (baseB b o z), ?_, PySem.W.funFrames_base baseB f3, .ref t, oe, vs, oT, ts, g1, g2, g3, g4, ?_, g6, g7, g8, g9⟩, I2.untr hx.new, I2.untr noT, no0 _ hx.new, no0 _ noT, q2⟩
  · exact f1 b o (inB b o (I2.base.keep b o z n hb (nex b)) (notIn b o z hb))
  · obtain ⟨sl, z1⟩ := I2.base.slot b o z n hb (nex b)
    obtain ⟨_, o', ho', d'⟩ := I2.ok.funs.mem hb
    have : o' = o := by rw [show (cxOf (CXR P w base) P w K mg base N qual scope f cd A outer s0 H0 E).s₀.heap.get? b = some o from z] at ho'; exact (Option.some.inj ho').symm
    subst this
    obtain ⟨sl', z2⟩ := U2 b _ z1 (fun vs => d' vs)
    exact ⟨sl', z2⟩
  · by_cases hb : b ∈ frs (envOfC qual scope s0.heap.objs.size f cd :: outer)
    · obtain ⟨_, o', ho', d'⟩ := stk.mem hb
      obtain ⟨sl, z2⟩ := U2 b o' ho' d'
      exact ⟨_, z2⟩
    · obtain ⟨o', z'⟩ := I2.base.there b o z (nex b)
      exact ⟨o', f1 b o' (inB b o' z' hb)⟩
  · refine (I2.hok b u z).stay (fun c v hc q => ?_) (fun _ q => q) fun _ _ q => q
    have tr : ∀ c v, H2 c = some v → c ∉ frs (envOfC qual scope s0.heap.objs.size f cd :: outer) := fun c v q n => by rw [I2.stkFree c n] at q; cases q
    rcases hc with hc | hc
    · rw [hc] at q ⊢
      exact f1 b v (inB b v q (tr b u z))
    · exact f1 c v (inB c v q (tr c _ hc))
  · cases z : base.get? ex with
    | none => rfl
    | some o =>
      have := I2.bk ex o z
      rw [hx.new] at this; cases this
  · cases z : base.get? Tr with
    | none => rfl
    | some o =>
      have := I2.bk Tr o z
      rw [noT] at this; cases this
end
end L2

set_option Elab.async false
set_option linter.all false
set_option maxRecDepth 100000
namespace L2
open PySem PySem.Spec PyProof.Rows
noncomputable def XP (X : Cx) (pins : List (Addr × Obj)) (σ : St) (R : Value → Hp → Prop) (e : Value) (s' : Shared) : Prop := ∃ (a T : Addr) (C : Value) (H' : Hp), e = .ref a ∧ Inv X pins σ H' s' ∧ Fly X.base X.stack a T C s'.heap ∧ H' a = none ∧ H' T = none ∧
  X.s₀.heap.get? a = none ∧ X.s₀.heap.get? T = none ∧ (∀ p ∈ X.pn ++ pins, p.1 ≠ a ∧ p.1 ≠ T) ∧ a ≠ X.env.locals ∧ R C H'
structure Dx (P : Program) (w : World) (K : PySem.W.Frag) (mg : Str → Option Value) (base : Heap) (k : Nat) (x : Str) (ps : List Str) (sp : Sp) : Prop where
  ex : ∃ f fd, FnOk P w K mg base (CXR P w base) k f fd ps sp ∧ mg x = some (.ref f) ∧ PySem.W.keepIn K (.ref f) = true ∧ Binds K fd ps []
section
variable {X : Cx} {k : Nat} {ps : List Str} {sp : Sp} {x : Str} {p pos : Pos} {e : Expr} {es : List Expr} {t : TA}
end
section
variable {X : Cx} {pins : List (Addr × Obj)} {σ : St} {H : Hp} {s : Shared}
end
end L2

set_option Elab.async false
set_option linter.all false
set_option maxRecDepth 100000
namespace L2
open PySem PySem.Spec PyProof.Rows PySem.W
structure XAt (K : PySem.W.Frag) (C : Addr) : Prop where
  x : XCls K C
  ga : findIn K (.ref C) "__getattribute__" = some (some (.builtin "BaseException.__getattribute__"))
  hk : findIn K (.ref C) "__getattr__" = some none
  ca : findIn K (.ref C) "__class__" = some (some (.builtin "object.__class__"))
  mo : subIn K (.ref C) (.type "object") = some true
  sb : subIn K (.ref C) (.type "BaseException") = some true
section
variable {prog : Program} {w : World} {A : Around} {E : Value → Shared → Prop} {h : Heap} {g : Array GenState} {d : Drawn} {t : Nat} {os : OsState} {a C : Addr} {oe : Obj} {K : PySem.W.Frag} {vs : Array Value}
end
end L2

set_option Elab.async false
set_option linter.all false
set_option maxRecDepth 100000
namespace L2
open PySem PySem.Spec PyProof.Rows PySem.W
section
variable {X : Cx} {pins : List (Addr × Obj)} {σ : St} {H : Hp} {s : Shared}
end
theorem Fun.okX {P : Program} {w : World} {K : PySem.W.Frag} {mg : Str → Option Value} {base : Heap} {x qual : Str} {st : Stmt} {f : Addr} {fd : FuncData} {N ps : List Str} {k : Nat} {sp : Sp} (F : Fun K x qual st f fd) (S : FnScope N ps (defScope st)) (len : ∀ vs H Q E, sp vs H Q E → vs.length = ps.length)
    (hbody : ∀ (cdv : Value) (A : Around) (outer : List Env) (s : Shared) (H : Hp) (vs : List V) (Q : VK) (E : XK), Room k (A.deeper (envOfC qual (defScope st) s.heap.objs.size f cdv)) → sp vs H Q E →
      ∃ t, PSs (cxOf (CXR P w base) P w K mg base N qual (defScope st) f cdv A outer s H E) (defBody st) t ∧ t { nx := fun _ H' => Q .non H', rt := Q } (start N vs) H) : FnOk P w K mg base (CXR P w base) (k + 1) f fd ps sp := by
  obtain ⟨oc, od, kV, doc, pm, an, cdv, ct, osl, rfl, lk, hcd⟩ := F.ex
  exact fn_of lk hcd S len fun A outer s H vs Q E hr hsp => hbody cdv A outer s H vs Q E hr hsp
end L2

set_option Elab.async false
set_option linter.all false
set_option maxRecDepth 100000
namespace L2
open PySem PySem.Spec PyProof.Rows
mutual
/-- the value reads as that data -/
inductive Rds (K : PySem.W.Frag) (H : Hp) : V → PyData → Prop
  | non : Rds K H .non .none
  | bl (b : Bool) : Rds K H (.bl b) (.bool b)
  | int (i : Int) : Rds K H (.int i) (.int i)
  | str (x : Str) : Rds K H (.str x) (.str x)
  | list {a : Addr} {xs : List V} {ds : List PyData} : SqL K H a xs → RdsAll K H xs ds → Rds K H (.ref a) (.list ds)
  | tuple {a : Addr} {xs : List V} {ds : List PyData} : SqT K H a xs → RdsAll K H xs ds → Rds K H (.ref a) (.tuple ds)
inductive RdsAll (K : PySem.W.Frag) (H : Hp) : List V → List PyData → Prop
  | nil : RdsAll K H [] []
  | cons {x : V} {xs : List V} {d : PyData} {ds : List PyData} : Rds K H x d → RdsAll K H xs ds → RdsAll K H (x :: xs) (d :: ds)
end
section
variable {X : Cx} {pins : List (Addr × Obj)} {σ : St} {H : Hp} {s : Shared}
mutual
theorem Rds.reads (I : Inv X pins σ H s) : ∀ {x : V} {d : PyData} {u : Value}, Rds X.K H x d → RelV x u → ∃ as, Reads s.heap u d as
  | _, _, _, .non, r => by
    cases r
    exact ⟨[], .none⟩
  | _, _, _, .bl b, r => by
    cases r
    exact ⟨[], .bool b⟩
  | _, _, _, .int i, r => by
    obtain ⟨t, rfl⟩ := r
    exact ⟨[], .int i t⟩
  | _, _, _, .str i, r => by
    obtain ⟨t, rfl⟩ := r
    exact ⟨[], .str i t⟩
  | _, _, _, .list (a := a) h q, r => by
    cases r
    obtain ⟨its, r', pl, _⟩ := I.list h
    obtain ⟨o, ho, hc, n, hd⟩ := pl.isList
    obtain ⟨as, z⟩ := RdsAll.reads I q r'
    exact ⟨a :: as, .list ho hc hd z⟩
  | _, _, _, .tuple (a := a) h q, r => by
    cases r
    obtain ⟨its, r', pl, _⟩ := I.tuple h
    obtain ⟨o, ho, hc, n, hd⟩ := pl
    obtain ⟨as, z⟩ := RdsAll.reads I q r'
    exact ⟨as, .tuple ho hc hd z⟩
theorem RdsAll.reads (I : Inv X pins σ H s) : ∀ {xs : List V} {ds : List PyData} {us : List Value}, RdsAll X.K H xs ds → Vals xs us → ∃ as, ReadsAll s.heap us ds as
  | _, _, _, .nil, .nil => ⟨[], .nil⟩
  | _, _, _, .cons h t, .cons r rs => by
    obtain ⟨as, z⟩ := Rds.reads I h r
    obtain ⟨bs, y⟩ := RdsAll.reads I t rs
    exact ⟨as ++ bs, .cons z y⟩
end
theorem kv_at : ∀ {kvs : List (Key × V)} {vs : List (Key × Value)} {i : Nat} {k : Key} {x : Value}, KV kvs vs → vs[i]? = some (k, x) → ∃ y, kvs[i]? = some (k, y)
  | _, _, _, _, _, .nil, e => by simp at e
  | _, _, 0, _, _, .cons (a := p) r _, e => by
    obtain ⟨e1, _⟩ := r
    simp only [List.getElem?_cons_zero, Option.some.injEq] at e ⊢
    subst e
    exact ⟨p.2, Prod.ext e1 rfl⟩
  | _, _, i + 1, _, _, .cons _ t, e => by
    simp only [List.getElem?_cons_succ] at e ⊢
    exact kv_at t e
end
end L2

set_option Elab.async false
set_option linter.all false
set_option maxRecDepth 100000
namespace L2
open PySem PySem.Spec PyProof.Rows
section
variable {X : Cx} {pins : List (Addr × Obj)} {σ : List (Option V)} {H H' : Hp} {s : Shared} {h' : Heap}
end
section
variable {X : Cx}
end
end L2

set_option Elab.async false
set_option linter.all false
set_option maxRecDepth 100000
namespace L2
open PySem PySem.Spec PyProof.Rows
section
variable {X : Cx}
end
end L2

set_option Elab.async false
set_option linter.all false
set_option maxRecDepth 100000
namespace L2
open PySem PySem.Spec PyProof.Rows
section
variable {X : Cx}
theorem sl_str : SlR X (fun x lo hi H Q => ∃ z, x = .str z ∧ z.length ≤ sizeLine ∧ Q (.str (Txt.slice z lo hi)) H) := by
  intro pins s σ H x v vl vu lo hi sl Q I rx hs pl pu h
  obtain ⟨z, rfl, hz, q⟩ := h
  obtain ⟨t, rfl⟩ := rx
  refine ⟨"str", _, F.slot_str_getitem.lookup, typeIs_str _ _ _, ?_⟩
  cases pl with
  | none =>
    cases pu with
    | none => exact wpAny_getItem_str_slice (l := none) (u := none) (st := none) hs rfl (post_val_or_str ⟨Nat.le_trans (Txt.slice_le z _ _) hz, fun t' k => ⟨.str _, H, I.tok _, ⟨t', rfl⟩, q⟩⟩)
    | int j uj => exact wpAny_getItem_str_slice (l := none) (u := some (j, uj)) (st := none) hs rfl (post_val_or_str ⟨Nat.le_trans (Txt.slice_le z _ _) hz, fun t' k => ⟨.str _, H, I.tok _, ⟨t', rfl⟩, q⟩⟩)
  | int i ui =>
    cases pu with
    | none => exact wpAny_getItem_str_slice (l := some (i, ui)) (u := none) (st := none) hs rfl (post_val_or_str ⟨Nat.le_trans (Txt.slice_le z _ _) hz, fun t' k => ⟨.str _, H, I.tok _, ⟨t', rfl⟩, q⟩⟩)
    | int j uj => exact wpAny_getItem_str_slice (l := some (i, ui)) (u := some (j, uj)) (st := none) hs rfl (post_val_or_str ⟨Nat.le_trans (Txt.slice_le z _ _) hz, fun t' k => ⟨.str _, H, I.tok _, ⟨t', rfl⟩, q⟩⟩)
end
end L2

set_option Elab.async false
set_option linter.all false
-- mathematics of k01, plain Lean
namespace Sh
noncomputable def G (a b : Int) : Int := (Nat.gcd a.toNat b.toNat : Int)
structure Low (n d q r : Int) : Prop where
  q0 : 0 ≤ q
  r0 : 0 < r
  g : G q r = 1
  eq : q * d = n * r
theorem G_pos {a b : Int} (hb : 0 < b) : 0 < G a b := by
  unfold G
  have := Nat.gcd_pos_of_pos_right a.toNat (show 0 < b.toNat by omega)
  omega
theorem low {n d : Int} (hn : 0 ≤ n) (hd : 0 < d) : Low n d (n / G n d) (d / G n d) := by
  have g0 := G_pos (a := n) hd
  have e1 : n / G n d = ((n.toNat / Nat.gcd n.toNat d.toNat : Nat) : Int) := by
    conv => lhs; rw [show n = (n.toNat : Int) by omega]
    unfold G
    rw [Int.toNat_natCast]
    rfl
  have e2 : d / G n d = ((d.toNat / Nat.gcd n.toNat d.toNat : Nat) : Int) := by
    conv => lhs; lhs; rw [show d = (d.toNat : Int) by omega]
    unfold G
    rfl
  have p : 0 < Nat.gcd n.toNat d.toNat := Nat.gcd_pos_of_pos_right n.toNat (show 0 < d.toNat by omega)
  have dv1 := Nat.gcd_dvd_left n.toNat d.toNat
  have dv2 := Nat.gcd_dvd_right n.toNat d.toNat
  rw [e1, e2]
  refine ⟨Int.natCast_nonneg _, ?_, ?_, ?_⟩
  · have := Nat.div_pos (Nat.le_of_dvd (show 0 < d.toNat by omega) dv2) p
    omega
  · unfold G
    rw [Int.toNat_natCast, Int.toNat_natCast, Nat.gcd_div dv1 dv2, Nat.div_self p]
    rfl
  · have : n.toNat / Nat.gcd n.toNat d.toNat * d.toNat = n.toNat * (d.toNat / Nat.gcd n.toNat d.toNat) := by
      obtain ⟨x, hx⟩ := dv1
      obtain ⟨y, hy⟩ := dv2
      have x1 : n.toNat / Nat.gcd n.toNat d.toNat = x := by
        conv => lhs; lhs; rw [hx]
        exact Nat.mul_div_cancel_left x p
      have y1 : d.toNat / Nat.gcd n.toNat d.toNat = y := by
        conv => lhs; lhs; rw [hy]
        exact Nat.mul_div_cancel_left y p
      rw [x1, y1]
      conv => lhs; rw [hy]
      conv => rhs; rw [hx]
      rw [Nat.mul_left_comm, Nat.mul_assoc]
    have h := congrArg (fun z : Nat => (z : Int)) this
    have h1 : (n.toNat : Int) = n := by omega
    have h2 : (d.toNat : Int) = d := by omega
    simp only [Int.natCast_mul, h1, h2] at h
    exact h
end Sh
namespace Sh
end Sh
namespace L2
open PySem PySem.Spec PyProof.Rows
noncomputable def ltS (a b : Str) : Prop := a.cps.toList < b.cps.toList
instance (a b : Str) : Decidable (ltS a b) := inferInstanceAs (Decidable (a.cps.toList < b.cps.toList))
theorem ltS_irrefl (a : Str) : ¬ ltS a a := List.lt_irrefl _
theorem ltS_trans {a b c : Str} (h : ltS a b) (h' : ltS b c) : ltS a c := List.lt_trans h h'
theorem str_ext {a b : Str} (h : a.cps.toList = b.cps.toList) : a = b := by
  cases a; cases b
  simp at h
  rw [h]
noncomputable abbrev En := Str × Int × Int
noncomputable abbrev Ws := List (En × Addr)
noncomputable def keys (es : List En) : List Str := es.map (·.1)
noncomputable def LedW (H : Hp) (l : Addr) (ws : Ws) : Prop := H l = some (.lst (ws.map fun w => V.ref w.2)) ∧ ∀ w ∈ ws, H w.2 = some (.tup [.str w.1.1, .int w.1.2.1, .int w.1.2.2])
noncomputable def Led (H : Hp) (l : Addr) (es : List En) : Prop := ∃ ws : Ws, ws.map (·.1) = es ∧ LedW H l ws
noncomputable def DicW (K : PySem.W.Frag) (H : Hp) (d : Addr) (ws : Ws) : Prop := H d = some (.dK (ws.map fun w => ((Sum.inr w.1.1 : Key), V.ref w.2))) ∧ ∀ w ∈ ws, SqT K H w.2 [.int w.1.2.1, .int w.1.2.2]
noncomputable def Dic (K : PySem.W.Frag) (H : Hp) (d : Addr) (es : List En) : Prop := ∃ ws : Ws, ws.map (·.1) = es ∧ DicW K H d ws
theorem Led.same {H H' : Hp} {l : Addr} {es : List En} (h : Led H l es) (e : Same H H') : Led H' l es := by
  obtain ⟨ws, h1, h2, h3⟩ := h
  exact ⟨ws, h1, e _ _ h2, fun w hw => e _ _ (h3 w hw)⟩
theorem Dic.same {K : PySem.W.Frag} {H H' : Hp} {l : Addr} {es : List En} (h : Dic K H l es) (e : Same H H') : Dic K H' l es := by
  obtain ⟨ws, h1, h2, h3⟩ := h
  exact ⟨ws, h1, e _ _ h2, fun w hw => e.tupq (h3 w hw)⟩
theorem tupU {K : PySem.W.Frag} {H : Hp} {p f : Addr} {xs : List V} {kvs : List (Key × V)} {u : HO} (h : SqT K H p xs) (hf : H f = some (.dK kvs)) : SqT K (upd H f u) p xs := by
  rcases h with (h | ⟨o, h⟩) | h
  · exact .inl (.inl (by rw [upd_ne (ne_of h hf (by intro z; cases z))]; exact h))
  · exact .inl (.inr ⟨o, by rw [upd_ne (ne_of h hf (by intro z; cases z))]; exact h⟩)
  · exact .inr h
theorem Led.rd {K : PySem.W.Frag} {H : Hp} {l : Addr} {es : List En} (h : Led H l es) : ∃ ws : Ws, ws.map (·.1) = es ∧ SqL K H l (ws.map fun w => V.ref w.2) ∧ LedW H l ws := by
  obtain ⟨ws, h1, h2⟩ := h
  exact ⟨ws, h1, SqL.of h2.1, h2⟩
noncomputable def fnd (es : List En) (k : Str) : Option En := es.find? fun e => decide (e.1 = k)
noncomputable def look (es : List En) (k : Str) : Int × Int := match fnd es k with | some e => e.2 | none => (0, 1)
noncomputable def putE (es : List En) (k : Str) (n d : Int) : List En := if (es.any fun e => decide (e.1 = k)) = true then es.map (fun e => if e.1 = k then (k, n, d) else e) else es ++ [(k, n, d)]
noncomputable def putW (ws : Ws) (k : Str) (w' : En × Addr) : Ws := if (ws.any fun w => decide (w.1.1 = k)) = true then ws.map (fun w => if w.1.1 = k then w' else w) else ws ++ [w']
theorem val_ws (ws : Ws) (k : Str) : valV (ws.map fun w => ((Sum.inr w.1.1 : Key), V.ref w.2)) (Sum.inr k) = (ws.find? fun w => decide (w.1.1 = k)).map fun w => V.ref w.2 := by
  induction ws with
  | nil => rfl
  | cons w r ih =>
    by_cases h : w.1.1 = k
    · rw [List.map_cons, valV_pos (by rw [h]), List.find?_cons, decide_eq_true h]
      rfl
    · rw [List.map_cons, valV_neg (fun z => h (Sum.inr.inj z)), ih, List.find?_cons, decide_eq_false h]
theorem fnd_ws (ws : Ws) (k : Str) : fnd (ws.map (·.1)) k = (ws.find? fun w => decide (w.1.1 = k)).map (·.1) := by
  unfold fnd
  rw [List.find?_map]
  rfl
theorem put_ws (ws : Ws) (k : Str) (n d : Int) (q : Addr) : putK (ws.map fun w => ((Sum.inr w.1.1 : Key), V.ref w.2)) (Sum.inr k) (V.ref q) = (putW ws k ((k, n, d), q)).map fun w => ((Sum.inr w.1.1 : Key), V.ref w.2) := by
  unfold putK putW
  have e : ((ws.map fun w => ((Sum.inr w.1.1 : Key), V.ref w.2)).any fun kv => decide (kv.1 = Sum.inr k)) = ws.any fun w => decide (w.1.1 = k) := by
    rw [List.any_map]
    congr 1
    funext w
    simp
  rw [e]
  split
  · rw [List.map_map, List.map_map]
    refine List.map_congr_left fun w _ => ?_
    by_cases h : w.1.1 = k
    · simp [h]
    · simp [h]
  · rw [List.map_append]
    rfl
theorem putE_ws (ws : Ws) (k : Str) (n d : Int) (q : Addr) : (putW ws k ((k, n, d), q)).map (·.1) = putE (ws.map (·.1)) k n d := by
  unfold putE putW
  rw [List.any_map]
  show _ = if (ws.any fun w => decide (w.1.1 = k)) = true then _ else _
  split
  · rw [List.map_map, List.map_map]
    refine List.map_congr_left fun w _ => ?_
    by_cases h : w.1.1 = k
    · simp [h]
    · simp [h]
  · rw [List.map_append]
    rfl
theorem mem_putW {ws : Ws} {k : Str} {w' w : En × Addr} (h : w ∈ putW ws k w') : w = w' ∨ w ∈ ws := by
  unfold putW at h
  split at h
  · obtain ⟨x, hx, e⟩ := List.mem_map.mp h
    by_cases z : x.1.1 = k
    · rw [if_pos z] at e; exact .inl e.symm
    · rw [if_neg z] at e; exact .inr (e ▸ hx)
  · rcases List.mem_append.mp h with h | h
    · exact .inr h
    · exact .inl (List.mem_singleton.mp h)
theorem Dic.put {K : PySem.W.Frag} {H : Hp} {d q : Addr} {ws : Ws} {es : List En} {k : Str} {n m : Int} (e : ws.map (·.1) = es) (h : DicW K H d ws) (hq : SqT K H q [.int n, .int m]) :
    Dic K (upd H d (.dK (putK (ws.map fun w => ((Sum.inr w.1.1 : Key), V.ref w.2)) (Sum.inr k) (V.ref q)))) d (putE es k n m) := by
  subst e
  refine ⟨putW ws k ((k, n, m), q), putE_ws ws k n m q, by rw [upd_same, put_ws ws k n m q], fun w hw => ?_⟩
  refine tupU ?_ h.1
  rcases mem_putW hw with rfl | hw
  · exact hq
  · exact h.2 w hw
theorem Dic.get {K : PySem.W.Frag} {H : Hp} {d : Addr} {ws : Ws} {es : List En} {k : Str} (e : ws.map (·.1) = es) (h : DicW K H d ws) :
    (∃ p, valV (ws.map fun w => ((Sum.inr w.1.1 : Key), V.ref w.2)) (Sum.inr k) = some (V.ref p) ∧ SqT K H p [.int (look es k).1, .int (look es k).2] ∧ k ∈ keys es) ∨
    (valV (ws.map fun w => ((Sum.inr w.1.1 : Key), V.ref w.2)) (Sum.inr k) = none ∧ look es k = (0, 1) ∧ k ∉ keys es) := by
  subst e
  rw [val_ws]
  have q := fnd_ws ws k
  unfold look
  rw [q]
  cases z : ws.find? fun w => decide (w.1.1 = k) with
  | none =>
    refine .inr ⟨rfl, rfl, fun hk => ?_⟩
    obtain ⟨x, hx, ex⟩ := List.mem_map.mp hk
    obtain ⟨w, hw, ew⟩ := List.mem_map.mp hx
    have := List.find?_eq_none.mp z w hw
    subst ew
    simp [ex] at this
  | some w =>
    have hw := List.mem_of_find?_eq_some z
    have hk : w.1.1 = k := by simpa using List.find?_some z
    exact .inl ⟨w.2, rfl, h.2 w hw, List.mem_map.mpr ⟨w.1, List.mem_map.mpr ⟨w, hw, rfl⟩, hk⟩⟩
theorem any_key {es : List En} {k : Str} : (es.any fun e => decide (e.1 = k)) = true ↔ k ∈ keys es := by
  unfold keys
  rw [List.any_eq_true, List.mem_map]
  constructor
  · rintro ⟨e, h1, h2⟩
    exact ⟨e, h1, of_decide_eq_true h2⟩
  · rintro ⟨e, h1, h2⟩
    exact ⟨e, h1, decide_eq_true h2⟩
noncomputable def Can (es es' : List En) : Prop := es'.Pairwise (fun a b => ltS a.1 b.1) ∧ (∀ e, e ∈ es' ↔ e ∈ es ∧ e.2.1 ≠ 0) ∧ es'.length ≤ es.length
theorem rise_eq {l l' : List En} (h : l.Pairwise (fun a b => ltS a.1 b.1)) (h' : l'.Pairwise (fun a b => ltS a.1 b.1)) (e : ∀ x, x ∈ l ↔ x ∈ l') : l = l' := by
  induction l generalizing l' with
  | nil =>
    cases l' with
    | nil => rfl
    | cons y r => exact absurd ((e y).mpr (List.mem_cons_self ..)) (by simp)
  | cons x r ih =>
    cases l' with
    | nil => exact absurd ((e x).mp (List.mem_cons_self ..)) (by simp)
    | cons y r' =>
      have p := List.pairwise_cons.mp h
      have p' := List.pairwise_cons.mp h'
      have hxy : x = y := by
        rcases List.mem_cons.mp ((e x).mp (List.mem_cons_self ..)) with z | z
        · exact z
        · rcases List.mem_cons.mp ((e y).mpr (List.mem_cons_self ..)) with z' | z'
          · exact z'.symm
          · exact absurd (ltS_trans (p.1 y z') (p'.1 x z)) (ltS_irrefl _)
      subst hxy
      have : r = r' := ih p.2 p'.2 fun z => by
        have q := e z
        simp only [List.mem_cons] at q
        constructor
        · intro hz
          rcases q.mp (.inr hz) with w | w
          · subst w
            exact absurd (p.1 z hz) (ltS_irrefl _)
          · exact w
        · intro hz
          rcases q.mpr (.inr hz) with w | w
          · subst w
            exact absurd (p'.1 z hz) (ltS_irrefl _)
          · exact w
      rw [this]
theorem Can.uniq {es a b : List En} (h : Can es a) (h' : Can es b) : a = b := rise_eq h.1 h'.1 fun x => (h.2.1 x).trans (h'.2.1 x).symm
end L2

set_option Elab.async false
set_option linter.all false
set_option maxRecDepth 100000
namespace L2
open PySem PySem.Spec PyProof.Rows
theorem put_new {es : List En} {k : Str} {n d : Int} (h : k ∉ keys es) : putE es k n d = es ++ [(k, n, d)] := by
  unfold putE
  rw [if_neg fun z => h (any_key.mp z)]
theorem take_next {α : Type} {l : List α} {i : Nat} (hi : i < l.length) : l.take i ++ [l[i]] = l.take (i + 1) := by
  rw [List.take_succ, List.getElem?_eq_getElem hi]
  rfl
theorem same_put1 {G H : Hp} {D : Addr} {u : HO} (sm : Same G H) (hD : G D = none) : Same G (upd H D u) := fun b x e => by
  rw [upd_ne (ne_of_none e hD)]
  exact sm b x e
theorem Dic.step {K : PySem.W.Frag} {H : Hp} {D p : Addr} {es : List En} {i : Nat} (hD : Dic K H D (es.take i)) (hi : i < es.length) (nd : (keys es).Nodup) (hp : H p = none) :
    ∃ kvs : List (Key × V), kvs.length ≤ i ∧ upd H p (.tup [.int es[i].2.1, .int es[i].2.2]) D = some (.dK kvs) ∧ Dic K (upd (upd H p (.tup [.int es[i].2.1, .int es[i].2.2])) D (.dK (putK kvs (Sum.inr es[i].1) (V.ref p)))) D (es.take (i + 1)) := by
  obtain ⟨ws, e, hw⟩ := hD
  have dW : DicW K (upd H p (.tup [.int es[i].2.1, .int es[i].2.2])) D ws := ⟨by rw [upd_ne (ne_of_none hw.1 hp)]; exact hw.1, fun w hx => (same_new hp _).tupq (hw.2 w hx)⟩
  have q := Dic.put (k := es[i].1) e dW (SqT.of (upd_same (H := H) (a := p) (o := .tup [.int es[i].2.1, .int es[i].2.2])))
  refine ⟨_, ?_, dW.1, ?_⟩
  · rw [List.length_map, ← List.length_map (f := (·.1)) (as := ws), e, List.length_take]
    omega
  · have nk : es[i].1 ∉ keys (es.take i) := fun z => by
      unfold keys at z nd
      rw [List.map_take] at z
      have hi' : i < (es.map (·.1)).length := by simpa using hi
      have d1 : ((es.map (·.1)).take i ++ (es.map (·.1)).drop i).Nodup := by rw [List.take_append_drop]; exact nd
      rw [List.nodup_append] at d1
      refine d1.2.2 _ z _ ?_ rfl
      rw [List.drop_eq_getElem_cons hi']
      simp
    rw [put_new nk, take_next hi] at q
    exact q
theorem Led.push {H : Hp} {D p : Addr} {es : List En} {e : En} (h : Led H D es) (hp : H p = none) :
    ∃ ys : List V, ys.length = es.length ∧ upd H p (.tup [.str e.1, .int e.2.1, .int e.2.2]) D = some (.lst ys) ∧ Led (upd (upd H p (.tup [.str e.1, .int e.2.1, .int e.2.2])) D (.lst (ys ++ [V.ref p]))) D (es ++ [e]) := by
  obtain ⟨ws, rfl, h1, h2⟩ := h
  have e0 : D ≠ p := ne_of_none h1 hp
  refine ⟨ws.map fun w => V.ref w.2, by simp, by rw [upd_ne e0]; exact h1, ws ++ [(e, p)], by simp, by rw [upd_same]; simp, fun w hw => ?_⟩
  rcases List.mem_append.mp hw with hw | hw
  · have z := h2 w hw
    rw [upd_ne (ne_of z h1 (by intro y; cases y)), upd_ne (ne_of_none z hp)]
    exact z
  · rw [List.mem_singleton.mp hw]
    have n : p ≠ D := Ne.symm e0
    rw [upd_ne n, upd_same]
theorem Led.len {H : Hp} {l : Addr} {es : List En} (h : Led H l es) : ∃ xs, H l = some (.lst xs) ∧ xs.length = es.length := by
  obtain ⟨ws, rfl, h1, _⟩ := h
  exact ⟨_, h1, by simp⟩
theorem Led.at {H : Hp} {l : Addr} {es : List En} {xs : List V} {i : Nat} {x : V} (h : Led H l es) (hl : H l = some (.lst xs)) (hx : xs[i]? = some x) : ∃ (p : Addr) (e : En), x = .ref p ∧ es[i]? = some e ∧ H p = some (.tup [.str e.1, .int e.2.1, .int e.2.2]) := by
  obtain ⟨ws, rfl, h1, h2⟩ := h
  rw [h1] at hl
  cases hl
  rw [List.getElem?_map] at hx
  cases z : ws[i]? with
  | none => rw [z] at hx; cases hx
  | some w =>
    rw [z] at hx
    refine ⟨w.2, w.1, (Option.some.inj hx).symm, by rw [List.getElem?_map, z]; rfl, h2 w (List.mem_of_getElem? z)⟩
end L2

set_option Elab.async false
set_option linter.all false
set_option maxRecDepth 100000
namespace L2
open PySem PySem.Spec PyProof.Rows
section
variable {P : Program} {w : World} {K : PySem.W.Frag} {mg : Str → Option Value} {base : Heap} {N : List Str} {qual : Str} {scope : Scope} {f : Addr} {cd : Value} {A : Around} {outer : List Env} {s0 : Shared} {H0 : Hp} {E : XK}
theorem passR : Passes (CXR P w base) (cxOf (CXR P w base) P w K mg base N qual scope f cd A outer s0 H0 E) E := by
  intro pins σ H s e s2 I h
  obtain ⟨ex, T0, C, H2, rfl, os, bare, un, hok, fly, Ha, HT, ha, hT, q2⟩ := h
  have I2 : Inv (cxOf (CXR P w base) P w K mg base N qual scope f cd A outer s0 H0 E) pins σ H2 s2 := I.call' (ch := []) os un hok bare fun b z => absurd z (by simp)
  obtain ⟨y1, y2, y3, a0, oe0, vs0, oT0, ts0, z1, z2, z3, z4, z5, z6, z7, z8, z9⟩ := fly
  let fr := frs (envOfC qual scope s0.heap.objs.size f cd :: outer)
  let B := PySem.W.hideAll s2.heap (ex :: T0 :: fr)
  have hin : ∀ env ∈ (envOfC qual scope s0.heap.objs.size f cd :: outer), ∀ b, env.frame = some b → b ∈ ex :: T0 :: fr := fun env he b hb => List.mem_cons_of_mem _ (List.mem_cons_of_mem _ (List.mem_filterMap.mpr ⟨env, he, hb⟩))
  have stk : s2.heap.FunFrames base (envOfC qual scope s0.heap.objs.size f cd :: outer) := I2.stack
  have notL : ∀ b o, s0.heap.get? b = some o → b ≠ s0.heap.objs.size := fun b o e => Nat.ne_of_lt (Heap.lt_size e)
  have inB : ∀ b o, s2.heap.get? b = some o → b ∉ ex :: T0 :: fr → B.get? b = some o := fun b o e n => PySem.W.hideAll_get _ e n
  have hid : ∀ b, b ∈ ex :: T0 :: fr → B.get? b = none := fun b hb => PySem.W.hideAll_none _ hb
  have up : ∀ b o, s0.heap.get? b = some o → ∃ o', s.heap.get? b = some o' := fun b o z => I.base.there b o z (fun q => absurd (show b ∈ ([] : List Addr) from q) (by simp))
  have no0 : ∀ b, s.heap.get? b = none → s0.heap.get? b = none := fun b n => by
    cases z : s0.heap.get? b with
    | none => rfl
    | some o =>
      obtain ⟨o', z'⟩ := up b o z
      rw [n] at z'; cases z'
  have no2 : ∀ b, s2.heap.get? b = none → s0.heap.get? b = none := fun b n => by
    cases z : s0.heap.get? b with
    | none => rfl
    | some o =>
      obtain ⟨o', z'⟩ := I2.base.there b o z (fun q => absurd (show b ∈ ([] : List Addr) from q) (by simp))
      rw [n] at z'; cases z'
  have nex : ∀ b, b ∉ (cxOf (CXR P w base) P w K mg base N qual scope f cd A outer s0 H0 E).ex := fun b q => absurd (show b ∈ ([] : List Addr) from q) (by simp)
  have notIn : ∀ b o, s0.heap.get? b = some o → b ∉ frs outer → b ∉ ex :: T0 :: fr := fun b o z n hb => by
    rcases List.mem_cons.mp hb with r | hb
    · rw [r, no0 _ ha] at z; cases z
    · rcases List.mem_cons.mp hb with r | hb
      · rw [r, no0 _ hT] at z; cases z
      · exact I2.stkNo (notL b o z) n hb
  show wpAny (model P w) (A.deeper (envOfC qual scope s0.heap.objs.size f cd)) (leaving (envOfC qual scope s0.heap.objs.size f cd) (.ref ex)) (fun _ s'' => CXR P w base outer H0 s0 E (.ref ex) s'') (fun e' s'' => CXR P w base outer H0 s0 E e' s'') s2
  refine wpAny_leaves_onW (base := B) (L := s0.heap.objs.size) (cls := C) (a0 := a0) I2.ok.frames rfl ⟨fun b o z => PySem.W.of_hideAll _ z, hid ex (List.mem_cons_self ..), PySem.W.funFrames_hide stk hin, oe0, vs0, T0, oT0, ts0, z1, z2, z3, z4, hid T0 (List.mem_cons_of_mem _ (List.mem_cons_self ..)), z6, z7, z8, z9⟩ fun h'' fl U => ?_
  obtain ⟨f1, f2, f3, oe, vs, Tr, oT, ts, g1, g2, g3, g4, g5, g6, g7, g8, g9⟩ := fl
  have U2 : ∀ b o, s2.heap.get? b = some o → (∀ vs, o.data ≠ .fields vs) → ∃ sl, h''.get? b = some { o with slots := sl } := fun b o z n => U b o z n
  have baseB : base.StaysIn B := fun b o z => inB b o (I2.bk b o z) fun hb => by
    rcases List.mem_cons.mp hb with r | hb
    · rw [r, y2] at z; cases z
    · rcases List.mem_cons.mp hb with r | hb
      · rw [r, z5] at z; cases z
      · rw [(stk.mem hb).1] at z; cases z
  have trN : H2 Tr = none ∧ s0.heap.get? Tr = none := by
    cases z : s2.heap.get? Tr with
    | none => exact ⟨I2.untr z, no2 _ z⟩
    | some o =>
      by_cases hb : Tr ∈ ex :: T0 :: fr
      · rcases List.mem_cons.mp hb with r | hb
        · exact absurd r g6
        · rcases List.mem_cons.mp hb with r | hb
          · rw [r]; exact ⟨HT, no0 _ hT⟩
          · obtain ⟨_, o', ho', d'⟩ := stk.mem hb
            obtain ⟨sl, z2'⟩ := U2 Tr o' ho' d'
            rw [g7] at z2'
            have z3' := congrArg (fun q : Option Obj => q.map (·.data)) z2'
            simp only [Option.map_some, g8] at z3'
            exact absurd (Option.some.inj z3').symm (d' ts)
      · rw [inB Tr o z hb] at g5
        cases g5
  refine ⟨ex, Tr, C, H2, rfl, I2.os, I2.bare, ⟨fun b o z n hb _ => ?_, fun b o z n hb _ => ?_, fun b o z n _ => I2.base.free b o z n (nex b), fun b o z _ => ?_, I2.base.tups, I2.base.frzs, I2.base.tbls⟩, fun b u z => ?_, ⟨fun b o z => f1 b o (baseB b o z), y2, PySem.W.funFrames_base baseB f3, a0, oe, vs, oT, ts, g1, g2, g3, g4, ?_, g6, g7, g8, g9⟩, Ha, trN.1, no0 _ ha, trN.2, q2⟩
  · exact f1 b o (inB b o (I2.base.keep b o z n hb (nex b)) (notIn b o z hb))
  · obtain ⟨sl, w1⟩ := I2.base.slot b o z n hb (nex b)
    obtain ⟨_, o', ho', d'⟩ := I2.ok.funs.mem hb
    have : o' = o := by rw [show (cxOf (CXR P w base) P w K mg base N qual scope f cd A outer s0 H0 E).s₀.heap.get? b = some o from z] at ho'; exact (Option.some.inj ho').symm
    subst this
    obtain ⟨sl', w2⟩ := U2 b _ w1 (fun vs => d' vs)
    exact ⟨sl', w2⟩
  · by_cases hb : b ∈ fr
    · obtain ⟨_, o', ho', d'⟩ := stk.mem hb
      obtain ⟨sl, w2⟩ := U2 b o' ho' d'
      exact ⟨_, w2⟩
    · obtain ⟨o', z'⟩ := I2.base.there b o z (nex b)
      refine ⟨o', f1 b o' (inB b o' z' fun hb' => ?_)⟩
      rcases List.mem_cons.mp hb' with r | hb'
      · rw [r, no0 _ ha] at z; cases z
      · rcases List.mem_cons.mp hb' with r | hb'
        · rw [r, no0 _ hT] at z; cases z
        · exact hb hb'
  · refine (I2.hok b u z).stay (fun c v hc q => ?_) (fun _ q => q) fun _ _ q => q
    have tr : ∀ c v, H2 c = some v → c ∉ ex :: T0 :: fr := fun c v q n => by
      rcases List.mem_cons.mp n with r | n
      · rw [r, Ha] at q; cases q
      · rcases List.mem_cons.mp n with r | n
        · rw [r, HT] at q; cases q
        · rw [I2.stkFree c n] at q; cases q
    rcases hc with hc | hc
    · rw [hc] at q ⊢
      exact f1 b v (inB b v q (tr b u z))
    · exact f1 c v (inB c v q (tr c _ hc))
  · cases z : base.get? Tr with
    | none => rfl
    | some o =>
      rw [baseB Tr o z] at g5
      cases g5
end
noncomputable def tFnX (sp : Sp) (E : XK) (t : TA) : TE := fun σ H Q => t σ H fun vs H1 => sp vs H1 Q E
theorem pe_fnX {X : Cx} {k : Nat} {x : Str} {ps : List Str} {sp : Sp} {E : XK} {p pos : Pos} {e : Expr} {es : List Expr} {t : TA} (hx : Passes (CXR X.prog X.w X.base) X E) (D : Dx X.prog X.w X.K X.mg X.base k x ps sp) (hr : Room k X.A) (ha : PA X (e :: es) t) (hg : Gl X x := by rfl) (hdb : (x == ("__debug__" : Str)) = false := by decide)
    (he : starEach (e :: es) X.env = (false, eval e X.env) :: starEach es X.env := by rfl) (hpl : (backTo pos (starEach es X.env)).any (·.1) = false := by rfl) :
    PE X (.Call (.Name x p) (e :: es) [] pos) (tFnX sp E t) := by
  obtain ⟨f, fd, F, hm, hk, hb⟩ := D.ex
  have q := pe_call (p := p) (pos := pos) F hr hg hm hk hb .nil hx ha hdb he hpl
  have e : tCall sp [] E t = tFnX sp E t := by
    funext σ H Q
    show t σ H (fun vs H1 => sp (vs ++ []) H1 Q E) = t σ H fun vs H1 => sp vs H1 Q E
    simp only [List.append_nil]
  rw [← e]
  exact q
end L2

set_option Elab.async false
set_option linter.all false
set_option maxRecDepth 100000
namespace L2
open PySem PySem.Spec PyProof.Rows
theorem relK {k : Key} {u : Value} (h : keyIs k u = true) : RelV (kV k) u := by
  rcases keyIs_shape h with ⟨i, t, e, rfl⟩ | ⟨x, t, e, rfl⟩
  · subst e; exact ⟨t, rfl⟩
  · subst e; exact ⟨t, rfl⟩
theorem frz_at {X : Cx} {pins : List (Addr × Obj)} {σ : St} {H : Hp} {s : Shared} {d : Addr} {o : Obj} {kvs : List (Key × V)} {es : Array DictEntry} {ep : Nat} (I : Inv X pins σ H s) (h : H d = some (.frz o (.dK kvs))) (ho : o.data = .dict es ep) :
    ∃ vs, KV kvs vs ∧ s.heap.DictAt (mixKind X.prog X.w) d vs ep := by
  obtain ⟨g, _, _, vs, rel, dd⟩ := (show ObjOk X.prog X.w H s.heap d (.frz o (.dK kvs)) from I.hok d _ h)
  obtain ⟨ep', hat⟩ := dd.dictAt
  obtain ⟨o', es', h1, h2, h3, h4⟩ := id hat
  rw [g] at h1
  cases h1
  rw [ho] at h3
  cases h3
  exact ⟨vs, rel, hat⟩
noncomputable def Itd (d : Addr) (o : Obj) (kvs : List (Key × V)) : It :=
  ⟨fun i H => H d = some (.frz o (.dK kvs)) ∧ i < kvs.length, fun i H x H' => H' = H ∧ ∃ k v, kvs[i]? = some (k, v) ∧ x = kV k, fun i H => H d = some (.frz o (.dK kvs)) ∧ kvs.length ≤ i⟩
theorem turn_dict {P : Program} {w : World} {K : PySem.W.Frag} {tg : Expr} (d it : Addr) (o : Obj) (kvs : List (Key × V)) (es : Array DictEntry) (ep : Nat) (ho : o.data = .dict es ep) : Turn P w K tg (Itd d o kvs) [it] it (fun i h => h.IsKeyIter it d i kvs.length ep) where
  mem := by simp
  obj := fun i h st b hb => by
    have e : b = it := by simpa using hb
    subst e
    obtain ⟨o, e, c, d⟩ := st
    exact ⟨o, e, fun v z => by rw [d] at z; cases z⟩
  keep := fun i h h' st k => st.at fun o e => k it (by simp) o e
  item := by
    intro X hP hw hK hc i pins s σ H E I hf st hg
    subst hP hw hK
    obtain ⟨hfr, hi⟩ := hg
    obtain ⟨vs, rel, hat⟩ := frz_at I hfr ho
    have hl : kvs.length = vs.length := rel.length
    obtain ⟨⟨k, x⟩, hx⟩ : ∃ p, vs[i]? = some p := ⟨vs[i]'(by omega), List.getElem?_eq_getElem (by omega)⟩
    obtain ⟨y, hy⟩ := kv_at rel hx
    obtain ⟨f0, f1, f2, f3, f4, f5⟩ := hf it (by simp)
    rw [hl] at st
    refine wpAny_pyNext_dict_item st hat hx fun key h' hkey st' sb => ?_
    have I1 : Inv X pins σ H { s with heap := h' } := I.turned (t' := s.toks) (fun b o hb e => (sb.2 b hb).trans e) f0 f1 f3 f4 f5
    rw [← hl] at st'
    obtain ⟨o2, e, c, d2⟩ := id st'
    exact ⟨key, rfl, go_of (s := { s with heap := h' }) e c d2 (by decide) ⟨kV k, H, I1, relK hkey, ⟨rfl, k, y, hy, rfl⟩, st', fun b hb => (hf b hb).1⟩⟩
  done := by
    intro X hP hw hK hc i pins s σ H E I hf st hg
    subst hP hw hK
    obtain ⟨hfr, hi⟩ := hg
    obtain ⟨vs, rel, hat⟩ := frz_at I hfr ho
    have hl : kvs.length = vs.length := rel.length
    obtain ⟨f0, f1, f2, f3, f4, f5⟩ := hf it (by simp)
    rw [hl] at st
    exact wpAny_pyNext_dict_end (I.ok.hd hc) st hat (by simp; omega) fun h' eb => ⟨rfl, I.turned (t' := s.toks) (fun b o hb e => eb b o hb e) f0 f1 f3 f4 f5⟩
  self := fun _ _ _ _ _ st h => wpAny_pyIter_keyiter st h
noncomputable def iDict (tl : TE) : TI := fun σ H R => tl σ H fun x H1 => ∃ d kvs, x = .ref d ∧ H1 d = some (.dK kvs) ∧ ∀ o, R (Itd d o kvs) (upd H1 d (.frz o (.dK kvs)))
theorem pi_dict {X : Cx} {tg l : Expr} {tl : TE} (hl : PE X l tl) : PI X tg l (iDict tl) := by
  intro pins s σ H R I h
  refine thn (hl pins s σ H _ I h) fun v s1 zz9 => ?_
  obtain ⟨x, H1, I1, r1, q1⟩ := zz9
  obtain ⟨d, kvs, e, hd, q⟩ := q1
  subst e
  cases r1
  obtain ⟨z, lo, vs, rel, dd⟩ := dk_of I1.hok hd
  obtain ⟨ep, hat⟩ := dd.dictAt
  obtain ⟨o, es, h1, h2, h3, h4⟩ := id hat
  have hl : kvs.length = vs.length := rel.length
  have I2 : Inv X pins σ (upd H1 d (.frz o (.dK kvs))) s1 := I1.write (t' := s1.toks) (h' := s1.heap) (x := d) (e := d) (by rw [hd]; exact True.intro) (.inl rfl) (fun b u _ q => q) ⟨o, h1⟩ ⟨h1, z, lo, vs, rel, dd⟩
  refine wpAny_pyIter_dict lo hat ?_
  refine ⟨s1.heap.objs.size, [s1.heap.objs.size], _, _, _, rfl, I2.kept (t' := s1.toks) fun b o e => Heap.get?_push_of_some _ e, turn_dict d _ o kvs es ep h3, ⟨_, Heap.get?_push_size _ rfl, rfl, by rw [hl]; rfl⟩, fun b hb => ?_, q o⟩
  have e : b = s1.heap.objs.size := by simpa using hb
  subst e
  exact I2.fpOk (Nat.le_refl _) (I2.hok.fresh (Nat.le_refl _))
end L2

set_option Elab.async false
set_option linter.all false
set_option maxRecDepth 100000
namespace L2
open PySem PySem.Spec PyProof.Rows
end L2

set_option Elab.async false
set_option linter.all false
namespace L2
open PySem PySem.Spec PyProof.Rows
noncomputable def vl (n d : Int) : Rat := (n : Rat) / (d : Rat)
end L2

set_option Elab.async false
set_option linter.all false
set_option maxRecDepth 100000
namespace L2
open PySem PySem.Spec PyProof.Rows
theorem vals_sv : ∀ (l : List (Str × Tok)), Vals ((l.map (·.1)).map V.str) (strValues l)
  | [] => .nil
  | (x, t) :: r => .cons ⟨t, rfl⟩ (vals_sv r)
section
variable {X : Cx}
theorem op_gt_str : OpR X (compareOp .Gt) (fun x y H Q => ∃ i j, x = .str i ∧ y = .str j ∧ Q (.bl (decide (j.cps.toList < i.cps.toList))) H) := by
  intro pins s σ H x y v u Q I rx ry h
  obtain ⟨i, j, rfl, rfl, q⟩ := h
  obtain ⟨t, rfl⟩ := rx
  obtain ⟨t', rfl⟩ := ry
  exact PySem.P.gt_str (fin_bl I q rfl)
theorem call_int_text : CallR X (.type "int") (fun xs H Q => ∃ z n, xs = [.str z] ∧ PySem.intText? z = some n ∧ z.length ≤ 640 ∧ Q (.int n) H) := by
  intro pins s σ H xs us Q I r h
  obtain ⟨z, n, rfl, hn, hl, q⟩ := h
  obtain ⟨u, rfl, t, rfl⟩ := vals1 r
  exact PySem.W.KIN.call_text hn hl ⟨.int n, H, I.tok _, ⟨_, rfl⟩, q⟩
noncomputable def rSplit : V → List V → Hp → VK → Prop := fun x xs H Q => ∃ z y, x = .str z ∧ xs = [.str y] ∧ (y.length == 0) = false ∧ z.length ≤ sizeLine ∧ (Builtin.Str.partsBetween z (Builtin.Str.occurrences z y 0 z.length (z.length + 1)) y.length).length ≤ sizeLine ∧
  ∀ l, H l = none → Q (.ref l) (upd H l (.lst ((Txt.split z y).map V.str)))
theorem mt_split : MtR X "str.split" rSplit := by
  intro pins s σ H x xs v us Q I rx rv h
  obtain ⟨z, y, rfl, rfl, hy, hz, hz2, q⟩ := h
  obtain ⟨t, rfl⟩ := rx
  obtain ⟨u, rfl, t', rfl⟩ := vals1 rv
  have fin : ∀ (l : List (Str × Tok)) (tk : Nat), l.map (·.1) = Txt.split z y → l.length ≤ sizeLine → EP X pins σ Q (.ref s.heap.objs.size) { s with heap := s.heap.push { cls := .type "list", data := .seq (strValues l).toArray }, toks := tk } := fun l tk e hl =>
    ⟨.ref s.heap.objs.size, _, I.laid (t' := tk) (o := .lst ((Txt.split z y).map V.str)) (fun _ _ w => Heap.get?_push_of_some _ w) (Nat.le_refl _) ⟨by rw [List.length_map, ← e, List.length_map]; exact hl, strValues l, 0, by rw [← e]; exact vals_sv l, Heap.get?_push_size _ rfl⟩, rfl, q _ I.fresh⟩
  cases h1 : (decide (z.length < y.length) || decide (Builtin.Str.strKind z < Builtin.Str.strKind y))
  · cases hf : (Builtin.Str.occurrences z y 0 z.length (z.length + 1)).isEmpty
    · refine call_meets F.slot_str_split (typeIs_str _ _ _) F.entry_str_split (F.args_str_split_2 _ _) (meets_str_split_sep z y t t' h1 hy hf hz hz2) ?_
      have w := fin (numbered s.toks (Builtin.Str.partsBetween z (Builtin.Str.occurrences z y 0 z.length (z.length + 1)) y.length)) (s.toks + (Builtin.Str.partsBetween z (Builtin.Str.occurrences z y 0 z.length (z.length + 1)) y.length).length) ((numbered_texts _ _).trans (by unfold Txt.split; rw [h1, hf]; rfl)) (by rw [← List.length_map (f := (·.1)), numbered_texts]; exact hz2)
      rw [← strsFrom_eq] at w
      exact w
    · exact call_meets F.slot_str_split (typeIs_str _ _ _) F.entry_str_split (F.args_str_split_2 _ _) (meets_str_split_not_found z y t t' h1 hy hf) (fin [(z, t)] s.toks (by unfold Txt.split; rw [h1, hf]; rfl) (by show 1 ≤ sizeLine; decide))
  · exact call_meets F.slot_str_split (typeIs_str _ _ _) F.entry_str_split (F.args_str_split_2 _ _) (meets_str_split_cannot_occur z y t t' h1) (fin [(z, t)] s.toks (by unfold Txt.split; rw [h1]; rfl) (by show 1 ≤ sizeLine; decide))
noncomputable def rRpart : V → List V → Hp → VK → Prop := fun x xs H Q => ∃ z y, x = .str z ∧ xs = [.str y] ∧ (y.length == 0) = false ∧ z.length ≤ sizeLine ∧
  ∀ l, H l = none → Q (.ref l) (upd H l (.tup (match Builtin.Str.lastOccurrence z y 0 z.length with | some i => [V.str (Builtin.Str.strSub z 0 i), V.str y, V.str (Builtin.Str.strSub z (i + y.length) z.length)] | none => [V.str Str.empty, V.str Str.empty, V.str z])))
theorem mt_rpart : MtR X "str.rpartition" rRpart := by
  intro pins s σ H x xs v us Q I rx rv h
  obtain ⟨z, y, rfl, rfl, hy, hz, q⟩ := h
  obtain ⟨t, rfl⟩ := rx
  obtain ⟨u, rfl, t', rfl⟩ := vals1 rv
  refine call_meets F.slot_str_rpartition (typeIs_str _ _ _) F.entry_str_rpartition (F.args_str_rpartition_2 _ _) (meets_str_rpartition z y t t' hy hz) ?_
  revert q
  cases Builtin.Str.lastOccurrence z y 0 z.length with
  | some i =>
    intro q
    exact ⟨.ref s.heap.objs.size, _, I.laid (t' := s.toks + 1 + 1) (o := .tup [V.str (Builtin.Str.strSub z 0 i), V.str y, V.str (Builtin.Str.strSub z (i + y.length) z.length)]) (fun _ _ w => Heap.get?_push_of_some _ w) (Nat.le_refl _) ⟨by show 3 ≤ sizeLine; decide, _, .cons ⟨_, rfl⟩ (.cons ⟨_, rfl⟩ (.cons ⟨_, rfl⟩ .nil)), IsTup.new _ _⟩, rfl, q _ I.fresh⟩
  | none =>
    intro q
    exact ⟨.ref s.heap.objs.size, _, I.laid (t' := s.toks + 1) (o := .tup [V.str Str.empty, V.str Str.empty, V.str z]) (fun _ _ w => Heap.get?_push_of_some _ w) (Nat.le_refl _) ⟨by show 3 ≤ sizeLine; decide, _, .cons ⟨_, rfl⟩ (.cons ⟨_, rfl⟩ (.cons ⟨_, rfl⟩ .nil)), IsTup.new _ _⟩, rfl, q _ I.fresh⟩
noncomputable def rRfind : V → List V → Hp → VK → Prop := fun x xs H Q => ∃ z y, x = .str z ∧ xs = [.str y] ∧ Q (.int (match Builtin.Str.lastOccurrence z y 0 z.length with | some i => (i : Int) | none => -1)) H
theorem mt_rfind : MtR X "str.rfind" rRfind := by
  intro pins s σ H x xs v us Q I rx rv h
  obtain ⟨z, y, rfl, rfl, q⟩ := h
  obtain ⟨t, rfl⟩ := rx
  obtain ⟨u, rfl, t', rfl⟩ := vals1 rv
  refine call_meets F.slot_str_rfind (typeIs_str _ _ _) F.entry_str_rfind (F.args_str_rfind_2 _ _) (gives_str_rfind z y t t').meets ?_
  exact ⟨.int _, H, I.tok _, ⟨_, rfl⟩, q⟩
noncomputable def Its (x : Str) : It := ⟨fun i _ => i < x.cps.size, fun i H v H' => H' = H ∧ ∃ c, x.cps[i]? = some c ∧ v = .str ⟨#[c]⟩, fun i _ => x.cps.size ≤ i⟩
theorem walk_str {prog : Program} {w : World} {A : Around} (hh : A.handled = none) (it : Addr) (x : Str) (t : Tok) : Walks prog w A it [it] [it] x.cps.size (SignAt x) (fun i h => h.IsStrIter it (strIterType x) x t i) := by
  cases ha : x.cps.all (· < 128) with
  | true =>
    have e : strIterType x = "str_ascii_iterator" := by unfold strIterType; rw [ha]; rfl
    rw [e]
    exact Walks.strAscii hh it x t
  | false =>
    have e : strIterType x = "str_iterator" := by unfold strIterType; rw [ha]; rfl
    rw [e]
    exact Walks.strWide hh it x t
theorem turn_str {P : Program} {w : World} {K : PySem.W.Frag} {tg : Expr} (it : Addr) (x : Str) (t : Tok) : Turn P w K tg (Its x) [it] it (fun i h => h.IsStrIter it (strIterType x) x t i) where
  mem := by simp
  obj := fun i h st b hb => by
    have e : b = it := by simpa using hb
    subst e
    obtain ⟨o, e, c, d⟩ := st
    exact ⟨o, e, fun v z => by rw [d] at z; cases z⟩
  keep := fun i h h' st k => by
    obtain ⟨o, e, r⟩ := st
    exact ⟨o, k it (by simp) o e, r⟩
  item := by
    intro X hP hw hK hc i pins s σ H E I hf st hg
    subst hP hw hK
    obtain ⟨f0, f1, f2, f3, f4, f5⟩ := hf it (by simp)
    refine (walk_str (prog := X.prog) (w := X.w) (I.ok.hd hc) it x t).item i s _ _ hg st fun v h' tk hv st' kk => ?_
    obtain ⟨c, u, hc', rfl⟩ := hv
    have I1 : Inv X pins σ H { s with heap := h', toks := tk } := I.turned (fun b o hb e => kk b o (by simpa using hb) e) f0 f1 f3 f4 f5
    obtain ⟨o2, e, cl, d2⟩ := id st'
    refine ⟨_, rfl, go_of (s := { s with heap := h', toks := tk }) e cl d2 ?_ ⟨.str ⟨#[c]⟩, H, I1, ⟨u, rfl⟩, ⟨rfl, c, hc', rfl⟩, st', fun b hb => (hf b hb).1⟩⟩
    unfold strIterType
    cases x.cps.all (· < 128) <;> decide
  done := by
    intro X hP hw hK hc i pins s σ H E I hf st hg
    subst hP hw hK
    obtain ⟨f0, f1, f2, f3, f4, f5⟩ := hf it (by simp)
    have hn : x.cps[i]? = none := Array.getElem?_eq_none hg
    have fin : ∀ h', Heap.ExtBut it s.heap h' → (none : Option Value) = none ∧ Inv X pins σ H { s with heap := h' } := fun h' eb => ⟨rfl, I.turned (t' := s.toks) (fun b o hb e => eb b o hb e) f0 f1 f3 f4 f5⟩
    cases ha : x.cps.all (· < 128) with
    | true =>
      rw [show strIterType x = "str_ascii_iterator" by unfold strIterType; rw [ha]; rfl] at st
      exact wpAny_pyNext_ascii_end (I.ok.hd hc) st hn fin
    | false =>
      rw [show strIterType x = "str_iterator" by unfold strIterType; rw [ha]; rfl] at st
      exact wpAny_pyNext_wide_end (I.ok.hd hc) st hn fin
  self := fun _ i s _ _ st h => by
    cases ha : x.cps.all (· < 128) with
    | true =>
      rw [show strIterType x = "str_ascii_iterator" by unfold strIterType; rw [ha]; rfl] at st
      exact wpAny_pyIter_striter_ascii st h
    | false =>
      rw [show strIterType x = "str_iterator" by unfold strIterType; rw [ha]; rfl] at st
      exact wpAny_pyIter_striter_wide st h
noncomputable def iStr (tl : TE) : TI := fun σ H R => tl σ H fun x H1 => ∃ z, x = .str z ∧ R (Its z) H1
theorem pi_str {tg l : Expr} {tl : TE} (hl : PE X l tl) : PI X tg l (iStr tl) := by
  intro pins s σ H R I h
  refine thn (hl pins s σ H _ I h) fun v s1 zz9 => ?_
  obtain ⟨x, H1, I1, r1, q1⟩ := zz9
  obtain ⟨z, e, q⟩ := q1
  subst e
  obtain ⟨t, rfl⟩ := r1
  refine wpAny_pyIter_strU ?_
  refine ⟨s1.heap.objs.size, [s1.heap.objs.size], _, _, H1, rfl, I1.kept (t' := s1.toks) fun b o e => Heap.get?_push_of_some _ e, turn_str _ z t, ⟨_, Heap.get?_push_size _ rfl, rfl, rfl⟩, fun b hb => ?_, q⟩
  have e : b = s1.heap.objs.size := by simpa using hb
  subst e
  exact I1.fpOk (Nat.le_refl _) (I1.hok.fresh (Nat.le_refl _))
noncomputable def gStar (K : PySem.W.Frag) (t : TGs) : TG := fun v σ H Q => ∃ l x xs, v = .ref l ∧ SqL K H l (x :: xs) ∧ xs.length ≤ 10000 ∧ ∀ D, H D = none → t [x, .ref D] σ (upd H D (.lst xs)) Q
theorem pg_star {a b : Expr} {k : Nat} {sp pos : Pos} {t : TGs} (hc : X.calm = true) (h : PGs X [a, b] t)
    (hn : (assignEach [a, .Starred b sp] X.env).length = 2 := by rfl) (hst : (assignEach [a, .Starred b sp] X.env).findIdx? (·.1) = some 1 := by rfl) (hm : (assignEach [a, .Starred b sp] X.env).map (·.2) = (assignEach [a, b] X.env).map (·.2) := by rfl) : PG X (.Tuple [a, .Starred b sp] k pos) (gStar X.K t) := by
  intro pins s σ H v u Q I r hw
  obtain ⟨l, x, xs, e1, hq, hl, hw⟩ := hw
  subst e1
  cases r
  obtain ⟨its, rv, pl, hz⟩ := I.list hq
  have hL := pl.isList
  obtain ⟨vx, its', rfl, rx, rr⟩ : ∃ vx its', its = vx :: its' ∧ RelV x vx ∧ Vals xs its' := by
    cases rv with
    | cons p q => exact ⟨_, _, rfl, p, q⟩
  have hll : l < s.heap.objs.size := by obtain ⟨_, z, _⟩ := hL; exact Heap.lt_size z
  have hne : l ≠ s.heap.objs.size := Nat.ne_of_lt hll
  have hsz : (vx :: its').toArray.size = its'.length + 1 := by simp
  have hil : its'.length = xs.length := rr.length.symm
  rw [assign_Tuple]
  refine wpAny_bind (wpAny_standAt ?_)
  unfold unpack
  rw [hn, hst, hm]
  refine wpAny_bind (wpAny_holding ?_)
  unfold unpackItems notIterableAtAll
  refine wpAny_bind (wpAny_bind (wpAny_specialOf hL.typeIs slot_list_iter.lookup (wpAny_pure ?_)))
  simp only [Bool.false_eq_true, if_false]
  refine wpAny_bind (wpAny_holding (wpAny_pyIter_list hL ?_))
  refine wpAny_bind (wpAny_holding (PySem.W.kun_draw hne 1 0 _ _ ⟨_, Heap.get?_push_size _ rfl, rfl, rfl⟩ (hL.push _) (by rw [hsz]; omega) fun g1 hit1 sb1 => ?_))
  have hL1 : g1.IsList l (vx :: its').toArray := (hL.push _).extBut sb1.extBut hne
  obtain ⟨oi, hoi, _⟩ := id hit1
  obtain ⟨ol, hol, _⟩ := id hL1
  have tk1 : (((vx :: its').toArray.toList.drop 0).take 1) = [vx] := rfl
  rw [tk1]
  rw [if_neg (show ¬ ([vx].length < 1) by simp)]
  refine wpAny_bind (wpAny_holding (PySem.W.kun_collect (s := { s with heap := g1 }) (T := "list_iterator") (.inr (.inr (.inl rfl))) (Walks.list (A := X.A.in1) (I.ok.hd hc) s.heap.objs.size l hne (vx :: its').toArray) (fun j w st => st.1.typeIs) (k := 1) (by rw [hsz]; omega) ⟨hit1, hL1⟩ (Heap.lt_size hoi) (Heap.lt_size hol) (fun g2 tk kp => ?_) (by rw [hsz, sizeLine_eq]; omega)))
  have dr : (vx :: its').toArray.toList.drop 1 = its' := rfl
  rw [dr]
  show wpAny _ _ (if its'.length < 2 - 1 - 1 then _ else _) _ _ _
  rw [if_neg (by omega)]
  show wpAny _ _ (newList (its'.take (its'.length - (2 - 1 - 1))) >>= fun d => pure ([vx] ++ [d] ++ its'.drop (its'.length - (2 - 1 - 1)))) _ _ _
  rw [show its'.length - (2 - 1 - 1) = its'.length by omega, List.take_length, List.drop_length]
  have keep : ∀ b o, s.heap.get? b = some o → g2.get? b = some o := fun b o e => kp b o (Nat.ne_of_lt (Heap.lt_size e)) (sb1.extBut b o (Nat.ne_of_lt (Heap.lt_size e)) (Heap.get?_push_of_some _ e))
  have I1 : Inv X pins σ H { s with heap := g2, toks := tk } := I.kept keep
  refine wpAny_bind (wpAny_newList ?_ (by rw [sizeLine_eq]; omega))
  refine wpAny_pure ?_
  have I2 := Inv.laid (s := { s with heap := g2, toks := tk }) (h' := g2.push { cls := .type "list", data := .seq its'.toArray }) (t' := tk) (o := .lst xs) I1 (fun _ _ w => Heap.get?_push_of_some _ w) (Nat.le_refl _) ⟨by rw [sizeLine_eq]; omega, its', 0, rr, Heap.get?_push_size _ rfl⟩
  exact h pins _ σ _ [x, .ref g2.objs.size] [vx, .ref g2.objs.size] Q I2 (.cons rx (.cons rfl .nil)) (hw _ I1.fresh)
end
end L2

set_option Elab.async false
set_option linter.all false
namespace L2
open PySem PySem.Spec PyProof.Rows PySem.StrLaws
noncomputable def dot : Str := "."
noncomputable def inR (a b c : Nat) : Bool := decide (a ≤ c) && decide (c ≤ b)
noncomputable def gw (x : Str) : Bool := decide (1 ≤ x.length) && decide (x.length ≤ 8) && x.cps.toList.all (inR 97 122) && !(decide (x = "crown") || decide (x = "kids"))
noncomputable def gn (x : Str) : Bool := decide (1 ≤ x.length) && decide (x.length ≤ 2) && x.cps.toList.all (inR 48 57) && !decide (x.cps.toList.head? = some 48)
noncomputable def iv (x : Str) : Int := (PySem.intText? x).getD 0
theorem iv_tab : (∀ c ∈ List.range 9, PySem.intText? ⟨#[49 + c]⟩ = some (iv ⟨#[49 + c]⟩) ∧ 1 ≤ iv ⟨#[49 + c]⟩) ∧ ∀ c ∈ List.range 9, ∀ d ∈ List.range 10, PySem.intText? ⟨#[49 + c, 48 + d]⟩ = some (iv ⟨#[49 + c, 48 + d]⟩) ∧ 1 ≤ iv ⟨#[49 + c, 48 + d]⟩ := by decide +kernel
theorem iv_gn {x : Str} (h : gn x = true) : PySem.intText? x = some (iv x) ∧ 1 ≤ iv x := by
  unfold gn at h
  simp only [Bool.and_eq_true, decide_eq_true_eq, Bool.not_eq_true', decide_eq_false_iff_not] at h
  obtain ⟨⟨⟨h1, h2⟩, h3⟩, h4⟩ := h
  obtain ⟨⟨l⟩⟩ := x
  have h1' : 1 ≤ l.length := h1
  have h2' : l.length ≤ 2 := h2
  match l, h1', h2', h3, h4 with
  | [c], _, _, h3, h4 =>
    simp [inR] at h3 h4
    have e : c = 49 + (c - 49) := by omega
    rw [e]
    exact iv_tab.1 (c - 49) (List.mem_range.mpr (by omega))
  | [c, d], _, _, h3, h4 =>
    simp [inR] at h3 h4
    have e : c = 49 + (c - 49) := by omega
    have e' : d = 48 + (d - 48) := by omega
    rw [e, e']
    exact iv_tab.2 (c - 49) (List.mem_range.mpr (by omega)) (d - 48) (List.mem_range.mpr (by omega))
noncomputable def pcs (x : Str) : List Str := Txt.split x dot
noncomputable def wd (x : Str) : Str := (pcs x).headD ""
noncomputable def nms (x : Str) : List Str := (pcs x).tail
theorem pcs_eq (x : Str) : pcs x = wd x :: nms x := by
  have h : 1 ≤ (pcs x).length := split_pos x dot
  unfold wd nms
  cases e : pcs x with
  | nil => rw [e] at h; simp at h
  | cons a r => rfl
theorem nms_len (x : Str) : (nms x).length ≤ x.length + 1 := by
  have h : (pcs x).length ≤ x.length + 2 := split_le x dot
  rw [pcs_eq, List.length_cons] at h
  omega
theorem pc_len {x p : Str} (h : p ∈ pcs x) : p.length ≤ x.length := by
  unfold pcs Txt.split at h
  split at h
  · rw [List.mem_singleton.mp h]; exact Nat.le_refl _
  · split at h
    · rw [List.mem_singleton.mp h]; exact Nat.le_refl _
    · unfold Builtin.Str.partsBetween at h
      obtain ⟨q, _, rfl⟩ := List.mem_map.mp h
      exact le_strSub x q.1 q.2
noncomputable def pok (x : Str) : Bool := gw (wd x) && decide ((nms x).length ≤ 5) && (nms x).all gn
noncomputable def pvl (x : Str) : List V := .str (wd x) :: (nms x).map fun p => V.int (iv p)
theorem gw_ok {x : Str} (h : gw x = true) : PyData.strOk x = true := by
  unfold gw at h
  simp only [Bool.and_eq_true] at h
  unfold PyData.strOk
  rw [Array.all_eq_true_iff_forall_mem]
  intro c hc
  have z := List.all_eq_true.mp h.1.2 c (by simpa using hc)
  simp [inR] at z
  simp
  omega
noncomputable def up (x : Str) : Str := match Builtin.Str.lastOccurrence x dot 0 x.length with | some i => Builtin.Str.strSub x 0 i | none => Str.empty
theorem dot_eq : dot = ⟨#[46]⟩ := by decide +kernel
theorem at_iff (x : Str) (i : Nat) : At x dot x.length i ↔ x.cps.toList[i]? = some 46 := by
  rw [dot_eq]
  exact subAt_one x 46 i
theorem foldl_mem (l : List Str) : ∀ (a : Array Nat), 46 ∈ a.toList → 46 ∈ (l.foldl (fun acc p => acc ++ dot.cps ++ p.cps) a).toList := by
  induction l with
  | nil => intro a h; exact h
  | cons p r ih =>
    intro a h
    rw [List.foldl_cons]
    exact ih _ (by simp only [Array.toList_append, List.mem_append]; exact .inl (.inl h))
theorem dot_in {x : Str} (h : nms x ≠ []) : 46 ∈ x.cps.toList := by
  have e : pcs x = wd x :: nms x := pcs_eq x
  unfold pcs Txt.split at e
  split at e
  · injection e with _ e; exact absurd e.symm h
  · split at e
    · injection e with _ e; exact absurd e.symm h
    · have g := glued_between_self x dot (x.length + 1)
      rw [e] at g
      rw [← g]
      unfold Builtin.Str.glued
      show 46 ∈ ((nms x).foldl (fun acc p => acc ++ dot.cps ++ p.cps) (wd x).cps).toList
      cases hn : nms x with
      | nil => exact absurd hn h
      | cons p r =>
        rw [List.foldl_cons]
        refine foldl_mem r _ ?_
        rw [dot_eq]
        simp
theorem up_more {x : Str} (h : nms x ≠ []) : ∃ i : Nat, Builtin.Str.lastOccurrence x dot 0 x.length = some i ∧ Txt.slice x none (some (i : Int)) = up x := by
  obtain ⟨j, hj⟩ := List.mem_iff_getElem?.mp (dot_in h)
  rcases last_spec x dot with ⟨_, z⟩ | ⟨i, e, z, _⟩
  · exact absurd ((at_iff x j).mpr hj) (z j)
  · refine ⟨i, e, ?_⟩
    have hi : i < x.cps.toList.length := (List.getElem?_eq_some_iff.mp ((at_iff x i).mp z)).1
    have s : Txt.slice x none (some (i : Int)) = ⟨((x.cps.toList.drop 0).take ((i : Int) - 0).toNat).toArray⟩ := by
      have q := sliceText_to (x := x) (j := (i : Int)) ⟨by omega, by omega⟩
      unfold sliceText at q
      unfold Txt.slice
      exact q
    have u : up x = Builtin.Str.strSub x 0 i := by unfold up; rw [e]
    rw [u]
    refine s.trans ?_
    refine str_ext ?_
    rw [strSub_toList]
    simp
theorem lt_one (c a : Nat) : ((⟨#[c]⟩ : Str).cps.toList < (⟨#[a]⟩ : Str).cps.toList) ↔ c < a := by
  show [c] < [a] ↔ c < a
  have := StrLaws.lt_cons_cons c a [] []
  rw [StrLaws.lt_nil_nil, Bool.and_false, Bool.or_false] at this
  simpa using this
theorem for_str {x : Str} {g : TG} {tb : TS} {D : Ends} {σ : St} {H : Hp} (Pv : Nat → St → Hp → Prop) (h0 : Pv 0 σ H)
    (hs : ∀ i c σ H, x.cps.toList[i]? = some c → Pv i σ H → g (.str ⟨#[c]⟩) σ H fun σ2 H2 => tb { D with nx := Pv (i + 1), ct := Pv (i + 1), bk := D.nx } σ2 H2) (hd : ∀ σ H, Pv x.cps.toList.length σ H → D.nx σ H) :
    ∃ W : Nat → Nat → St → Hp → Prop, (∃ m, W 0 m σ H) ∧ ∀ i m σ H, W i m σ H →
      ((Its x).stop i H ∧ D.nx σ H) ∨ ((Its x).go i H ∧ ∃ N : St → Hp → Prop, (∀ σ' H', N σ' H' → ∃ m', m' < m ∧ W (i + 1) m' σ' H') ∧ ∀ v H', (Its x).yld i H v H' → g v σ H' fun σ2 H2 => tb { D with nx := N, ct := N, bk := D.nx } σ2 H2) := by
  have hl : x.cps.toList.length = x.cps.size := Array.length_toList
  refine ⟨fun i m σ H => m = x.cps.size - i ∧ i ≤ x.cps.size ∧ Pv i σ H, ⟨x.cps.size, by simp, Nat.zero_le _, h0⟩, ?_⟩
  rintro i m σ H ⟨rfl, hi, p⟩
  by_cases hlt : i < x.cps.size
  · refine .inr ⟨hlt, Pv (i + 1), fun σ' H' p' => ⟨x.cps.size - (i + 1), by omega, rfl, hlt, p'⟩, fun v H' y => ?_⟩
    obtain ⟨rfl, c, hc, rfl⟩ := y
    exact hs i c σ _ (by rw [Array.getElem?_toList]; exact hc) p
  · have e : i = x.cps.toList.length := by omega
    subst e
    exact .inl ⟨by show x.cps.size ≤ _; omega, hd σ H p⟩
theorem all_take {l : List Nat} {f : Nat → Bool} {i c : Nat} (h : (l.take i).all f = true) (hc : l[i]? = some c) (hf : f c = true) : (l.take (i + 1)).all f = true := by
  rw [List.take_succ, hc, List.all_append, h]
  simp [hf]
theorem all_not {l : List Nat} {f : Nat → Bool} {i c : Nat} (hc : l[i]? = some c) (hf : f c = false) : l.all f = false := by
  cases e : l.all f with
  | false => rfl
  | true =>
    have := List.all_eq_true.mp e c (List.mem_of_getElem? hc)
    rw [hf] at this
    cases this
end L2

set_option Elab.async false
set_option linter.all false
set_option maxRecDepth 100000
namespace L2
open PySem PySem.Spec PyProof.Rows
section
variable {X : Cx}
noncomputable def rCount : V → List V → Hp → VK → Prop := fun x xs H Q => ∃ z y, x = .str z ∧ xs = [.str y] ∧ Q (.int (Builtin.Str.occurrences z y 0 z.length (z.length + 1)).length) H
theorem mt_count : MtR X "str.count" rCount := by
  intro pins s σ H x xs v us Q I rx rv h
  obtain ⟨z, y, rfl, rfl, q⟩ := h
  obtain ⟨t, rfl⟩ := rx
  obtain ⟨u, rfl, t', rfl⟩ := vals1 rv
  refine call_meets F.slot_str_count (typeIs_str _ _ _) F.entry_str_count (F.args_str_count_2 _ _) (gives_str_count z y t t').meets ?_
  exact ⟨.int _, H, I.tok _, ⟨_, rfl⟩, q⟩
theorem vals_at : ∀ {xs : List V} {us : List Value}, xs.length = us.length → (∀ (j : Nat) (x : V) (u : Value), xs[j]? = some x → us[j]? = some u → RelV x u) → Vals xs us
  | [], [], _, _ => .nil
  | x :: xs, u :: us, h, k => .cons (k 0 x u rfl rfl) (vals_at (Nat.succ.inj h) fun j y w e1 e2 => k (j + 1) y w e1 e2)
noncomputable def rListD : List V → Hp → VK → Prop := fun xs H Q => ∃ (d : Addr) (kvs : List (Key × V)), xs = [.ref d] ∧ Rd H d (.dK kvs) ∧ ∀ l, H l = none → Q (.ref l) (upd H l (.lst (kvs.map fun p => kV p.1)))
theorem call_listD {X : Cx} (hc : X.calm = true) : CallR X (.type "list") rListD := by
  intro pins s σ H xs us Q I r h
  obtain ⟨d, kvs, rfl, hd, q⟩ := h
  obtain ⟨u, rfl, rx⟩ := vals1 r
  cases rx
  obtain ⟨z, lo, vs, rel, dd⟩ := dk_rd I.hok hd
  obtain ⟨ep, hat⟩ := dd.dictAt
  have hln : kvs.length = vs.length := rel.length
  refine PySem.W.kdl_call (PySem.W.kdl_dict (knd := mixKind X.prog X.w) (kvs := vs) (ep := ep) lo) (I.ok.hd hc) hat (by omega) fun h' tk acc c' hk hS hacc => ?_
  have hl : acc.toList.length = vs.length := by rw [Array.length_toList]; exact hacc.1
  have hV : Vals (kvs.map fun p => kV p.1) acc.toList := by
    refine vals_at (by rw [List.length_map, hln, hl]) fun j x u e1 e2 => ?_
    obtain ⟨k, w, e3, e4⟩ := hacc.2 j u (by rw [← Array.getElem?_toList]; exact e2)
    obtain ⟨y, e5⟩ := kv_at rel e3
    rw [List.getElem?_map, e5] at e1
    cases e1
    exact relK e4
  refine ⟨.ref s.heap.objs.size, _, I.laid (t' := tk) hk (Nat.le_refl _) (show ObjOk X.prog X.w _ h' _ (.lst _) from ⟨by rw [List.length_map]; exact z, acc.toList, c', hV, by rw [Array.toArray_toList]; exact hS⟩), rfl, q _ (I.hok.fresh (Nat.le_refl _))⟩
theorem emp_app (z : Str) : Str.empty ++ z = z := by
  refine str_ext ?_
  show (Str.empty.cps ++ z.cps).toList = z.cps.toList
  simp [Str.empty]
noncomputable def tFs (ta tb : TE) (sep : Str) : TE := fun σ H Q => ta σ H fun x H1 => ∃ z : Str, x = .str z ∧ z.length ≤ sizeLine ∧ (z ++ sep).length ≤ sizeLine ∧ tb σ H1 fun y H2 => ∃ n : Int, y = .int n ∧ n.natAbs.log2 < 1920 ∧ (z ++ sep ++ toString n : Str).length ≤ sizeLine ∧ Q (.str (z ++ sep ++ toString n)) H2
theorem pe_fs {X : Cx} {a b : Expr} {ta tb : TE} {sep : Str} {j} {p1 p2 p3 p4 : Pos} (ha : PE X a ta) (hb : PE X b tb) : PE X (.JoinedStr [.FormattedValue a (-1) none p1, .Constant (.str sep) j p2, .FormattedValue b (-1) none p3] p4) (tFs ta tb sep) := by
  intro pins s σ H Q I h
  refine JoinedStr_many (joinParts_cons (FormattedValue_plain (thn (ha pins s σ H _ I h) fun u s1 zz9 => ?_)))
  obtain ⟨x, H1, I1, rx, z, ex, h1, h2, q1⟩ := zz9
  subst ex
  obtain ⟨t, rfl⟩ := rx
  refine formatField_str (fun t' tk => ?_) h1
  refine ⟨by rw [emp_app]; exact h1, ?_⟩
  rw [emp_app]
  refine joinParts_cons (Calls.Constant_str ⟨h2, ?_⟩)
  have I2 : Inv X pins σ H1 { s1 with toks := tk + 1 } := I1.tok _
  refine joinParts_cons (FormattedValue_plain (thn (hb pins _ σ H1 _ I2 q1) fun u s2 zz9 => ?_))
  obtain ⟨y, H2, I3, ry, n, ey, h3, h4, q2⟩ := zz9
  subst ey
  obtain ⟨t2, rfl⟩ := ry
  refine formatField_int_small h3 ⟨h4, joinParts_nil ?_ h4⟩
  exact ⟨.str _, H2, I3.tok _, ⟨_, rfl⟩, q2⟩
structure Dm (P : Program) (w : World) (K : PySem.W.Frag) (mg : Str → Option Value) (base : Heap) (CX : CXT) (C : Addr) (k : Nat) (m : Str) (ps : List Str) (sp : Sp) : Prop where
  cls : Cls K C
  ex : ∃ f fd, FnOk P w K mg base CX k f fd ps sp ∧ Meth K C m f ∧ Binds K fd ps []
noncomputable def tMt (C : Addr) (m : Str) (sp : Sp) (E : XK) (ta : TE) (t : TA) : TE := fun σ H Q => ta σ H fun x H1 => ∃ a dx fs, x = .ref a ∧ H1 a = some (.ins C dx fs) ∧ fs.lookup m = none ∧ t σ H1 fun vs H2 => sp (x :: vs) H2 Q E
theorem tMt_eq {C : Addr} {m : Str} {sp : Sp} {E : XK} {ta : TE} {t : TA} : tMeth C m sp [] E ta t = tMt C m sp E ta t := by
  funext σ H Q
  unfold tMeth tMt
  simp only [List.append_nil]
theorem pe_mt {X : Cx} {CX : CXT} {k : Nat} {C : Addr} {m : Str} {ps : List Str} {sp : Sp} {E : XK} {o e : Expr} {es : List Expr} {apos pos : Pos} {ta : TE} {t : TA} {pl : Sem Bool} (hx : Passes CX X E) (D : Dm X.prog X.w X.K X.mg X.base CX C k m ps sp) (hr : Room k X.A) (he : PE X o ta) (ha : PA X (e :: es) t)
    (hst : starEach (e :: es) X.env = (false, eval e X.env) :: starEach es X.env := by rfl) (hpl : (backTo pos (starEach es X.env)).any (·.1) = false := by rfl)
    (ht : eval (.Call (.Attribute o m apos) (e :: es) [] pos) X.env = (do
      let ov ← eval o X.env
      standAt apos.atName
      let (f, first) ← holding [ov] (getMethod ov m pl)
      callWith pos f first (backTo pos (starEach (e :: es) X.env)) (backToKw pos (keywordEach [] X.env))) := by rfl) :
    PE X (.Call (.Attribute o m apos) (e :: es) [] pos) (tMt C m sp E ta t) := by
  obtain ⟨f, fd, F, hm, hb⟩ := D.ex
  rw [← tMt_eq]
  exact pe_meth (pl := pl) he D.cls hm F hr hb .nil hx ha hst hpl ht
end
end L2

set_option Elab.async false
set_option linter.all false
set_option maxRecDepth 100000
namespace L2
open PySem PySem.Spec
noncomputable def yrs (bs : List (Str × Int)) : List (Key × V) := bs.map fun p => ((Sum.inr p.1 : Key), V.int p.2)
noncomputable def yr (bs : List (Str × Int)) (n : Str) : Option Int := (bs.find? fun p => decide (p.1 = n)).map (·.2)
noncomputable def has (bs : List (Str × Int)) (n : Str) : Bool := (yr bs n).isSome
noncomputable def kid (n : Str) (i : Nat) : Str := n ++ dot ++ (toString ((i : Int) + 1) : Str)
noncomputable def kidV (n : Str) (c : Nat) : List V := (List.range c).map fun i => V.str (kid n i)
noncomputable def brs (ws : List (Str × Addr × Nat)) : List (Key × V) := ws.map fun p => ((Sum.inr p.1 : Key), V.ref p.2.1)
structure Book (C : Addr) (H : Hp) (b d1 d2 d3 : Addr) (bs ds : List (Str × Int)) (ws : List (Str × Addr × Nat)) : Prop where
  obj : ∃ dx, H b = some (.ins C dx [("births", .ref d1), ("deaths", .ref d2), ("broods", .ref d3)])
  h1 : H d1 = some (.dK (yrs bs))
  h2 : H d2 = some (.dK (yrs ds))
  h3 : H d3 = some (.dK (brs ws))
  n12 : d1 ≠ d2
  n13 : d1 ≠ d3
  n23 : d2 ≠ d3
  kids : ∀ p ∈ ws, H p.2.1 = some (.lst (kidV p.1 p.2.2))
  nod : (ws.map fun p => p.2.1).Nodup
theorem valV_yrs (bs : List (Str × Int)) (n : Str) : valV (yrs bs) (Sum.inr n : Key) = (yr bs n).map V.int := by
  induction bs with
  | nil => rfl
  | cons p r ih =>
    by_cases h : p.1 = n
    · rw [show yrs (p :: r) = ((Sum.inr p.1 : Key), V.int p.2) :: yrs r from rfl, valV_pos (by rw [h])]
      unfold yr
      simp [List.find?_cons, h]
    · rw [show yrs (p :: r) = ((Sum.inr p.1 : Key), V.int p.2) :: yrs r from rfl, valV_neg (by simpa using h), ih]
      unfold yr
      simp [List.find?_cons, h]
theorem valV_has (bs : List (Str × Int)) (n : Str) : (valV (yrs bs) (Sum.inr n : Key)).isSome = has bs n := by
  rw [valV_yrs]
  unfold has
  cases yr bs n <;> rfl
theorem Book.births {C : Addr} {H : Hp} {b d1 d2 d3 : Addr} {bs ds : List (Str × Int)} {ws : List (Str × Addr × Nat)} (B : Book C H b d1 d2 d3 bs ds ws) (n : Str) : DGet H d1 (.str n) (valV (yrs bs) (Sum.inr n : Key)) := DGet.k (k := Sum.inr n) B.h1
theorem Book.deaths {C : Addr} {H : Hp} {b d1 d2 d3 : Addr} {bs ds : List (Str × Int)} {ws : List (Str × Addr × Nat)} (B : Book C H b d1 d2 d3 bs ds ws) (n : Str) : DGet H d2 (.str n) (valV (yrs ds) (Sum.inr n : Key)) := DGet.k (k := Sum.inr n) B.h2
noncomputable def Keep (xs : List Addr) (H H' : Hp) : Prop := (∀ a o, a ∉ xs → H a = some o → H' a = some o) ∧ ∀ a, H' a = none → H a = none
theorem ne_kind {H : Hp} {a b : Addr} {o u : HO} (h : H a = some o) (h' : H b = some u) (n : o ≠ u) : a ≠ b := fun e => by
  subst e
  rw [h] at h'
  exact n (Option.some.inj h')
theorem Book.bne {C : Addr} {H : Hp} {b d1 d2 d3 : Addr} {bs ds : List (Str × Int)} {ws : List (Str × Addr × Nat)} (B : Book C H b d1 d2 d3 bs ds ws) : b ≠ d1 ∧ b ≠ d2 ∧ b ≠ d3 := by
  obtain ⟨dx, hb⟩ := B.obj
  exact ⟨ne_kind hb B.h1 (fun z => by cases z), ne_kind hb B.h2 (fun z => by cases z), ne_kind hb B.h3 (fun z => by cases z)⟩
theorem Book.keep {C : Addr} {H H' : Hp} {b d1 d2 d3 : Addr} {bs ds : List (Str × Int)} {ws : List (Str × Addr × Nat)} (B : Book C H b d1 d2 d3 bs ds ws) (s : Same H H') : Book C H' b d1 d2 d3 bs ds ws := by
  obtain ⟨dx, hb⟩ := B.obj
  exact ⟨⟨dx, s _ _ hb⟩, s _ _ B.h1, s _ _ B.h2, s _ _ B.h3, B.n12, B.n13, B.n23, fun p hp => s _ _ (B.kids p hp), B.nod⟩
theorem Book.entered {C : Addr} {H : Hp} {b d1 d2 d3 l : Addr} {bs ds : List (Str × Int)} {ws : List (Str × Addr × Nat)} {n : Str} {y : Int} {o1 o3 : HO} (B : Book C H b d1 d2 d3 bs ds ws) (hl : upd H d1 o1 l = none)
    (e1 : o1 = .dK (yrs (bs ++ [(n, y)]))) (e3 : o3 = .dK (brs (ws ++ [(n, l, 0)]))) :
    Book C (upd (upd (upd H d1 o1) l (.lst [])) d3 o3) b d1 d2 d3 (bs ++ [(n, y)]) ds (ws ++ [(n, l, 0)]) ∧ Keep [d1, d3] H (upd (upd (upd H d1 o1) l (.lst [])) d3 o3) := by
  obtain ⟨nb1, nb2, nb3⟩ := B.bne
  have l1 : d1 ≠ l := fun e => by rw [← e, upd_same] at hl; cases hl
  have hl0 : H l = none := by rw [← hl, upd_ne (Ne.symm l1)]
  have l3 : d3 ≠ l := fun e => by rw [← e, B.h3] at hl0; cases hl0
  have kp : ∀ a o, a ≠ d1 → a ≠ d3 → H a = some o → upd (upd (upd H d1 o1) l (.lst [])) d3 o3 a = some o := fun a o n1 n3 e => by
    have nl : a ≠ l := fun z => by rw [z, hl0] at e; cases e
    rw [upd_ne n3, upd_ne nl, upd_ne n1]
    exact e
  obtain ⟨dx, hb⟩ := B.obj
  refine ⟨⟨⟨dx, kp _ _ nb1 nb3 hb⟩, ?_, kp _ _ (Ne.symm B.n12) B.n23 B.h2, ?_, B.n12, B.n13, B.n23, ?_, ?_⟩, fun a o hn e => kp a o (fun z => hn (by simp [z])) (fun z => hn (by simp [z])) e, fun a e => ?_⟩
  · rw [upd_ne B.n13, upd_ne l1, upd_same, e1]
  · rw [upd_same, e3]
  · intro p hp
    rcases List.mem_append.mp hp with hp | hp
    · have hk := B.kids p hp
      exact kp _ _ (ne_kind hk B.h1 (fun z => by cases z)) (ne_kind hk B.h3 (fun z => by cases z)) hk
    · rw [List.mem_singleton.mp hp]
      show upd (upd (upd H d1 o1) l (.lst [])) d3 o3 l = some (.lst (kidV n 0))
      rw [upd_ne (Ne.symm l3), upd_same]
      rfl
  · rw [List.map_append, List.nodup_append]
    refine ⟨B.nod, by simp, fun a ha c hc e => ?_⟩
    rw [List.map_cons, List.map_nil, List.mem_singleton] at hc
    obtain ⟨p, hp, rfl⟩ := List.mem_map.mp ha
    have hk := B.kids p hp
    rw [show p.2.1 = l from e.trans hc] at hk
    rw [hl0] at hk
    cases hk
  · by_cases h3 : a = d3
    · rw [h3, upd_same] at e
      cases e
    · rw [upd_ne h3] at e
      by_cases hL : a = l
      · rw [hL, upd_same] at e
        cases e
      · rw [upd_ne hL] at e
        by_cases h1 : a = d1
        · rw [h1, upd_same] at e
          cases e
        · rw [upd_ne h1] at e
          exact e
theorem Book.died {C : Addr} {H : Hp} {b d1 d2 d3 : Addr} {bs ds ds' : List (Str × Int)} {ws : List (Str × Addr × Nat)} (B : Book C H b d1 d2 d3 bs ds ws) : Book C (upd H d2 (.dK (yrs ds'))) b d1 d2 d3 bs ds' ws ∧ Keep [d2] H (upd H d2 (.dK (yrs ds'))) := by
  obtain ⟨nb1, nb2, nb3⟩ := B.bne
  obtain ⟨dx, hb⟩ := B.obj
  refine ⟨⟨⟨dx, by rw [upd_ne nb2]; exact hb⟩, by rw [upd_ne B.n12]; exact B.h1, upd_same, by rw [upd_ne (Ne.symm B.n23)]; exact B.h3, B.n12, B.n13, B.n23, fun p hp => ?_, B.nod⟩, fun a o hn e => ?_, fun a e => ?_⟩
  · have hk := B.kids p hp
    rw [upd_ne (ne_kind hk B.h2 (fun z => by cases z))]
    exact hk
  · rw [upd_ne (fun z => hn (by simp [z]))]
    exact e
  · by_cases h2 : a = d2
    · rw [h2, upd_same] at e
      cases e
    · rw [upd_ne h2] at e
      exact e
theorem no_valV {bs : List (Str × Int)} {n : Str} (h : has bs n = false) : valV (yrs bs) (Sum.inr n : Key) = none := by
  have z := valV_has bs n
  rw [h] at z
  cases e : valV (yrs bs) (Sum.inr n : Key) with
  | none => rfl
  | some v => rw [e] at z; cases z
theorem yrs_app (bs : List (Str × Int)) (n : Str) (y : Int) : yrs bs ++ [((Sum.inr n : Key), V.int y)] = yrs (bs ++ [(n, y)]) := by unfold yrs; rw [List.map_append]; rfl
noncomputable def bro (ws : List (Str × Addr × Nat)) (n : Str) : Option (Addr × Nat) := (ws.find? fun p => decide (p.1 = n)).map (·.2)
theorem valV_brs (ws : List (Str × Addr × Nat)) (n : Str) : valV (brs ws) (Sum.inr n : Key) = (bro ws n).map fun p => V.ref p.1 := by
  induction ws with
  | nil => rfl
  | cons p r ih =>
    by_cases h : p.1 = n
    · rw [show brs (p :: r) = ((Sum.inr p.1 : Key), V.ref p.2.1) :: brs r from rfl, valV_pos (by rw [h])]
      unfold bro
      simp [List.find?_cons, h]
    · rw [show brs (p :: r) = ((Sum.inr p.1 : Key), V.ref p.2.1) :: brs r from rfl, valV_neg (by simpa using h), ih]
      unfold bro
      simp [List.find?_cons, h]
theorem bro_mem {ws : List (Str × Addr × Nat)} {n : Str} {a : Addr} {c : Nat} (h : bro ws n = some (a, c)) : (n, a, c) ∈ ws := by
  unfold bro at h
  obtain ⟨p, hp, e⟩ := Option.map_eq_some_iff.mp h
  have h1 := List.mem_of_find?_eq_some hp
  have h2 := List.find?_some hp
  rw [← of_decide_eq_true h2, ← e]
  exact h1
noncomputable def bump (ws : List (Str × Addr × Nat)) (n : Str) : List (Str × Addr × Nat) := ws.map fun p => if p.1 = n then (p.1, p.2.1, p.2.2 + 1) else p
theorem kidV_next (n : Str) (c : Nat) : kidV n c ++ [V.str (kid n c)] = kidV n (c + 1) := by
  unfold kidV
  rw [List.range_succ, List.map_append]
  rfl
theorem brs_bump (ws : List (Str × Addr × Nat)) (n : Str) : brs (bump ws n) = brs ws := by
  unfold brs bump
  rw [List.map_map]
  refine List.map_congr_left fun p _ => ?_
  show ((Sum.inr (if p.1 = n then (p.1, p.2.1, p.2.2 + 1) else p).1 : Key), V.ref (if p.1 = n then (p.1, p.2.1, p.2.2 + 1) else p).2.1) = _
  split <;> rfl
theorem adr_bump (ws : List (Str × Addr × Nat)) (n : Str) : (bump ws n).map (fun p => p.2.1) = ws.map fun p => p.2.1 := by
  unfold bump
  rw [List.map_map]
  refine List.map_congr_left fun p _ => ?_
  show (if p.1 = n then (p.1, p.2.1, p.2.2 + 1) else p).2.1 = _
  split <;> rfl
theorem eq_of_nod {ws : List (Str × Addr × Nat)} {α : Type} {f : Str × Addr × Nat → α} (h : (ws.map f).Nodup) {p q : Str × Addr × Nat} (hp : p ∈ ws) (hq : q ∈ ws) (e : f p = f q) : p = q := by
  induction ws with
  | nil => cases hp
  | cons x r ih =>
    rw [List.map_cons, List.nodup_cons] at h
    rcases List.mem_cons.mp hp with rfl | hp' <;> rcases List.mem_cons.mp hq with rfl | hq'
    · rfl
    · exact absurd (List.mem_map.mpr ⟨q, hq', e.symm⟩) h.1
    · exact absurd (List.mem_map.mpr ⟨p, hp', e⟩) h.1
    · exact ih h.2 hp' hq'
theorem Book.grown {C : Addr} {H : Hp} {b d1 d2 d3 a : Addr} {bs ds : List (Str × Int)} {ws : List (Str × Addr × Nat)} {n : Str} {c : Nat} (B : Book C H b d1 d2 d3 bs ds ws) (hk : (ws.map fun p => p.1).Nodup) (hw : (n, a, c) ∈ ws) :
    Book C (upd H a (.lst (kidV n (c + 1)))) b d1 d2 d3 bs ds (bump ws n) := by
  obtain ⟨dx, hb⟩ := B.obj
  have ha : H a = some (.lst (kidV n c)) := B.kids _ hw
  refine ⟨⟨dx, by rw [upd_ne (ne_kind hb ha (fun z => by cases z))]; exact hb⟩, by rw [upd_ne (ne_kind B.h1 ha (fun z => by cases z))]; exact B.h1, by rw [upd_ne (ne_kind B.h2 ha (fun z => by cases z))]; exact B.h2, by rw [upd_ne (ne_kind B.h3 ha (fun z => by cases z)), brs_bump]; exact B.h3, B.n12, B.n13, B.n23, fun p hp => ?_, by rw [adr_bump]; exact B.nod⟩
  obtain ⟨q, hq, rfl⟩ := List.mem_map.mp hp
  by_cases e : q.1 = n
  · have z : q = (n, a, c) := eq_of_nod hk hq hw e
    subst z
    rw [if_pos rfl]
    exact upd_same
  · rw [if_neg e]
    have na : q.2.1 ≠ a := fun z => e (by rw [eq_of_nod B.nod hq hw z])
    rw [upd_ne na]
    exact B.kids q hq
end L2

set_option Elab.async false
set_option linter.all false
set_option maxRecDepth 100000
namespace L2
open PySem PySem.Spec
theorem Inv.thaw {X : Cx} {pins : List (Addr × Obj)} {σ : St} {H : Hp} {s : Shared} {d : Addr} {o : Obj} {u : HO} (I : Inv X pins σ H s) (h : H d = some (.frz o u)) (hn : ∀ o' u', X.H₀ d ≠ some (.frz o' u')) : Inv X pins σ (upd H d u) s := by
  have nn : ∀ b, H b = none → b ≠ d := fun b e z => by rw [z, h] at e; cases e
  have kp : ∀ b, b ≠ d → upd H d u b = H b := fun b z => upd_ne z
  have nt : ∀ b xs, H b = some (.tup xs) → b ≠ d := fun b xs e z => by rw [z, h] at e; cases e
  have no : ∀ b a, H b = some (.own a) → b ≠ d := fun b a e z => by rw [z, h] at e; cases e
  refine ⟨I.ok, I.os, I.bare, ⟨I.base.keep, I.base.slot, fun b ob q n hx => ?_, I.base.there, fun b xs q => ?_, fun b ob v q => ?_, fun b ps q => ?_⟩, I.loc, I.cell, ?_, fun x c e => ?_, fun p hp => ?_, fun a ob e => ?_, I.len⟩
  · have z := I.base.free b ob q n hx
    rw [kp b (nn b z)]
    exact z
  · have z := I.base.tups b xs q
    rw [kp b (nt b xs z)]
    exact z
  · have z := I.base.frzs b ob v q
    rw [kp b (fun e => hn ob v (by rw [← e]; exact q))]
    exact z
  · obtain ⟨more, z⟩ := I.base.tbls b ps q
    exact ⟨more, by rw [kp b (fun e => by rw [e, h] at z; cases z)]; exact z⟩
  · rw [kp _ (nn _ I.free)]
    exact I.free
  · have z := I.freeC x c e
    rw [kp _ (nn _ z)]
    exact z
  · obtain ⟨z1, z2, z3⟩ := I.pin p hp
    exact ⟨z1, by rw [kp _ (nn _ z2)]; exact z2, z3⟩
  · by_cases ha : a = d
    · subst ha
      rw [upd_same] at e
      cases e
      obtain ⟨_, q⟩ := (show ObjOk X.prog X.w H s.heap a (.frz o u) from I.hok a _ h)
      exact q.stay (fun _ _ _ q => q) (fun b e => by rw [kp b (no b _ e)]; exact e) fun b xs e => by rw [kp b (nt b xs e)]; exact e
    · rw [kp a ha] at e
      exact (I.hok a ob e).stay (fun _ _ _ q => q) (fun b e => by rw [kp b (no b _ e)]; exact e) fun b xs e => by rw [kp b (nt b xs e)]; exact e
noncomputable def tThaw (d : Addr) (kvs : List (Key × V)) (t : TE) : TE := fun σ H Q => H d = some (.dK kvs) ∧ t σ H fun v H2 => ∃ o, H2 d = some (.frz o (.dK kvs)) ∧ Q v (upd H2 d (.dK kvs))
theorem pe_thaw {X : Cx} {e : Expr} {t : TE} {d : Addr} {kvs : List (Key × V)} (he : PE X e t) : PE X e (tThaw d kvs t) := by
  rintro pins s σ H Q I ⟨hd, h⟩
  have hn : ∀ o' u', X.H₀ d ≠ some (.frz o' u') := fun o' u' z => by
    have q := I.base.frzs d o' u' z
    rw [hd] at q
    cases q
  exact thn (he pins s σ H _ I h) fun u s' ⟨v, H2, I2, r, o, h2, q⟩ => ⟨v, _, I2.thaw h2 hn, r, q⟩
end L2

set_option Elab.async false
set_option linter.all false
set_option maxRecDepth 100000
namespace L2
open PySem PySem.Spec
structure Mdl (H : Hp) (m c e1 e2 e3 : Addr) (y : Int) (bs ds cs : List (Str × Int)) : Prop where
  tup : H m = some (.tup [.ref c, .ref e1, .ref e2, .ref e3])
  clk : H c = some (.lst [.int y])
  h1 : H e1 = some (.dK (yrs bs))
  h2 : H e2 = some (.dK (yrs ds))
  h3 : H e3 = some (.dK (yrs cs))
  n12 : e1 ≠ e2
  n13 : e1 ≠ e3
  n23 : e2 ≠ e3
theorem Mdl.keep {H H' : Hp} {m c e1 e2 e3 : Addr} {y : Int} {bs ds cs : List (Str × Int)} (M : Mdl H m c e1 e2 e3 y bs ds cs) (s : Same H H') : Mdl H' m c e1 e2 e3 y bs ds cs :=
  ⟨s _ _ M.tup, s _ _ M.clk, s _ _ M.h1, s _ _ M.h2, s _ _ M.h3, M.n12, M.n13, M.n23⟩
end L2

set_option Elab.async false
set_option linter.all false
set_option maxRecDepth 100000
namespace L2
open PySem PySem.Spec PyProof.Rows PySem.StrLaws
theorem cut_list {a b s t : List Nat} (h : a ++ 46 :: s = b ++ 46 :: t) (hs : 46 ∉ s) (ht : 46 ∉ t) : a = b ∧ s = t := by
  rcases List.append_eq_append_iff.mp h with ⟨c, e1, e2⟩ | ⟨c, e1, e2⟩
  · cases c with
    | nil => simp at e1 e2; exact ⟨e1.symm, e2⟩
    | cons x r =>
      simp at e2
      exact absurd (show 46 ∈ s by rw [e2.2]; simp) hs
  · cases c with
    | nil => simp at e1 e2; exact ⟨e1, e2.symm⟩
    | cons x r =>
      simp at e2
      exact absurd (show 46 ∈ t by rw [e2.2]; simp) ht
theorem dot_l : dot.cps.toList = [46] := by rw [dot_eq]
theorem cps_app (a b : Str) : (a ++ b).cps.toList = a.cps.toList ++ b.cps.toList := cps_toList_append a b
theorem slen_app (a b : Str) : (a ++ b).length = a.length + b.length := by
  show (a.cps ++ b.cps).size = _
  rw [Array.size_append]
  rfl
theorem cut_inj {a b s t : Str} (h : a ++ dot ++ s = b ++ dot ++ t) (hs : 46 ∉ s.cps.toList) (ht : 46 ∉ t.cps.toList) : a = b ∧ s = t := by
  have z := congrArg (fun x : Str => x.cps.toList) h
  simp only [cps_app, dot_l] at z
  rw [List.append_assoc, List.append_assoc] at z
  obtain ⟨e1, e2⟩ := cut_list z hs ht
  exact ⟨str_ext e1, str_ext e2⟩
noncomputable abbrev ts (i : Nat) : Str := (toString ((i : Nat) : Int) : Str)
theorem ts_free (i : Int) : 46 ∉ (toString i : Str).cps.toList := int_text_free' 46 ⟨by decide, by decide⟩ i
theorem ts_inj {i j : Int} (h0 : 0 ≤ i) (h1 : i < 10 ^ 10) (g0 : 0 ≤ j) (g1 : j < 10 ^ 10) (h : (toString i : Str) = (toString j : Str)) : i = j := by
  have a := PySem.W.KIN.num_reads h0 h1
  have b := PySem.W.KIN.num_reads g0 g1
  rw [show PySem.Str.ofString (toString i) = PySem.Str.ofString (toString j) from h, b] at a
  exact (Option.some.inj a).symm
theorem kid_inj {n m : Str} {i j : Nat} (hi : i < 10 ^ 9) (hj : j < 10 ^ 9) (h : kid n i = kid m j) : n = m ∧ i = j := by
  obtain ⟨e1, e2⟩ := cut_inj h (ts_free _) (ts_free _)
  exact ⟨e1, by have := ts_inj (by omega) (by omega) (by omega) (by omega) e2; omega⟩
theorem kid_up {n m : Str} {i j : Nat} (h : kid n i = kid m j) : n = m := (cut_inj h (ts_free _) (ts_free _)).1
theorem join_snoc (s : Str) : ∀ (l : List Str) (_ : l ≠ []), Str.join dot (l ++ [s]) = Str.join dot l ++ dot ++ s
  | [a], _ => rfl
  | a :: b :: r, _ => by
    show a ++ dot ++ Str.join dot ((b :: r) ++ [s]) = (a ++ dot ++ Str.join dot (b :: r)) ++ dot ++ s
    rw [join_snoc s (b :: r) (by simp)]
    refine str_ext ?_
    simp only [cps_app, List.append_assoc]
theorem join_inj : ∀ (l m : List Str), l ≠ [] → m ≠ [] → (∀ p ∈ l, 46 ∉ p.cps.toList) → (∀ p ∈ m, 46 ∉ p.cps.toList) → Str.join dot l = Str.join dot m → l = m := by
  have key : ∀ (n : Nat) (l m : List Str), l.length = n → l ≠ [] → m ≠ [] → (∀ p ∈ l, 46 ∉ p.cps.toList) → (∀ p ∈ m, 46 ∉ p.cps.toList) → Str.join dot l = Str.join dot m → l = m := by
    intro n
    induction n with
    | zero => intro l m h hl; exact absurd (List.length_eq_zero_iff.mp h) hl
    | succ n ih =>
      intro l m h hl hm fl fm e
      rcases List.eq_nil_or_concat l with rfl | ⟨l', a, rfl⟩
      · exact absurd rfl hl
      rcases List.eq_nil_or_concat m with rfl | ⟨m', b, rfl⟩
      · exact absurd rfl hm
      simp only [List.concat_eq_append] at h hl hm fl fm e ⊢
      have noDot : ∀ x : Str, 46 ∉ x.cps.toList → ∀ (k : List Str) (y : Str), k ≠ [] → x ≠ Str.join dot (k ++ [y]) := fun x hx k y hk z => by
        apply hx
        rw [z, join_snoc y k hk, cps_app, cps_app, dot_l]
        simp
      by_cases h1 : l' = []
      · subst h1
        by_cases h2 : m' = []
        · subst h2
          have : a = b := e
          rw [this]
        · exact absurd e (noDot a (fl a (by simp)) m' b h2)
      · by_cases h2 : m' = []
        · subst h2
          exact absurd e.symm (noDot b (fm b (by simp)) l' a h1)
        · rw [join_snoc a l' h1, join_snoc b m' h2] at e
          obtain ⟨e1, e2⟩ := cut_inj e (fl a (by simp)) (fm b (by simp))
          rw [e2, ih l' m' (by simp at h; omega) h1 h2 (fun p hp => fl p (by simp [hp])) (fun p hp => fm p (by simp [hp])) e1]
  exact fun l m => key l.length l m rfl
theorem pcs_free {x p : Str} (h : p ∈ pcs x) : 46 ∉ p.cps.toList := split_free x 46 p (by have z : p ∈ Txt.split x dot := h; rw [dot_eq] at z; exact z)
theorem pcs_join (x : Str) : Str.join dot (pcs x) = x := join_split x dot
theorem pcs_ne (x : Str) : pcs x ≠ [] := by rw [pcs_eq]; simp
theorem pcs_kid (n : Str) (i : Nat) : pcs (kid n i) = pcs n ++ [(toString ((i : Int) + 1) : Str)] := by
  refine join_inj _ _ (pcs_ne _) (by simp) (fun p hp => pcs_free hp) (fun p hp => ?_) ?_
  · rcases List.mem_append.mp hp with h | h
    · exact pcs_free h
    · rw [List.mem_singleton.mp h]
      exact ts_free _
  · rw [pcs_join, join_snoc _ _ (pcs_ne n), pcs_join]
    rfl
theorem pcs_one {x : Str} (h : 46 ∉ x.cps.toList) : pcs x = [x] := by
  refine join_inj _ _ (pcs_ne _) (by simp) (fun p hp => pcs_free hp) (fun p hp => ?_) ?_
  · rw [List.mem_singleton.mp hp]; exact h
  · rw [pcs_join]; rfl
theorem gw_free {x : Str} (h : gw x = true) : 46 ∉ x.cps.toList := fun hm => by
  unfold gw at h
  simp only [Bool.and_eq_true] at h
  have z := List.all_eq_true.mp h.1.2 46 hm
  revert z
  decide
theorem gw_len {x : Str} (h : gw x = true) : 1 ≤ x.length ∧ x.length ≤ 8 := by
  unfold gw at h
  simp only [Bool.and_eq_true, decide_eq_true_eq] at h
  exact ⟨h.1.1.1, h.1.1.2⟩
theorem kid_dot (n : Str) (i : Nat) : 46 ∈ (kid n i).cps.toList := by
  unfold kid
  rw [cps_app, cps_app, dot_l]
  simp
theorem gw_kid {x n : Str} {i : Nat} (h : gw x = true) : x ≠ kid n i := fun e => gw_free h (e ▸ kid_dot n i)
theorem wd_kid (n : Str) (i : Nat) : wd (kid n i) = wd n := by
  unfold wd
  rw [pcs_kid]
  cases e : pcs n with
  | nil => exact absurd e (pcs_ne n)
  | cons a r => rfl
theorem nms_kid (n : Str) (i : Nat) : nms (kid n i) = nms n ++ [(toString ((i : Int) + 1) : Str)] := by
  unfold nms
  rw [pcs_kid]
  cases e : pcs n with
  | nil => exact absurd e (pcs_ne n)
  | cons a r => rfl
theorem wd_gw {x : Str} (h : gw x = true) : wd x = x := by unfold wd; rw [pcs_one (gw_free h)]; rfl
theorem nms_gw {x : Str} (h : gw x = true) : nms x = [] := by unfold nms; rw [pcs_one (gw_free h)]; rfl
theorem pok_gw {x : Str} (h : gw x = true) : pok x = true := by
  unfold pok
  rw [wd_gw h, nms_gw h, h]
  rfl
theorem gn_tab : ∀ k ∈ List.range 99, gn (ts (k + 1)) = true ∧ (ts (k + 1)).length ≤ 2 := by decide +kernel
theorem gn_ts {i : Nat} (h : i < 99) : gn (toString ((i : Int) + 1) : Str) = true ∧ (toString ((i : Int) + 1) : Str).length ≤ 2 := gn_tab i (List.mem_range.mpr h)
noncomputable def dots (x : Str) : Nat := (Builtin.Str.occurrences x dot 0 x.length (x.length + 1)).length
theorem dots_cnt (x : Str) : (dots x : Int) = cnt 46 x.cps.toList := by
  have h := count_is x 46
  unfold dots
  rw [dot_eq]
  exact h
theorem dots_eq (x : Str) : dots x = (nms x).length := by
  have h := cnt_join dot 46 (by rw [dot_l]; rfl) (pcs x) (fun t ht => pcs_free ht)
  rw [pcs_join, ← dots_cnt, pcs_eq] at h
  simp at h
  omega
theorem pok_kid {n : Str} {i : Nat} (h : pok n = true) (hd : dots n < 5) (hi : i < 99) : pok (kid n i) = true := by
  unfold pok at h ⊢
  simp only [Bool.and_eq_true, decide_eq_true_eq] at h ⊢
  rw [wd_kid, nms_kid]
  rw [dots_eq] at hd
  refine ⟨⟨h.1.1, by simp; omega⟩, ?_⟩
  rw [List.all_append, h.2]
  have z := (gn_ts hi).1
  simp only [List.all_cons, List.all_nil, Bool.and_true, Bool.true_and]
  exact z
theorem join_len (B : Nat) (n : Nat) : ∀ (l : List Str), l.length = n → l ≠ [] → (∀ p ∈ l.tail, p.length ≤ B) → (Str.join dot l).length + B + 1 ≤ (l.headD Str.empty).length + l.length * (B + 1) := by
  induction n with
  | zero => intro l h hl; exact absurd (List.length_eq_zero_iff.mp h) hl
  | succ n ih =>
    intro l hn hl hB
    rcases List.eq_nil_or_concat l with rfl | ⟨l, s, rfl⟩
    · exact absurd rfl hl
    simp only [List.concat_eq_append] at hn hl hB ⊢
    by_cases h : l = []
    · subst h
      show s.length + B + 1 ≤ s.length + 1 * (B + 1)
      omega
    · have z := ih l (by simp at hn; omega) h (fun p hp => hB p (by cases l with | nil => exact absurd rfl h | cons a r => simp at hp ⊢; exact .inl hp))
      have zs : s.length ≤ B := hB s (by cases l with | nil => exact absurd rfl h | cons a r => simp)
      rw [join_snoc s l h, slen_app, slen_app]
      have hd : (l ++ [s]).headD Str.empty = l.headD Str.empty := by cases l with | nil => exact absurd rfl h | cons a r => rfl
      have d1 : dot.length = 1 := by rw [dot_eq]; rfl
      rw [hd, d1, List.length_append, List.length_singleton, Nat.add_mul]
      omega
theorem pok_len {x : Str} (h : pok x = true) : x.length ≤ 23 := by
  unfold pok at h
  simp only [Bool.and_eq_true, decide_eq_true_eq] at h
  have hl := join_len 2 _ (pcs x) rfl (pcs_ne x) (fun p hp => by
    have z := List.all_eq_true.mp h.2 p hp
    unfold gn at z
    simp only [Bool.and_eq_true, decide_eq_true_eq] at z
    exact z.1.1.2)
  rw [pcs_join] at hl
  have hw := (gw_len h.1.1).2
  have e : (pcs x).headD Str.empty = wd x := by rw [pcs_eq]; rfl
  have e2 : (pcs x).length = (nms x).length + 1 := by rw [pcs_eq]; simp
  rw [e, e2] at hl
  omega
end L2

set_option Elab.async false
set_option linter.all false
set_option maxRecDepth 100000
namespace L2
open PySem PySem.Spec PyProof.Rows
theorem yr_app (bs : List (Str × Int)) (m : Str) (y : Int) (n : Str) : yr (bs ++ [(m, y)]) n = (yr bs n).or (if m = n then some y else none) := by
  unfold yr
  rw [List.find?_append]
  cases e : bs.find? (fun p => decide (p.1 = n)) with
  | some p => rfl
  | none =>
    by_cases h : m = n
    · simp [h, List.find?_cons]
    · simp [h, List.find?_cons]
theorem has_app (bs : List (Str × Int)) (m : Str) (y : Int) (n : Str) : has (bs ++ [(m, y)]) n = (has bs n || decide (m = n)) := by
  unfold has
  rw [yr_app]
  cases yr bs n with
  | some v => rfl
  | none => by_cases h : m = n <;> simp [h]
theorem has_iff (bs : List (Str × Int)) (n : Str) : has bs n = true ↔ n ∈ bs.map (·.1) := by
  unfold has yr
  rw [Option.isSome_map, List.find?_isSome, List.mem_map]
  constructor
  · rintro ⟨p, hp, e⟩; exact ⟨p, hp, of_decide_eq_true e⟩
  · rintro ⟨p, hp, e⟩; exact ⟨p, hp, decide_eq_true e⟩
theorem has_no (bs : List (Str × Int)) (n : Str) : has bs n = false ↔ n ∉ bs.map (·.1) := by
  rw [← has_iff]; cases has bs n <;> simp
theorem has_nil (n : Str) : has [] n = false := rfl
noncomputable def nk (bs : List (Str × Int)) (n : Str) : Nat := (List.range 1000).findIdx fun i => !has bs (kid n i)
theorem nk_of {bs : List (Str × Int)} {n : Str} {k : Nat} (hk : k < 1000) (h1 : ∀ i, i < k → has bs (kid n i) = true) (h2 : has bs (kid n k) = false) : nk bs n = k := by
  unfold nk
  refine (List.findIdx_eq (by rw [List.length_range]; exact hk)).mpr ⟨?_, fun j hj => ?_⟩
  · rw [List.getElem_range, h2]; rfl
  · rw [List.getElem_range, h1 j hj]; rfl
theorem nk_congr {bs bs' : List (Str × Int)} {n : Str} (h : ∀ i, has bs (kid n i) = has bs' (kid n i)) : nk bs n = nk bs' n := by
  unfold nk
  congr 1
  funext i
  rw [h i]
structure Wf (bs ds : List (Str × Int)) : Prop where
  nod : (bs.map (·.1)).Nodup
  sub : ∀ n, has ds n = true → has bs n = true
  wrt : ∀ n, has bs n = true → pok n = true
  par : ∀ n i, has bs (kid n i) = true → has bs n = true
  cnt : ∀ n i, i < 1000 → (has bs (kid n i) = true ↔ i < nk bs n)
  lim : bs.length < 1000
  few : ∀ n, nk bs n ≤ bs.length
theorem Wf.nil : Wf [] [] where
  nod := by simp
  sub := fun n h => by cases h
  wrt := fun n h => by cases h
  par := fun n i h => by cases h
  cnt := fun n i _ => by rw [nk_of (k := 0) (by decide) (fun i h => by omega) rfl]; simp [has_nil]
  lim := by decide
  few := fun n => by rw [nk_of (k := 0) (by decide) (fun i h => by omega) rfl]; exact Nat.zero_le _
theorem Wf.no_kid {bs ds : List (Str × Int)} (W : Wf bs ds) (n : Str) : has bs (kid n (nk bs n)) = false := by
  cases e : has bs (kid n (nk bs n)) with
  | false => rfl
  | true => exact absurd ((W.cnt n _ (by have := W.few n; have := W.lim; omega)).mp e) (Nat.lt_irrefl _)
theorem Wf.nk_none {bs ds : List (Str × Int)} (W : Wf bs ds) {n : Str} (h : has bs n = false) : nk bs n = 0 := by
  cases e : nk bs n with
  | zero => rfl
  | succ k =>
    have z := W.par n 0 ((W.cnt n 0 (by omega)).mpr (by omega))
    rw [h] at z
    cases z
theorem nk_word {bs : List (Str × Int)} {w : Str} {y : Int} (hw : gw w = true) (n : Str) : nk (bs ++ [(w, y)]) n = nk bs n := nk_congr fun i => by
  rw [has_app, decide_eq_false (gw_kid hw), Bool.or_false]
theorem nod_app {bs : List (Str × Int)} {m : Str} {y : Int} (h : (bs.map (·.1)).Nodup) (hm : has bs m = false) : ((bs ++ [(m, y)]).map (·.1)).Nodup := by
  rw [List.map_append, List.nodup_append]
  refine ⟨h, by simp, fun a ha b hb e => ?_⟩
  rw [List.map_cons, List.map_nil, List.mem_singleton] at hb
  have hb' : b = m := hb
  exact (has_no bs m).mp hm (by rw [← hb', ← e]; exact ha)
theorem Wf.arrive {bs ds : List (Str × Int)} {w : Str} {y : Int} (W : Wf bs ds) (hw : gw w = true) (h : has bs w = false) (hl : bs.length < 900) : Wf (bs ++ [(w, y)]) ds where
  nod := nod_app W.nod h
  sub := fun n hn => by rw [has_app, W.sub n hn]; rfl
  wrt := fun n hn => by
    rw [has_app, Bool.or_eq_true] at hn
    rcases hn with e | e
    · exact W.wrt n e
    · rw [← of_decide_eq_true e]; exact pok_gw hw
  par := fun n i hn => by
    rw [has_app, decide_eq_false (gw_kid hw), Bool.or_false] at hn
    rw [has_app, W.par n i hn]; rfl
  cnt := fun n i hi => by rw [nk_word hw, has_app, decide_eq_false (gw_kid hw), Bool.or_false]; exact W.cnt n i hi
  lim := by rw [List.length_append, List.length_singleton]; omega
  few := fun n => by rw [nk_word hw, List.length_append]; have := W.few n; omega
theorem kid_ne {n m : Str} {i j : Nat} (h : n ≠ m) : kid n i ≠ kid m j := fun e => h (kid_up e)
theorem nk_born {bs ds : List (Str × Int)} (W : Wf bs ds) {n : Str} {y : Int} (hl : bs.length < 900) (m : Str) : nk (bs ++ [(kid n (nk bs n), y)]) m = if m = n then nk bs n + 1 else nk bs m := by
  have hf := W.few n
  by_cases h : m = n
  · subst h
    rw [if_pos rfl]
    refine nk_of (by omega) (fun i hi => ?_) ?_
    · rw [has_app]
      by_cases e : i < nk bs m
      · rw [(W.cnt m i (by omega)).mpr e]; rfl
      · rw [show i = nk bs m by omega]; simp
    · rw [has_app]
      have z : has bs (kid m (nk bs m + 1)) = false := by
        cases e : has bs (kid m (nk bs m + 1)) with
        | false => rfl
        | true => have := (W.cnt m _ (by omega)).mp e; omega
      rw [z, decide_eq_false (fun e => by have := (kid_inj (by omega) (by omega) e).2; omega)]
      rfl
  · rw [if_neg h]
    exact nk_congr fun i => by rw [has_app, decide_eq_false (kid_ne (Ne.symm h)), Bool.or_false]
theorem Wf.birth {bs ds : List (Str × Int)} {n : Str} {y : Int} (W : Wf bs ds) (hn : has bs n = true) (hd : dots n < 5) (hl : bs.length < 900) (h99 : nk bs n < 99) : Wf (bs ++ [(kid n (nk bs n), y)]) ds where
  nod := nod_app W.nod (W.no_kid n)
  sub := fun m h => by rw [has_app, W.sub m h]; rfl
  wrt := fun m h => by
    rw [has_app, Bool.or_eq_true] at h
    rcases h with e | e
    · exact W.wrt m e
    · rw [← of_decide_eq_true e]; exact pok_kid (W.wrt n hn) hd h99
  par := fun m i h => by
    rw [has_app, Bool.or_eq_true] at h
    rcases h with e | e
    · rw [has_app, W.par m i e]; rfl
    · rw [← kid_up (of_decide_eq_true e), has_app, hn]; rfl
  cnt := fun m i hi => by
    rw [nk_born W hl, has_app]
    by_cases h : m = n
    · subst h
      rw [if_pos rfl]
      by_cases e : i = nk bs m
      · subst e; simp
      · have hf := W.few m
        rw [decide_eq_false (fun z => e (kid_inj (by omega) (by omega) z).2.symm), Bool.or_false, W.cnt m i hi]
        omega
    · rw [if_neg h, decide_eq_false (kid_ne (Ne.symm h)), Bool.or_false]; exact W.cnt m i hi
  lim := by rw [List.length_append, List.length_singleton]; omega
  few := fun m => by
    rw [nk_born W hl, List.length_append, List.length_singleton]
    have a := W.few m
    have b := W.few n
    split <;> omega
theorem Wf.death {bs ds : List (Str × Int)} {n : Str} {y : Int} (W : Wf bs ds) (hn : has bs n = true) : Wf bs (ds ++ [(n, y)]) where
  nod := W.nod
  sub := fun m h => by
    rw [has_app, Bool.or_eq_true] at h
    rcases h with e | e
    · exact W.sub m e
    · rw [← of_decide_eq_true e]; exact hn
  wrt := W.wrt
  par := W.par
  cnt := W.cnt
  lim := W.lim
  few := W.few
theorem Same.kp {H H' : Hp} (s : Same H H') : Keep [] H H' := ⟨fun a o _ e => s a o e, fun a e => s.free e⟩
theorem Keep.refl (X : List Addr) (H : Hp) : Keep X H H := ⟨fun _ _ _ e => e, fun _ e => e⟩
theorem Keep.tr {X Y : List Addr} {H1 H2 H3 : Hp} (k : Keep X H1 H2) (q : Keep Y H2 H3) (h : ∀ a ∈ Y, a ∈ X ∨ H1 a = none) : Keep X H1 H3 :=
  ⟨fun a o hn e => q.1 a o (fun hy => (h a hy).elim hn fun z => by rw [z] at e; cases e) (k.1 a o hn e), fun a e => k.2 a (q.2 a e)⟩
theorem Keep.same {X : List Addr} {H1 H2 H3 : Hp} (k : Keep X H1 H2) (q : Same H2 H3) : Keep X H1 H3 := k.tr q.kp (fun a h => nomatch h)
theorem Same.keep {Y : List Addr} {H1 H2 H3 : Hp} (k : Same H1 H2) (q : Keep Y H2 H3) (h : ∀ a ∈ Y, H1 a = none) : Same H1 H3 := fun b o e => (k.kp.tr q (fun a ha => .inr (h a ha))).1 b o (fun h => nomatch h) e
theorem Keep.to {X : List Addr} {H H' : Hp} (k : Keep X H H') (h : ∀ a ∈ X, H a = none) : Same H H' := (Same.refl H).keep k h
noncomputable def Grow (H : Hp) (R R' : List Addr) : Prop := ∀ a ∈ R', a ∈ R ∨ H a = none
theorem Grow.refl (H : Hp) (R : List Addr) : Grow H R R := fun _ h => .inl h
theorem Grow.tr {H H' : Hp} {R R' R'' : List Addr} (g : Grow H R R') (k : ∀ a, H' a = none → H a = none) (g' : Grow H' R' R'') : Grow H R R'' := fun a h => (g' a h).elim (g a) fun z => .inr (k a z)
noncomputable def Live (H : Hp) (R : List Addr) : Prop := ∀ a ∈ R, ∃ o, H a = some o
noncomputable def Dj (R S : List Addr) : Prop := ∀ a ∈ R, a ∉ S
theorem Dj.symm {R S : List Addr} (h : Dj R S) : Dj S R := fun a ha hb => h a hb ha
theorem Dj.grow {H : Hp} {R S S' : List Addr} (h : Dj R S) (l : Live H R) (g : Grow H S S') : Dj R S' := fun a ha hb => (g a hb).elim (h a ha) fun z => by
  obtain ⟨o, e⟩ := l a ha
  rw [z] at e
  cases e
theorem Live.keep {X R : List Addr} {H H' : Hp} (l : Live H R) (k : Keep X H H') : Live H' R := fun a ha => by
  cases e : H' a with
  | none => obtain ⟨o, z⟩ := l a ha; rw [k.2 a e] at z; cases z
  | some o => exact ⟨o, rfl⟩
theorem Live.dj {H : Hp} {R S : List Addr} (l : Live H R) (h : ∀ a ∈ S, H a = none) : Dj R S := fun a ha hb => by
  obtain ⟨o, e⟩ := l a ha
  rw [h a hb] at e
  cases e
noncomputable def foot (b d1 d2 d3 : Addr) (ws : List (Str × Addr × Nat)) : List Addr := b :: d1 :: d2 :: d3 :: ws.map (·.2.1)
structure LivesAt (C : Addr) (H : Hp) (b : Addr) (bs ds : List (Str × Int)) (R : List Addr) : Prop where
  ex : ∃ d1 d2 d3 ws, Book C H b d1 d2 d3 bs ds ws ∧ ws.map (·.1) = bs.map (·.1) ∧ (∀ p ∈ ws, p.2.2 = nk bs p.1) ∧ R = foot b d1 d2 d3 ws
  wf : Wf bs ds
theorem LivesAt.live {C : Addr} {H : Hp} {b : Addr} {bs ds : List (Str × Int)} {R : List Addr} (L : LivesAt C H b bs ds R) : Live H R := by
  obtain ⟨d1, d2, d3, ws, B, _, _, rfl⟩ := L.ex
  obtain ⟨dx, hb⟩ := B.obj
  intro a ha
  rcases List.mem_cons.mp ha with rfl | ha
  · exact ⟨_, hb⟩
  rcases List.mem_cons.mp ha with rfl | ha
  · exact ⟨_, B.h1⟩
  rcases List.mem_cons.mp ha with rfl | ha
  · exact ⟨_, B.h2⟩
  rcases List.mem_cons.mp ha with rfl | ha
  · exact ⟨_, B.h3⟩
  obtain ⟨p, hp, rfl⟩ := List.mem_map.mp ha
  exact ⟨_, B.kids p hp⟩
theorem LivesAt.mv {C : Addr} {H H' : Hp} {b : Addr} {bs ds : List (Str × Int)} {R : List Addr} (L : LivesAt C H b bs ds R) (h : ∀ a ∈ R, ∀ o, H a = some o → H' a = some o) : LivesAt C H' b bs ds R := by
  obtain ⟨d1, d2, d3, ws, B, k1, k2, rfl⟩ := L.ex
  obtain ⟨dx, hb⟩ := B.obj
  refine ⟨⟨d1, d2, d3, ws, ⟨⟨dx, h _ ?_ _ hb⟩, h _ ?_ _ B.h1, h _ ?_ _ B.h2, h _ ?_ _ B.h3, B.n12, B.n13, B.n23, fun p hp => h _ ?_ _ (B.kids p hp), B.nod⟩, k1, k2, rfl⟩, L.wf⟩
  all_goals unfold foot
  · simp
  · simp
  · simp
  · simp
  · exact List.mem_cons_of_mem _ (List.mem_cons_of_mem _ (List.mem_cons_of_mem _ (List.mem_cons_of_mem _ (List.mem_map.mpr ⟨p, hp, rfl⟩))))
theorem LivesAt.same {C : Addr} {H H' : Hp} {b : Addr} {bs ds : List (Str × Int)} {R : List Addr} (L : LivesAt C H b bs ds R) (s : Same H H') : LivesAt C H' b bs ds R := L.mv fun a _ o e => s a o e
theorem LivesAt.keep {C : Addr} {H H' : Hp} {b : Addr} {bs ds : List (Str × Int)} {R X : List Addr} (L : LivesAt C H b bs ds R) (k : Keep X H H') (d : Dj R X) : LivesAt C H' b bs ds R := L.mv fun a ha o e => k.1 a o (d a ha) e
noncomputable def mfoot (m c e1 e2 e3 : Addr) : List Addr := [m, c, e1, e2, e3]
structure MdlAt (H : Hp) (m : Addr) (y : Int) (bs ds cs : List (Str × Int)) (R : List Addr) : Prop where
  ex : ∃ c e1 e2 e3, Mdl H m c e1 e2 e3 y bs ds cs ∧ R = mfoot m c e1 e2 e3
theorem MdlAt.live {H : Hp} {m : Addr} {y : Int} {bs ds cs : List (Str × Int)} {R : List Addr} (L : MdlAt H m y bs ds cs R) : Live H R := by
  obtain ⟨c, e1, e2, e3, B, rfl⟩ := L.ex
  intro a ha
  rcases List.mem_cons.mp ha with rfl | ha
  · exact ⟨_, B.tup⟩
  rcases List.mem_cons.mp ha with rfl | ha
  · exact ⟨_, B.clk⟩
  rcases List.mem_cons.mp ha with rfl | ha
  · exact ⟨_, B.h1⟩
  rcases List.mem_cons.mp ha with rfl | ha
  · exact ⟨_, B.h2⟩
  rw [List.mem_singleton.mp ha]
  exact ⟨_, B.h3⟩
theorem MdlAt.mv {H H' : Hp} {m : Addr} {y : Int} {bs ds cs : List (Str × Int)} {R : List Addr} (L : MdlAt H m y bs ds cs R) (h : ∀ a ∈ R, ∀ o, H a = some o → H' a = some o) : MdlAt H' m y bs ds cs R := by
  obtain ⟨c, e1, e2, e3, B, rfl⟩ := L.ex
  exact ⟨c, e1, e2, e3, ⟨h _ (by simp [mfoot]) _ B.tup, h _ (by simp [mfoot]) _ B.clk, h _ (by simp [mfoot]) _ B.h1, h _ (by simp [mfoot]) _ B.h2, h _ (by simp [mfoot]) _ B.h3, B.n12, B.n13, B.n23⟩, rfl⟩
theorem MdlAt.same {H H' : Hp} {m : Addr} {y : Int} {bs ds cs : List (Str × Int)} {R : List Addr} (L : MdlAt H m y bs ds cs R) (s : Same H H') : MdlAt H' m y bs ds cs R := L.mv fun a _ o e => s a o e
theorem MdlAt.keep {H H' : Hp} {m : Addr} {y : Int} {bs ds cs : List (Str × Int)} {R X : List Addr} (L : MdlAt H m y bs ds cs R) (k : Keep X H H') (d : Dj R X) : MdlAt H' m y bs ds cs R := L.mv fun a ha o e => k.1 a o (d a ha) e
end L2

set_option Elab.async false
set_option linter.all false
namespace L2
open PySem PySem.Spec
set_option genInjectivity false in
set_option genSizeOfSpec false in
structure Ga where
  LandError : Addr := 0
  NoText : Addr := 0
  OutOfBound : Addr := 0
  Taken : Addr := 0
  NoPerson : Addr := 0
  Gone : Addr := 0
  Never : Addr := 0
  TooDeep : Addr := 0
  NoLand : Addr := 0
  NoLayer : Addr := 0
  NoSeat : Addr := 0
  Shut : Addr := 0
  NotWhole : Addr := 0
  Short : Addr := 0
  NothingThere : Addr := 0
  Lives : Addr := 0
  World : Addr := 0
  Layer : Addr := 0
  Land : Addr := 0
  Realm : Addr := 0
  House : Addr := 0
  BARRED : Addr := 0
  NOUGHT : Addr := 0
  WHOLE : Addr := 0
  ABOUT_PEOPLE : Addr := 0
  SALE : Addr := 0
  GIFT : Addr := 0
  LONGEST_WORD : Tok := 0
  LONGEST_NUMBER : Tok := 0
  MOST_NUMBERS : Tok := 0
  LAST_FIRST_YEAR : Tok := 0
  MOST_YEARS : Tok := 0
  OLDEST : Tok := 0
  MET : Tok := 0
  FAILED : Tok := 0
  HANGS : Tok := 0
  LATE : Tok := 0
  SURE : Tok := 0
  MOST_ROWS : Tok := 0
  MOST_NEEDS : Tok := 0
  LAST_YEAR : Tok := 0
  LONGEST_TERM : Tok := 0
  HIGHEST_RENT : Tok := 0
  MOST_PARTS : Tok := 0
  MOST_ABOVE : Tok := 0
  MOST_FIGURES : Tok := 0
theorem passF {X : Cx} : Passes (CXR X.prog X.w X.base) X (fun _ _ _ => False) := fun _ _ _ _ _ _ _ h => by
  obtain ⟨_, _, _, _, _, _, _, _, _, _, _, _, _, _, q⟩ := h
  exact q.elim
structure Dk (P : Program) (w : World) (K : PySem.W.Frag) (mg : Str → Option Value) (base : Heap) (CX : CXT) (C : Addr) (k : Nat) (x : Str) (ps : List Str) (sp : Sp) : Prop where
  mgx : mg x = some (.ref C)
  ex : ∃ f fd, FnOk P w K mg base CX k f fd ps sp ∧ Mk K C f ∧ Binds K fd ps []
noncomputable def tMk (C : Addr) (sp : Sp) (E : XK) (t : TA) : TE := fun σ H Q => t σ H fun vs H1 => ∀ x dx, H1 x = none → H1 dx = none → dx ≠ x →
  sp (.ref x :: vs) (upd (upd H1 dx (.own x)) x (.ins C dx [])) (fun v H2 => v = .non ∧ Q (.ref x) H2) E
theorem tMk_eq {C : Addr} {sp : Sp} {E : XK} {t : TA} : tMake C sp [] E t = tMk C sp E t := by
  funext σ H Q
  unfold tMake tMk
  simp only [List.append_nil]
theorem pe_mk {X : Cx} {CX : CXT} {k : Nat} {C : Addr} {x : Str} {ps : List Str} {sp : Sp} {E : XK} {e : Expr} {es : List Expr} {p pos : Pos} {t : TA} (hx : Passes CX X E) (D : Dk X.prog X.w X.K X.mg X.base CX C k x ps sp) (hr : Room (k + 1) X.A) (hg : Gl X x) (ha : PA X (e :: es) t)
    (hdb : (x == ("__debug__" : Str)) = false := by decide) (he : starEach (e :: es) X.env = (false, eval e X.env) :: starEach es X.env := by rfl) (hpl : (backTo pos (starEach es X.env)).any (·.1) = false := by rfl) :
    PE X (.Call (.Name x p) (e :: es) [] pos) (tMk C sp E t) := by
  obtain ⟨f, fd, F, M, hb⟩ := D.ex
  rw [← tMk_eq]
  exact pe_make M F hr hg D.mgx hb .nil hx ha hdb he hpl
theorem pe_mk0 {X : Cx} {CX : CXT} {k : Nat} {C : Addr} {x : Str} {ps : List Str} {sp : Sp} {E : XK} {p pos : Pos} (hx : Passes CX X E) (D : Dk X.prog X.w X.K X.mg X.base CX C k x ps sp) (hr : Room (k + 1) X.A) (hg : Gl X x)
    (hdb : (x == ("__debug__" : Str)) = false := by decide) : PE X (.Call (.Name x p) [] [] pos) (tMk C sp E tNil) := by
  obtain ⟨f, fd, F, M, hb⟩ := D.ex
  rw [← tMk_eq]
  exact pe_make0 M F hr hg D.mgx hb .nil hx hdb
end L2

set_option Elab.async false
set_option linter.all false
set_option maxRecDepth 100000
namespace L2
open PySem PySem.Spec PyProof.Rows
section
variable {X : Cx}
noncomputable def rListS (K : PySem.W.Frag) : List V → Hp → VK → Prop := fun xs H Q => ∃ p ys, xs = [.ref p] ∧ (SqL K H p ys ∨ SqT K H p ys) ∧ ∀ l, H l = none → Q (.ref l) (upd H l (.lst ys))
theorem call_listS : CallR X (.type "list") (rListS X.K) := call_list_of
end
end L2

set_option Elab.async false
set_option linter.all false
set_option maxRecDepth 100000
namespace L2
open PySem PySem.Spec PyProof.Rows
theorem map_bump (ws : List (Str × Addr × Nat)) (n : Str) : (bump ws n).map (·.1) = ws.map (·.1) := by
  unfold bump
  rw [List.map_map]
  refine List.map_congr_left fun p _ => ?_
  show (if p.1 = n then (p.1, p.2.1, p.2.2 + 1) else p).1 = p.1
  split <;> rfl
theorem bro_of {ws : List (Str × Addr × Nat)} {bs : List (Str × Int)} {n : Str} (k1 : ws.map (·.1) = bs.map (·.1)) (k2 : ∀ p ∈ ws, p.2.2 = nk bs p.1) (h : has bs n = true) : ∃ a, bro ws n = some (a, nk bs n) := by
  have hm : n ∈ ws.map (·.1) := by rw [k1]; exact (has_iff bs n).mp h
  unfold bro
  obtain ⟨p, hp, e⟩ := List.mem_map.mp hm
  have z : (ws.find? fun p => decide (p.1 = n)).isSome = true := List.find?_isSome.mpr ⟨p, hp, decide_eq_true e⟩
  cases q : ws.find? (fun p => decide (p.1 = n)) with
  | none => rw [q] at z; cases z
  | some r =>
    have r0 : decide (r.1 = n) = true := List.find?_some (p := fun p : Str × Addr × Nat => decide (p.1 = n)) q
    have r1 := of_decide_eq_true r0
    have r2 := k2 r (List.mem_of_find?_eq_some q)
    refine ⟨r.2.1, ?_⟩
    rw [← r1, ← r2]
    rfl
theorem no_bro {ws : List (Str × Addr × Nat)} {bs : List (Str × Int)} {n : Str} (k1 : ws.map (·.1) = bs.map (·.1)) (h : has bs n = false) : valV (brs ws) (Sum.inr n : Key) = none := by
  rw [valV_brs]
  unfold bro
  have z : ws.find? (fun p => decide (p.1 = n)) = none := by
    rw [List.find?_eq_none]
    intro p hp e
    exact (has_no bs n).mp h (by rw [← k1]; exact List.mem_map.mpr ⟨p, hp, of_decide_eq_true e⟩)
  rw [z]
  rfl
theorem counts_word {ws : List (Str × Addr × Nat)} {bs ds : List (Str × Int)} {w : Str} {y : Int} {l : Addr} (W : Wf bs ds) (k1 : ws.map (·.1) = bs.map (·.1)) (k2 : ∀ p ∈ ws, p.2.2 = nk bs p.1) (hw : gw w = true) (h : has bs w = false) :
    (ws ++ [(w, l, 0)] : List (Str × Addr × Nat)).map (fun p => p.1) = (bs ++ [(w, y)]).map (fun p => p.1) ∧ ∀ p ∈ ws ++ [(w, l, 0)], p.2.2 = nk (bs ++ [(w, y)]) p.1 := by
  refine ⟨by rw [List.map_append, List.map_append, k1]; rfl, fun p hp => ?_⟩
  rw [nk_word hw]
  rcases List.mem_append.mp hp with hp | hp
  · exact k2 p hp
  · rw [List.mem_singleton.mp hp]
    exact (W.nk_none h).symm
theorem counts_born {ws : List (Str × Addr × Nat)} {bs ds : List (Str × Int)} {n : Str} {y : Int} {l : Addr} (W : Wf bs ds) (k1 : ws.map (·.1) = bs.map (·.1)) (k2 : ∀ p ∈ ws, p.2.2 = nk bs p.1) (hn : has bs n = true) (hl : bs.length < 900) :
    (bump ws n ++ [(kid n (nk bs n), l, 0)] : List (Str × Addr × Nat)).map (fun p => p.1) = (bs ++ [(kid n (nk bs n), y)]).map (fun p => p.1) ∧ ∀ p ∈ bump ws n ++ [(kid n (nk bs n), l, 0)], p.2.2 = nk (bs ++ [(kid n (nk bs n), y)]) p.1 := by
  refine ⟨by rw [List.map_append, List.map_append, map_bump, k1]; rfl, fun p hp => ?_⟩
  rw [nk_born W hl]
  rcases List.mem_append.mp hp with hp | hp
  · unfold bump at hp
    obtain ⟨q, hq, rfl⟩ := List.mem_map.mp hp
    have z := k2 q hq
    by_cases e : q.1 = n
    · rw [if_pos e, if_pos e]
      show q.2.2 + 1 = _
      rw [z, e]
    · rw [if_neg e, if_neg e]
      exact z
  · rw [List.mem_singleton.mp hp]
    have ne : ¬ kid n (nk bs n) = n := fun e => by
      have z := W.no_kid n
      rw [e, hn] at z
      cases z
    rw [if_neg ne]
    exact (W.nk_none (W.no_kid n)).symm
theorem foot_in {b d1 d2 d3 : Addr} {ws : List (Str × Addr × Nat)} : b ∈ foot b d1 d2 d3 ws ∧ d1 ∈ foot b d1 d2 d3 ws ∧ d2 ∈ foot b d1 d2 d3 ws ∧ d3 ∈ foot b d1 d2 d3 ws ∧ ∀ p ∈ ws, p.2.1 ∈ foot b d1 d2 d3 ws :=
  ⟨by simp [foot], by simp [foot], by simp [foot], by simp [foot], fun p hp => List.mem_cons_of_mem _ (List.mem_cons_of_mem _ (List.mem_cons_of_mem _ (List.mem_cons_of_mem _ (List.mem_map.mpr ⟨p, hp, rfl⟩))))⟩
theorem foot_grow {H : Hp} {b d1 d2 d3 l : Addr} {ws ws' : List (Str × Addr × Nat)} {x : Str} (h : ws'.map (·.2.1) = ws.map (·.2.1)) (hl : H l = none) : Grow H (foot b d1 d2 d3 ws) (foot b d1 d2 d3 (ws' ++ [(x, l, 0)])) := by
  intro a ha
  unfold foot at ha ⊢
  rw [List.map_append, h] at ha
  simp only [List.mem_cons, List.mem_append, List.map_cons, List.map_nil, List.not_mem_nil, or_false] at ha ⊢
  rcases ha with rfl | rfl | rfl | rfl | ha | rfl
  · exact .inl (.inl rfl)
  · exact .inl (.inr (.inl rfl))
  · exact .inl (.inr (.inr (.inl rfl)))
  · exact .inl (.inr (.inr (.inr (.inl rfl))))
  · exact .inl (.inr (.inr (.inr (.inr ha))))
  · exact .inr hl
theorem Keep.wide {X Y : List Addr} {H H' : Hp} (k : Keep X H H') (h : ∀ a ∈ X, a ∈ Y) : Keep Y H H' := ⟨fun a o hn e => k.1 a o (fun z => hn (h a z)) e, k.2⟩
theorem keep_upd {H : Hp} {a : Addr} {o : HO} : Keep [a] H (upd H a o) := ⟨fun b u hn e => by rw [upd_ne (fun z => hn (by simp [z]))]; exact e, fun b e => by
  by_cases z : b = a
  · rw [z, upd_same] at e; cases e
  · rw [upd_ne z] at e; exact e⟩
noncomputable def al (bs ds : List (Str × Int)) (n : Str) : Bool := has bs n && !has ds n
end L2

set_option Elab.async false
set_option linter.all false
set_option maxRecDepth 100000
set_option maxHeartbeats 0
namespace L2
open PySem PySem.Spec
theorem has_of {names : List (Str × NameKind)} {cl : List (Str × Addr)} (h : names.all (fun p => !(p.2 == .cell || p.2 == .free) || (cl.map (·.1)).contains p.1) = true) : ∀ x, (names.lookup x = some .cell ∨ names.lookup x = some .free) → ∃ c, cl.lookup x = some c := by
  intro x hx
  have key : ∀ k, names.lookup x = some k → (k == NameKind.cell || k == NameKind.free) = true → ∃ c, cl.lookup x = some c := fun k e hk => by
    have m := PySem.mem_of_lookup e
    have q := List.all_eq_true.mp h _ m
    simp only [hk, Bool.not_true, Bool.false_or] at q
    have q' : x ∈ cl.map (·.1) := by simpa using q
    clear q h m e
    induction cl with
    | nil => simp at q'
    | cons p r ih =>
      obtain ⟨y, c⟩ := p
      rw [List.lookup_cons]
      cases z : x == y with
      | true => exact ⟨c, rfl⟩
      | false =>
        refine ih ?_
        rcases List.mem_cons.mp (show x ∈ y :: r.map (·.1) from q') with e | e
        · rw [e] at z
          simp at z
        · exact e
  rcases hx with e | e
  · exact key _ e rfl
  · exact key _ e rfl
theorem tAll_T {σ : St} {H : Hp} {A B : Hp → Prop} (h : A H) : tAll σ H (fun b H3 => if b = true then A H3 else B H3) := by
  show if true = true then A H else B H
  exact iteT h
noncomputable def abc : Str := "abcdefghijklmnopqrstuvwxyz"
theorem ok_app {a b : Str} (ha : PyData.strOk a = true) (hb : PyData.strOk b = true) : PyData.strOk (a ++ b) = true := by
  unfold PyData.strOk at *
  show (a.cps ++ b.cps).all _ = true
  rw [Array.all_append, ha, hb]
  rfl
theorem len_app (a b : Str) : (a ++ b).length = a.length + b.length := by
  show (a.cps ++ b.cps).size = _
  rw [Array.size_append]
  rfl
theorem PSs_imp {X : Cx} {st : List Stmt} {t t' : TS} (h : PSs X st t) (i : ∀ D σ H, t' D σ H → t D σ H) : PSs X st t' := fun pins s σ H D I q => h pins s σ H D I (i D σ H q)
theorem beq_dec (a x : Str) : (a == x) = decide (x = a) := by
  by_cases h : x = a
  · subst h
    rw [decide_eq_true rfl]
    exact beq_self_eq_true x
  · rw [decide_eq_false h]
    exact beq_eq_false_iff_ne.mpr fun z => h z.symm
theorem line_ok {n : Nat} (h : n ≤ 500) : n ≤ sizeLine := Nat.le_of_lt (small1000 (by omega))
theorem ts_tab : ∀ k ∈ List.range 131, (Str.ofString (toString ((k : Nat) : Int))).length ≤ 4 := by decide +kernel
theorem ts_len {i : Int} (h0 : 0 ≤ i) (h1 : i < 131) : (Str.ofString (toString i)).length ≤ 4 := by
  have := ts_tab i.toNat (List.mem_range.mpr (by omega))
  rw [show ((i.toNat : Nat) : Int) = i by omega] at this
  exact this
theorem log_small {i : Int} (h0 : 0 ≤ i) (h1 : i < 131) : i.natAbs.log2 < 1920 := by
  have : i.natAbs.log2 ≤ i.natAbs := Nat.log2_le_self _
  omega
end L2
namespace L2
open PySem PySem.Spec
theorem abc_in {i : Int} (h0 : 0 ≤ i) (h1 : i < 26) : ∃ c : Nat, atI abc.cps.toList i = some c ∧ inR 97 122 c = true := by
  have hl : abc.cps.toList.length = 26 := by decide +kernel
  have hi : i.toNat < abc.cps.toList.length := by omega
  have e : atI abc.cps.toList ((i.toNat : Nat) : Int) = some (abc.cps.toList[i.toNat]) := atI_nat (List.getElem?_eq_getElem hi)
  rw [show ((i.toNat : Nat) : Int) = i by omega] at e
  refine ⟨_, e, ?_⟩
  have a : abc.cps.toList.all (inR 97 122) = true := by decide +kernel
  exact List.all_eq_true.mp a _ (List.getElem_mem hi)
end L2

set_option Elab.async false
set_option linter.all false
set_option maxRecDepth 100000
namespace L2
open PySem PySem.Spec
inductive Deed where
  | arrive (w : Str) (a : Int)
  | birth (n : Str)
  | death (n : Str)
  | comes (w : Str)
  | years (k : Int)
noncomputable def Deed.vals : Deed → List V
  | .arrive w a => [.str "arrive", .str w, .int a]
  | .birth n => [.str "birth", .str n]
  | .death n => [.str "death", .str n]
  | .comes w => [.str "comes", .str w]
  | .years k => [.str "years", .int k]
structure Mo where
  y : Int
  bs : List (Str × Int)
  ds : List (Str × Int)
  cs : List (Str × Int)
noncomputable def Mo.step (S : Mo) : Deed → Mo
  | .arrive w a => { S with bs := S.bs ++ [(w, S.y - a)] }
  | .birth n => { S with bs := S.bs ++ [(kid n (nk S.bs n), S.y)] }
  | .death n => { S with ds := S.ds ++ [(n, S.y)] }
  | .comes w => { S with cs := S.cs ++ [(w, S.y)] }
  | .years k => { S with y := S.y + k }
noncomputable def Mo.good (S : Mo) (far : Int) : Deed → Prop
  | .arrive w a => gw w = true ∧ has S.bs w = false ∧ 0 ≤ a ∧ a ≤ 120
  | .birth n => has S.bs n = true ∧ has S.ds n = false ∧ dots n < 5
  | .death n => has S.bs n = true ∧ has S.ds n = false
  | .comes w => gw w = true ∧ has S.cs w = false
  | .years k => 1 ≤ k ∧ k ≤ far
structure Mo.Ok (S : Mo) (k : Nat) : Prop where
  wf : Wf S.bs S.ds
  cw : ∀ w, has S.cs w = true → gw w = true
  lb : S.bs.length ≤ k
  ld : S.ds.length ≤ k
  lc : S.cs.length ≤ k
noncomputable def MoAt (H : Hp) (m : Addr) (S : Mo) (R : List Addr) : Prop := MdlAt H m S.y S.bs S.ds S.cs R
theorem MoAt.live {H : Hp} {m : Addr} {S : Mo} {R : List Addr} (L : MoAt H m S R) : Live H R := MdlAt.live L
theorem MoAt.same {H H' : Hp} {m : Addr} {S : Mo} {R : List Addr} (L : MoAt H m S R) (s : Same H H') : MoAt H' m S R := MdlAt.same L s
theorem MoAt.keep {H H' : Hp} {m : Addr} {S : Mo} {R X : List Addr} (L : MoAt H m S R) (k : Keep X H H') (d : Dj R X) : MoAt H' m S R := MdlAt.keep L k d
noncomputable def mo0 (y : Int) : Mo := ⟨y, [], [], []⟩
theorem Mo.Ok.zero (y : Int) : (mo0 y).Ok 0 := ⟨Wf.nil, (fun _ h => Bool.noConfusion h), Nat.le_refl _, Nat.le_refl _, Nat.le_refl _⟩
theorem Mo.Ok.step {S : Mo} {k : Nat} {far : Int} {d : Deed} (O : S.Ok k) (h : S.good far d) (hk : k < 98) : (S.step d).Ok (k + 1) := by
  have a := O.lb
  have b := O.ld
  have c := O.lc
  cases d with
  | arrive w a0 => exact ⟨O.wf.arrive h.1 h.2.1 (by omega), O.cw, by show (S.bs ++ [_]).length ≤ _; rw [List.length_append, List.length_singleton]; omega, by show S.ds.length ≤ _; omega, by show S.cs.length ≤ _; omega⟩
  | birth n => exact ⟨O.wf.birth h.1 h.2.2 (by omega) (by have := O.wf.few n; omega), O.cw, by show (S.bs ++ [_]).length ≤ _; rw [List.length_append, List.length_singleton]; omega, by show S.ds.length ≤ _; omega, by show S.cs.length ≤ _; omega⟩
  | death n => exact ⟨O.wf.death h.1, O.cw, by show S.bs.length ≤ _; omega, by show (S.ds ++ [_]).length ≤ _; rw [List.length_append, List.length_singleton]; omega, by show S.cs.length ≤ _; omega⟩
  | comes w => exact ⟨O.wf, fun x hx => by
      rw [show (S.step (.comes w)).cs = S.cs ++ [(w, S.y)] from rfl, has_app, Bool.or_eq_true] at hx
      rcases hx with e | e
      · exact O.cw x e
      · rw [← of_decide_eq_true e]; exact h.1, by show S.bs.length ≤ _; omega, by show S.ds.length ≤ _; omega, by show (S.cs ++ [_]).length ≤ _; rw [List.length_append, List.length_singleton]; omega⟩
  | years k0 => exact ⟨O.wf, O.cw, by show S.bs.length ≤ _; omega, by show S.ds.length ≤ _; omega, by show S.cs.length ≤ _; omega⟩
theorem ifEq {a : V} {A B : Prop} (k : A) : if decide (a = a) = true then A else B := by rw [if_pos (decide_eq_true rfl)]; exact k
theorem ifNe {a b : Str} {A B : Prop} (h : (a == b) = false) (k : B) : if decide (V.str a = V.str b) = true then A else B := by
  rw [if_neg]
  · exact k
  · intro e
    have e' : a = b := by injection (of_decide_eq_true e)
    rw [e'] at h
    simp at h
theorem ifEqN {a : V} {A B : Prop} (k : B) : if (!decide (a = a)) = true then A else B := by rw [decide_eq_true rfl]; exact k
theorem ifNeN {a b : Str} {A B : Prop} (h : (a == b) = false) (k : A) : if (!decide (V.str a = V.str b)) = true then A else B := by
  have : decide (V.str a = V.str b) = false := by
    rw [decide_eq_false_iff_not]
    intro e
    have e' : a = b := by injection e
    rw [e'] at h
    simp at h
  rw [this]; exact k
noncomputable def livV (bs ds : List (Str × Int)) : List V := (bs.filter fun p => !has ds p.1).map fun p => V.str p.1
theorem livV_at {bs ds : List (Str × Int)} {i : Int} {v : V} (h : atI (livV bs ds) i = some v) : ∃ n, v = .str n ∧ has bs n = true ∧ has ds n = false := by
  have hm : v ∈ livV bs ds := by
    unfold atI at h
    obtain ⟨j, _, e⟩ := Option.bind_eq_some_iff.mp h
    exact List.mem_of_getElem? e
  unfold livV at hm
  obtain ⟨p, hp, rfl⟩ := List.mem_map.mp hm
  obtain ⟨h1, h2⟩ := List.mem_filter.mp hp
  exact ⟨p.1, rfl, (has_iff bs p.1).mpr (List.mem_map.mpr ⟨p, h1, rfl⟩), by simpa using h2⟩
structure DeedsAt (H : Hp) (l : Addr) (ds : List Deed) (ps : List Addr) : Prop where
  lst : H l = some (.lst (ps.map V.ref))
  len : ps.length = ds.length
  at_ : ∀ (i : Nat) (p : Addr) (d : Deed), ps[i]? = some p → ds[i]? = some d → H p = some (.tup d.vals)
theorem DeedsAt.mv {H H' : Hp} {l : Addr} {ds : List Deed} {ps : List Addr} (D : DeedsAt H l ds ps) (h : ∀ a ∈ l :: ps, ∀ o, H a = some o → H' a = some o) : DeedsAt H' l ds ps :=
  ⟨h _ (by simp) _ D.lst, D.len, fun i p d e1 e2 => h _ (List.mem_cons_of_mem _ (List.mem_of_getElem? e1)) _ (D.at_ i p d e1 e2)⟩
theorem DeedsAt.same {H H' : Hp} {l : Addr} {ds : List Deed} {ps : List Addr} (D : DeedsAt H l ds ps) (s : Same H H') : DeedsAt H' l ds ps := D.mv fun a _ o e => s a o e
theorem DeedsAt.keep {H H' : Hp} {l : Addr} {ds : List Deed} {ps X : List Addr} (D : DeedsAt H l ds ps) (k : Keep X H H') (d : Dj (l :: ps) X) : DeedsAt H' l ds ps := D.mv fun a ha o e => k.1 a o (d a ha) e
theorem DeedsAt.live {H : Hp} {l : Addr} {ds : List Deed} {ps : List Addr} (D : DeedsAt H l ds ps) : Live H (l :: ps) := fun a ha => by
  rcases List.mem_cons.mp ha with rfl | ha
  · exact ⟨_, D.lst⟩
  · obtain ⟨i, hi⟩ := List.mem_iff_getElem?.mp ha
    have : i < ds.length := by rw [← D.len]; exact (List.getElem?_eq_some_iff.mp hi).1
    exact ⟨_, D.at_ i a _ hi (List.getElem?_eq_getElem this)⟩
end L2
namespace L2
open PySem PySem.Spec
section
variable {H : Hp} {m c e1 e2 e3 p : Addr} {y : Int} {bs ds cs : List (Str × Int)} {R : List Addr} {xs : List V}
theorem Mdl.put1 {bs' : List (Str × Int)} (B : Mdl H m c e1 e2 e3 y bs ds cs) (eR : R = mfoot m c e1 e2 e3) (hp : H p = some (.tup xs)) :
    upd H e1 (.dK (yrs bs')) p = some (.tup xs) ∧ Keep R H (upd H e1 (.dK (yrs bs'))) ∧ MdlAt (upd H e1 (.dK (yrs bs'))) m y bs' ds cs R :=
  ⟨by rw [upd_ne (ne_kind hp B.h1 (fun z => by cases z))]; exact hp, keep_upd.wide (fun a ha => by rw [List.mem_singleton.mp ha, eR]; simp [mfoot]), ⟨c, e1, e2, e3, ⟨by rw [upd_ne (ne_kind B.tup B.h1 (fun z => by cases z))]; exact B.tup, by rw [upd_ne (ne_kind B.clk B.h1 (fun z => by cases z))]; exact B.clk, upd_same, by rw [upd_ne (Ne.symm B.n12)]; exact B.h2, by rw [upd_ne (Ne.symm B.n13)]; exact B.h3, B.n12, B.n13, B.n23⟩, eR⟩⟩
theorem Mdl.put2 {ds' : List (Str × Int)} (B : Mdl H m c e1 e2 e3 y bs ds cs) (eR : R = mfoot m c e1 e2 e3) (hp : H p = some (.tup xs)) :
    upd H e2 (.dK (yrs ds')) p = some (.tup xs) ∧ Keep R H (upd H e2 (.dK (yrs ds'))) ∧ MdlAt (upd H e2 (.dK (yrs ds'))) m y bs ds' cs R :=
  ⟨by rw [upd_ne (ne_kind hp B.h2 (fun z => by cases z))]; exact hp, keep_upd.wide (fun a ha => by rw [List.mem_singleton.mp ha, eR]; simp [mfoot]), ⟨c, e1, e2, e3, ⟨by rw [upd_ne (ne_kind B.tup B.h2 (fun z => by cases z))]; exact B.tup, by rw [upd_ne (ne_kind B.clk B.h2 (fun z => by cases z))]; exact B.clk, by rw [upd_ne B.n12]; exact B.h1, upd_same, by rw [upd_ne (Ne.symm B.n23)]; exact B.h3, B.n12, B.n13, B.n23⟩, eR⟩⟩
theorem Mdl.put3 {cs' : List (Str × Int)} (B : Mdl H m c e1 e2 e3 y bs ds cs) (eR : R = mfoot m c e1 e2 e3) (hp : H p = some (.tup xs)) :
    upd H e3 (.dK (yrs cs')) p = some (.tup xs) ∧ Keep R H (upd H e3 (.dK (yrs cs'))) ∧ MdlAt (upd H e3 (.dK (yrs cs'))) m y bs ds cs' R :=
  ⟨by rw [upd_ne (ne_kind hp B.h3 (fun z => by cases z))]; exact hp, keep_upd.wide (fun a ha => by rw [List.mem_singleton.mp ha, eR]; simp [mfoot]), ⟨c, e1, e2, e3, ⟨by rw [upd_ne (ne_kind B.tup B.h3 (fun z => by cases z))]; exact B.tup, by rw [upd_ne (ne_kind B.clk B.h3 (fun z => by cases z))]; exact B.clk, by rw [upd_ne B.n13]; exact B.h1, by rw [upd_ne B.n23]; exact B.h2, upd_same, B.n12, B.n13, B.n23⟩, eR⟩⟩
end
end L2

set_option Elab.async false
set_option linter.all false
set_option maxRecDepth 100000
namespace L2
open PySem PySem.Spec
theorem pok_ok {x : Str} (h : pok x = true) : PyData.strOk x = true := by
  have hp : ∀ p ∈ pcs x, PyData.strOk p = true := fun p hp => by
    unfold pok at h
    simp only [Bool.and_eq_true] at h
    rw [pcs_eq] at hp
    rcases List.mem_cons.mp hp with rfl | hp
    · exact gw_ok h.1.1
    · have z := List.all_eq_true.mp h.2 p hp
      unfold gn at z
      simp only [Bool.and_eq_true] at z
      unfold PyData.strOk
      rw [Array.all_eq_true_iff_forall_mem]
      intro c hc
      have z2 := List.all_eq_true.mp z.1.2 c (by simpa using hc)
      simp [inR] at z2
      simp
      omega
  have key : ∀ l : List Str, (∀ p ∈ l, PyData.strOk p = true) → PyData.strOk (Str.join dot l) = true := by
    intro l
    induction l with
    | nil => intro _; decide +kernel
    | cons a r ih =>
      intro hl
      cases r with
      | nil => exact hl a (by simp)
      | cons b r' =>
        show PyData.strOk (a ++ dot ++ Str.join dot (b :: r')) = true
        exact ok_app (ok_app (hl a (by simp)) (by decide +kernel)) (ih (fun p hp => hl p (List.mem_cons_of_mem _ hp)))
  rw [← pcs_join x]
  exact key _ hp
theorem Wf.ok {bs ds : List (Str × Int)} (W : Wf bs ds) {n : Str} (h : has bs n = true) : PyData.strOk n = true := pok_ok (W.wrt n h)
noncomputable def keysL (bs : List (Str × Int)) : List Str := bs.map (·.1)
noncomputable def kidL (n : Str) (c : Nat) : List Str := (List.range c).map fun i => kid n i
theorem kidVL (n : Str) (c : Nat) : kidV n c = (kidL n c).map V.str := by unfold kidV kidL; rw [List.map_map]; rfl
theorem valV_mem {κ : Type} [DecidableEq κ] (kvs : List (κ × V)) (k : κ) : (valV kvs k).isSome = true ↔ k ∈ kvs.map (·.1) := by
  unfold valV
  rw [Option.isSome_map, List.find?_isSome, List.mem_map]
  constructor
  · rintro ⟨p, hp, e⟩; exact ⟨p, hp, of_decide_eq_true e⟩
  · rintro ⟨p, hp, e⟩; exact ⟨p, hp, decide_eq_true e⟩
theorem pick4 {z : Str} (hz : gw z = true) {i : Int} (h0 : 0 ≤ i) (h1 : i < 4) : ∃ y : Str, atI [V.str "war", V.str "flood", V.str "a", V.str z] i = some (.str y) ∧ gw y = true := by
  rcases (show i = 0 ∨ i = 1 ∨ i = 2 ∨ i = 3 by omega) with rfl | rfl | rfl | rfl
  · exact ⟨_, rfl, by decide +kernel⟩
  · exact ⟨_, rfl, by decide +kernel⟩
  · exact ⟨_, rfl, by decide +kernel⟩
  · exact ⟨_, rfl, hz⟩
theorem atI_in {xs : List V} {i : Int} (h0 : 0 ≤ i) (h1 : i < xs.length) : ∃ v, atI xs i = some v := by
  have gi : i.toNat < xs.length := by omega
  have e : atI xs ((i.toNat : Nat) : Int) = some (xs[i.toNat]) := atI_nat (List.getElem?_eq_getElem gi)
  rw [show ((i.toNat : Nat) : Int) = i by omega] at e
  exact ⟨_, e⟩
theorem LivesAt.no_tup {C : Addr} {H : Hp} {b p : Addr} {bs ds : List (Str × Int)} {R : List Addr} {xs : List V} (L : LivesAt C H b bs ds R) (hp : H p = some (.tup xs)) : p ∉ R := by
  obtain ⟨d1, d2, d3, ws, B, _, _, rfl⟩ := L.ex
  obtain ⟨dx, hb⟩ := B.obj
  intro ha
  rcases List.mem_cons.mp ha with rfl | ha
  · rw [hb] at hp; cases hp
  rcases List.mem_cons.mp ha with rfl | ha
  · rw [B.h1] at hp; cases hp
  rcases List.mem_cons.mp ha with rfl | ha
  · rw [B.h2] at hp; cases hp
  rcases List.mem_cons.mp ha with rfl | ha
  · rw [B.h3] at hp; cases hp
  obtain ⟨q, hq, rfl⟩ := List.mem_map.mp ha
  rw [B.kids q hq] at hp; cases hp
theorem MoAt.tup_of {H : Hp} {m : Addr} {S : Mo} {R : List Addr} (M : MoAt H m S R) : ∃ c e1 e2 e3, Mdl H m c e1 e2 e3 S.y S.bs S.ds S.cs := by
  obtain ⟨c, e1, e2, e3, B, _⟩ := MdlAt.ex M
  exact ⟨c, e1, e2, e3, B⟩
theorem DeedsAt.push {H H' : Hp} {l p : Addr} {ds : List Deed} {ps : List Addr} {d : Deed} (D : DeedsAt H l ds ps) (s : Same H H') (hp : H' p = some (.tup d.vals)) : DeedsAt (upd H' l (.lst (ps.map V.ref ++ [V.ref p]))) l (ds ++ [d]) (ps ++ [p]) := by
  have hl := s _ _ D.lst
  refine ⟨by rw [upd_same, List.map_append]; rfl, by simp [D.len], fun i q e h1 h2 => ?_⟩
  have key : H' q = some (.tup e.vals) := by
    by_cases hi : i < ps.length
    · rw [List.getElem?_append_left hi] at h1
      rw [List.getElem?_append_left (by rw [← D.len]; exact hi)] at h2
      exact s _ _ (D.at_ i q e h1 h2)
    · rw [List.getElem?_append_right (by omega)] at h1
      rw [List.getElem?_append_right (by rw [← D.len]; omega), ← D.len] at h2
      have h3 := (List.getElem?_eq_some_iff.mp h1).1
      simp at h3
      rw [show i - ps.length = 0 by omega] at h1 h2
      simp at h1 h2
      rw [← h1, ← h2]
      exact hp
  rw [upd_ne (ne_kind key hl (fun z => by cases z))]
  exact key
structure First (was : List (Str × Int)) : Prop where
  nod : (was.map (·.1)).Nodup
  len : was.length ≤ 3
  ok : ∀ p ∈ was, gw p.1 = true ∧ 0 ≤ p.2 ∧ p.2 ≤ 120
noncomputable def arr (p : Str × Int) : Deed := .arrive p.1 p.2
noncomputable def trus (was : List (Str × Int)) : List (Key × V) := was.map fun p => ((Sum.inr p.1 : Key), V.bl true)
theorem trus_has (was : List (Str × Int)) (w : Str) : (valV (trus was) (Sum.inr w : Key)).isSome = decide (w ∈ was.map (·.1)) := by
  rw [Bool.eq_iff_iff, valV_mem, decide_eq_true_iff]
  unfold trus
  rw [List.map_map, List.mem_map, List.mem_map]
  constructor
  · rintro ⟨p, hp, e⟩; exact ⟨p, hp, by simpa using e⟩
  · rintro ⟨p, hp, e⟩; exact ⟨p, hp, by simpa using e⟩
end L2
namespace L2
open PySem PySem.Spec
theorem yr_of {bs : List (Str × Int)} {n : Str} (h : has bs n = true) : ∃ y, yr bs n = some y := by
  unfold has at h
  cases e : yr bs n with
  | none => rw [e] at h; cases h
  | some y => exact ⟨y, rfl⟩
theorem keys_at {bs : List (Str × Int)} {i : Nat} {v : V} (h : ((keysL bs).map V.str)[i]? = some v) : ∃ n, v = .str n ∧ has bs n = true := by
  have hm := List.mem_of_getElem? h
  obtain ⟨n, hn, rfl⟩ := List.mem_map.mp hm
  exact ⟨n, rfl, (has_iff bs n).mpr hn⟩
theorem keysK (bs : List (Str × Int)) : (yrs bs).map (fun p => kV p.1) = (keysL bs).map V.str := by
  unfold yrs keysL
  rw [List.map_map, List.map_map]
  rfl
end L2
namespace L2
open PySem PySem.Spec
section
variable {H H2 : Hp} {x dx C : Addr}
theorem made_free {a : Addr} (h : upd (upd H dx (.own x)) x (.ins C dx []) a = none) : H a = none := by
  have n1 : a ≠ x := fun e => by rw [e, upd_same] at h; cases h
  rw [upd_ne n1] at h
  have n2 : a ≠ dx := fun e => by rw [e, upd_same] at h; cases h
  rw [upd_ne n2] at h
  exact h
theorem made (nx : H x = none) (ndx : H dx = none) (kp : Keep [x] (upd (upd H dx (.own x)) x (.ins C dx [])) H2) : Same H H2 := fun b o e => by
  have n1 : b ≠ x := ne_of_none e nx
  refine kp.1 b o (by simpa using n1) ?_
  rw [upd_ne n1, upd_ne (ne_of_none e ndx)]
  exact e
end
theorem Mo.Ok.mono {S : Mo} {k j : Nat} (O : S.Ok k) (h : k ≤ j) : S.Ok j := ⟨O.wf, O.cw, Nat.le_trans O.lb h, Nat.le_trans O.ld h, Nat.le_trans O.lc h⟩
theorem First.good {was : List (Str × Int)} (F : First was) {S : Mo} {i : Nat} (hi : i < was.length) (hS : S.bs.map (·.1) = (was.take i).map (·.1)) {far : Int} : S.good far (arr was[i]) ∧ (S.step (arr was[i])).bs.map (·.1) = (was.take (i + 1)).map (·.1) := by
  have hm := List.getElem_mem hi
  obtain ⟨h1, h2, h3⟩ := F.ok _ hm
  refine ⟨⟨h1, ?_, h2, h3⟩, ?_⟩
  · rw [has_no, hS]
    intro z
    obtain ⟨p, hp, e⟩ := List.mem_map.mp z
    have hnd := F.nod
    obtain ⟨j, hj, e2⟩ := List.mem_iff_getElem.mp hp
    have hj1 : j < i := by rw [List.length_take] at hj; omega
    rw [List.getElem_take] at e2
    have key : (was.map (·.1))[j]'(by rw [List.length_map]; omega) = (was.map (·.1))[i]'(by rw [List.length_map]; omega) := by
      rw [List.getElem_map, List.getElem_map, e2]
      exact e
    exact (List.pairwise_iff_getElem.mp hnd) j i (by rw [List.length_map]; omega) (by rw [List.length_map]; omega) hj1 key
  · show (S.bs ++ [_]).map _ = _
    rw [List.map_append, hS, List.take_succ, List.getElem?_eq_getElem hi, List.map_append]
    rfl
theorem no_one {bs ds : List (Str × Int)} (W : Wf bs ds) {n : Str} (h : pok n = false) : has bs n = false := by
  cases e : has bs n with
  | false => rfl
  | true => rw [W.wrt n e] at h; cases h
end L2
namespace L2
open PySem PySem.Spec
theorem LivesAt.obj {C : Addr} {H : Hp} {b : Addr} {bs ds : List (Str × Int)} {R : List Addr} (L : LivesAt C H b bs ds R) : ∃ dx d1 d2 d3, H b = some (.ins C dx [("births", .ref d1), ("deaths", .ref d2), ("broods", .ref d3)]) := by
  obtain ⟨d1, d2, d3, ws, B, _⟩ := L.ex
  obtain ⟨dx, hb⟩ := B.obj
  exact ⟨dx, d1, d2, d3, hb⟩
theorem Mo.Ok.few {S : Mo} {k : Nat} (O : S.Ok k) (n : Str) : nk S.bs n ≤ k := Nat.le_trans (O.wf.few n) O.lb
end L2

set_option Elab.async false
set_option linter.all false
set_option maxRecDepth 100000
namespace L2
open PySem PySem.Spec PyProof.Rows PySem.W
structure RoomU (k : Nat) (A : Around) : Prop where
  dp : A.depth + 3 * k + 5 < recursionLimit
  un : A.units + 16 * k + 200 < cLine
theorem RoomU.deeper {k : Nat} {A : Around} (r : RoomU (k + 1) A) (env : Env) : RoomU k (A.deeper env) :=
  ⟨by have := r.dp; show A.depth + 1 + 3 * k + 5 < _; omega, by have := r.un; show A.units + 3 + 16 * k + 200 < _; omega⟩
theorem RoomU.depth {k : Nat} {A : Around} (r : RoomU k A) : A.depth < recursionLimit := by have := r.dp; omega
theorem Room.u {k : Nat} {A : Around} (r : Room k A) : RoomU k A := ⟨r.dp, r.un⟩
section
variable {X : Cx}
noncomputable def del (H : Hp) (a : Addr) : Hp := fun b => if b = a then none else H b
end
end L2

set_option Elab.async false
set_option linter.all false
set_option maxRecDepth 100000
namespace L2
open PySem PySem.Spec
end L2

set_option Elab.async false
set_option linter.all false
set_option maxRecDepth 100000
namespace L2
open PySem PySem.Spec
inductive Er where
  | gone | none_ | text | taken | deep | bound
deriving DecidableEq
noncomputable def Er.txt : Er → Str
  | .gone => "gone" | .none_ => "none" | .text => "text" | .taken => "taken" | .deep => "deep" | .bound => "bound"
noncomputable def askB (bs ds : List (Str × Int)) (way n : Str) : Option Er :=
  if way = "arrive" then (if gw n = false then some .text else if has bs n = true then some .taken else none)
  else if has bs n = false then some .none_
  else if way = "birth" then (if has ds n = true then some .gone else if 5 ≤ dots n then some .deep else none)
  else if way = "death" then (if has ds n = true then some .gone else none)
  else none
noncomputable def ways : List Str := ["arrive", "birth", "death", "born", "died", "kids"]
theorem Er.ok (e : Er) : PyData.strOk e.txt = true := by cases e <;> decide +kernel
end L2
namespace L2
open PySem PySem.Spec
section
variable {bs ds : List (Str × Int)} {n : Str} {y : Int}
end
noncomputable abbrev Bad := Str × Str × Er
structure BadsAt (H : Hp) (l : Addr) (its : List Bad) (ps : List Addr) : Prop where
  lst : H l = some (.lst (ps.map V.ref))
  len : ps.length = its.length
  at_ : ∀ (i : Nat) (p : Addr) (it : Bad), ps[i]? = some p → its[i]? = some it → ∃ q, q ≠ l ∧ H p = some (.tup [.str it.1, .str it.2.1, .ref q]) ∧ H q = some (.lst [.str it.2.2.txt])
theorem BadsAt.same {H H' : Hp} {l : Addr} {its : List Bad} {ps : List Addr} (B : BadsAt H l its ps) (s : Same H H') : BadsAt H' l its ps :=
  ⟨s _ _ B.lst, B.len, fun i p it h1 h2 => by obtain ⟨q, n, a, b⟩ := B.at_ i p it h1 h2; exact ⟨q, n, s _ _ a, s _ _ b⟩⟩
theorem BadsAt.push {H : Hp} {l q p : Addr} {its : List Bad} {ps : List Addr} {it : Bad} (B : BadsAt H l its ps) (hq : H q = none) (hp : upd H q (.lst [.str it.2.2.txt]) p = none) :
    upd (upd H q (.lst [.str it.2.2.txt])) p (.tup [.str it.1, .str it.2.1, .ref q]) l = some (.lst (ps.map V.ref)) ∧
    BadsAt (upd (upd (upd H q (.lst [.str it.2.2.txt])) p (.tup [.str it.1, .str it.2.1, .ref q])) l (.lst (ps.map V.ref ++ [.ref p]))) l (its ++ [it]) (ps ++ [p]) := by
  have s1 := same_new hq (.lst [.str it.2.2.txt])
  have s2 := s1.trans (same_new hp (.tup [.str it.1, .str it.2.1, .ref q]))
  have hl := s2 _ _ B.lst
  have nq : q ≠ l := fun e => by rw [e, B.lst] at hq; cases hq
  have pq : p ≠ q := fun e => by rw [e, upd_same] at hp; cases hp
  have hp2 : upd (upd H q (.lst [.str it.2.2.txt])) p (.tup [.str it.1, .str it.2.1, .ref q]) p = some (.tup [.str it.1, .str it.2.1, .ref q]) := upd_same
  have hq2 : upd (upd H q (.lst [.str it.2.2.txt])) p (.tup [.str it.1, .str it.2.1, .ref q]) q = some (.lst [.str it.2.2.txt]) := by rw [upd_ne (Ne.symm pq), upd_same]
  refine ⟨hl, ⟨by rw [upd_same, List.map_append]; rfl, by simp [B.len], fun i r e h1 h2 => ?_⟩⟩
  have key : ∃ q', q' ≠ l ∧ upd (upd H q (.lst [.str it.2.2.txt])) p (.tup [.str it.1, .str it.2.1, .ref q]) r = some (.tup [.str e.1, .str e.2.1, .ref q']) ∧ upd (upd H q (.lst [.str it.2.2.txt])) p (.tup [.str it.1, .str it.2.1, .ref q]) q' = some (.lst [.str e.2.2.txt]) := by
    by_cases hi : i < ps.length
    · rw [List.getElem?_append_left hi] at h1
      rw [List.getElem?_append_left (by rw [← B.len]; exact hi)] at h2
      obtain ⟨q', n, a, b⟩ := B.at_ i r e h1 h2
      exact ⟨q', n, s2 _ _ a, s2 _ _ b⟩
    · rw [List.getElem?_append_right (by omega)] at h1
      rw [List.getElem?_append_right (by rw [← B.len]; omega), ← B.len] at h2
      have h3 := (List.getElem?_eq_some_iff.mp h1).1
      simp at h3
      rw [show i - ps.length = 0 by omega] at h1 h2
      simp at h1 h2
      rw [← h1, ← h2]
      exact ⟨q, nq, hp2, hq2⟩
  obtain ⟨q', n, a, b⟩ := key
  exact ⟨q', n, by rw [upd_ne (ne_kind a hl (fun z => by cases z))]; exact a, by rw [upd_ne n]; exact b⟩
noncomputable def Gd (S : Mo) (its : List Bad) : Prop := ∀ it ∈ its, it.1 ∈ ways ∧ it.2.1.length ≤ 200 ∧ askB S.bs S.ds it.1 it.2.1 = some it.2.2
theorem Gd.push {S : Mo} {its : List Bad} {it : Bad} (g : Gd S its) (h : it.1 ∈ ways ∧ it.2.1.length ≤ 200 ∧ askB S.bs S.ds it.1 it.2.1 = some it.2.2) : Gd S (its ++ [it]) := fun x hx => by
  rcases List.mem_append.mp hx with hx | hx
  · exact g x hx
  · rw [List.mem_singleton.mp hx]; exact h
end L2

set_option Elab.async false
set_option linter.all false
set_option maxRecDepth 100000
namespace L2
open PySem PySem.Spec
section
variable {K : PySem.W.Frag} {caps : List (Str × Nat)} {tt : TT} {te : TE} {σ : St} {H H1 : Hp} {Q : VK} {a d : Addr} {xs : List V} {kvs : List (Key × V)} {o : Obj}
theorem filt_next {α : Type} {l : List α} {f : α → Bool} {ge : α → V} {i : Nat} (h : i < l.length) : ((l.take (i + 1)).filter f).map ge = ((l.take i).filter f).map ge ++ (if f l[i] = true then [ge l[i]] else []) := by
  rw [List.take_succ, List.getElem?_eq_getElem h, List.filter_append, List.map_append]
  congr 1
  show ([l[i]].filter f).map ge = _
  cases e : f l[i] with
  | true => rw [List.filter_cons_of_pos e]; rfl
  | false => rw [List.filter_cons_of_neg (by rw [e]; decide)]; rfl
theorem lcl (hl : SqL K H1 a xs) (hlen : xs.length ≤ 900) (f : V → Bool) (ge : V → V)
    (step : ∀ (i : Nat) x H2, xs[i]? = some x → Same H1 H2 → ∀ R : Bool → Hp → Prop, (∀ H3, Same H2 H3 → R (f x) H3) → tt (some x :: capSt caps σ) H2 R)
    (elt : ∀ (i : Nat) x H2, xs[i]? = some x → f x = true → Same H1 H2 → ∀ R : VK, (∀ H3, Same H2 H3 → R (ge x) H3) → te (some x :: capSt caps σ) H2 R)
    (q : ∀ D H2, H1 D = none → Same H1 H2 → H2 D = some (.lst ((xs.filter f).map ge)) → Q (.ref D) H2) :
    ∀ D, H1 D = none → ∃ W : Nat → Nat → Hp → Prop, (∃ m, W 0 m (upd H1 D (.lst []))) ∧ ∀ i m H2, W i m H2 →
      ((Itl K a).stop i H2 ∧ Q (.ref D) H2) ∨ ((Itl K a).go i H2 ∧ ∀ x H', (Itl K a).yld i H2 x H' → tt (some x :: capSt caps σ) H' fun b H3 =>
        if b = true then te (some x :: capSt caps σ) H3 fun v H4 => ∃ ys m', H4 D = some (.lst ys) ∧ ys.length < sizeLine ∧ m' < m ∧ W (i + 1) m' (upd H4 D (.lst (ys ++ [v])))
        else ∃ m', m' < m ∧ W (i + 1) m' H3) := by
  intro D hD
  refine ⟨fun i m H2 => i ≤ xs.length ∧ m = xs.length - i ∧ Same H1 H2 ∧ H2 D = some (.lst (((xs.take i).filter f).map ge)), ⟨xs.length, Nat.zero_le _, rfl, same_new hD _, upd_same⟩, ?_⟩
  rintro i m H2 ⟨hi, rfl, s2, h2⟩
  have hs := s2.seq hl
  by_cases hlt : i < xs.length
  · refine .inr ⟨⟨xs, xs[i], hs, by simp [hlt]⟩, fun x H' y => ?_⟩
    obtain ⟨e, y⟩ := y
    subst e
    have hx := y xs hs
    have hx' : xs[i] = x := by rw [List.getElem?_eq_getElem hlt] at hx; exact Option.some.inj hx
    refine step i x _ hx s2 _ fun H3 s3 => ?_
    have nx := filt_next (f := f) (ge := ge) hlt
    rw [hx'] at nx
    cases e : f x with
    | false =>
      rw [e] at nx
      exact ⟨xs.length - (i + 1), by omega, hlt, rfl, s2.trans s3, by rw [nx, if_neg (by decide), List.append_nil]; exact s3 _ _ h2⟩
    | true =>
      rw [e] at nx
      show te _ H3 _
      refine elt i x _ hx e (s2.trans s3) _ fun H4 s4 => ⟨_, xs.length - (i + 1), s4 _ _ (s3 _ _ h2), small1000 ?_, by omega, hlt, rfl, same_put1 ((s2.trans s3).trans s4) hD, ?_⟩
      · rw [List.length_map]
        exact Nat.le_trans (List.length_filter_le _ _) (by rw [List.length_take]; omega)
      · rw [upd_same, nx, if_pos rfl]
  · have e : i = xs.length := by omega
    subst e
    rw [List.take_length] at h2
    exact .inl ⟨⟨xs, hs, Nat.le_refl _⟩, q D H2 hD s2 h2⟩
end
theorem BadsAt.frz {H : Hp} {l d : Addr} {its : List Bad} {ps : List Addr} {u v : HO} (B : BadsAt H l its ps) (hd : H d = some u) (h1 : ∀ xs, u ≠ .lst xs) (h2 : ∀ xs, u ≠ .tup xs) : BadsAt (upd H d v) l its ps :=
  ⟨by rw [upd_ne (fun e => h1 _ (by rw [← e, B.lst] at hd; exact (Option.some.inj hd).symm))]; exact B.lst, B.len, fun i p it e1 e2 => by
    obtain ⟨q, n, a, b⟩ := B.at_ i p it e1 e2
    exact ⟨q, n, by rw [upd_ne (fun e => h2 _ (by rw [← e, a] at hd; exact (Option.some.inj hd).symm))]; exact a, by rw [upd_ne (fun e => h1 _ (by rw [← e, b] at hd; exact (Option.some.inj hd).symm))]; exact b⟩⟩
end L2
namespace L2
open PySem PySem.Spec
end L2
namespace L2
open PySem PySem.Spec
section
variable {K : PySem.W.Frag} {caps : List (Str × Nat)} {tl te : TE} {tt : TT} {σ : St} {H : Hp} {Q : VK} {d : Addr} {kvs : List (Key × V)}
theorem lclT {xs : List V} (A : Addr → Hp → Prop) (htl : ∀ R : VK, (∀ a H1, A a H1 → R (.ref a) H1) → tl σ H R) (hA : ∀ a H1, A a H1 → SqL K H1 a xs) (hlen : xs.length ≤ 900) (f : V → Bool) (ge : V → V)
    (step : ∀ a H1 (i : Nat) x H2, A a H1 → xs[i]? = some x → Same H1 H2 → ∀ R : Bool → Hp → Prop, (∀ H3, Same H2 H3 → R (f x) H3) → tt (some x :: capSt caps σ) H2 R)
    (elt : ∀ a H1 (i : Nat) x H2, A a H1 → xs[i]? = some x → f x = true → Same H1 H2 → ∀ R : VK, (∀ H3, Same H2 H3 → R (ge x) H3) → te (some x :: capSt caps σ) H2 R)
    (q : ∀ a H1 D H2, A a H1 → H1 D = none → Same H1 H2 → H2 D = some (.lst ((xs.filter f).map ge)) → Q (.ref D) H2) : tLC caps (iList K tl) tt te σ H Q :=
  htl _ fun a H1 h => ⟨a, rfl, ⟨xs, hA a H1 h⟩, lcl (hA a H1 h) hlen f ge (fun i x H2 => step a H1 i x H2 h) (fun i x H2 => elt a H1 i x H2 h) (fun D H2 => q a H1 D H2 h)⟩
end
end L2

set_option Elab.async false
set_option linter.all false
set_option maxRecDepth 100000
namespace L2
open PySem PySem.Spec PySem.StrLaws
theorem in_dot (x : Str) : (!(Builtin.Str.occurrences x "." 0 x.length 1).isEmpty) = decide (46 ∈ x.cps.toList) := by
  rw [show ("." : Str) = ⟨#[46]⟩ from dot_eq, StrLaws.found_one]
noncomputable def Root (S : Mo) : Prop := ∃ w, has S.bs w = true ∧ 46 ∉ w.cps.toList
theorem Root.step {S : Mo} (h : Root S) (d : Deed) : Root (S.step d) := by
  obtain ⟨w, h1, h2⟩ := h
  refine ⟨w, ?_, h2⟩
  cases d with
  | arrive x a => show has (S.bs ++ _) w = true; rw [has_app, h1]; rfl
  | birth x => show has (S.bs ++ _) w = true; rw [has_app, h1]; rfl
  | death x => exact h1
  | comes x => exact h1
  | years x => exact h1
theorem First.root {was : List (Str × Int)} (F : First was) (hne : was ≠ []) {S : Mo} {i : Nat} (hi : 0 < i) (hS : S.bs.map (·.1) = (was.take i).map (·.1)) : Root S := by
  cases was with
  | nil => exact absurd rfl hne
  | cons p r =>
    refine ⟨p.1, ?_, gw_free (F.ok p (by simp)).1⟩
    rw [has_iff, hS]
    cases i with
    | zero => exact absurd hi (Nat.lt_irrefl 0)
    | succ i => simp
end L2

set_option Elab.async false
set_option linter.all false
set_option maxRecDepth 100000
namespace L2
open PySem PySem.Spec PySem.StrLaws
theorem up_len {x : Str} (h : x.length ≠ 0) : (up x).length < x.length := by
  unfold up
  rcases last_spec x dot with ⟨e, _⟩ | ⟨i, e, z, _⟩
  · rw [e]; show 0 < x.length; omega
  · rw [e]
    show (Builtin.Str.strSub x 0 i).length < x.length
    have hi : i < x.cps.toList.length := (List.getElem?_eq_some_iff.mp ((at_iff x i).mp z)).1
    have hl : x.cps.toList.length = x.length := Array.length_toList
    have : (Builtin.Str.strSub x 0 i).length = (Builtin.Str.strSub x 0 i).cps.toList.length := (Array.length_toList).symm
    rw [this, strSub_toList]
    simp
    omega
theorem up_kid (n : Str) (i : Nat) : up (kid n i) = n := by
  have hl : (kid n i).cps.toList = n.cps.toList ++ 46 :: (toString ((i : Int) + 1) : Str).cps.toList := by
    unfold kid
    rw [cps_app, cps_app, dot_l, List.append_assoc]
    rfl
  unfold up
  rcases last_spec (kid n i) dot with ⟨e, z⟩ | ⟨j, e, z, w⟩
  · exfalso
    refine z n.cps.toList.length ((at_iff _ _).mpr ?_)
    rw [hl, List.getElem?_append_right (Nat.le_refl _)]
    simp
  · rw [e]
    have hj := (at_iff _ _).mp z
    have e0 : j = n.cps.toList.length := by
      rcases Nat.lt_trichotomy j n.cps.toList.length with h | h | h
      · exfalso
        refine w n.cps.toList.length h ((at_iff _ _).mpr ?_)
        rw [hl, List.getElem?_append_right (Nat.le_refl _)]
        simp
      · exact h
      · exfalso
        rw [hl, List.getElem?_append_right (by omega)] at hj
        cases e2 : j - n.cps.toList.length with
        | zero => omega
        | succ k =>
          rw [e2, List.getElem?_cons_succ] at hj
          exact ts_free ((i : Int) + 1) (List.mem_of_getElem? hj)
    show Builtin.Str.strSub (kid n i) 0 j = n
    refine str_ext ?_
    rw [strSub_toList, hl, e0]
    simp
noncomputable def nr (bs : List (Str × Int)) (x : Str) : Str := if h : x.length = 0 then Str.empty else if has bs x = true then x else nr bs (up x)
termination_by x.length
decreasing_by exact up_len h
theorem nr_nil (bs : List (Str × Int)) : nr bs Str.empty = Str.empty := by rw [nr]; exact dif_pos rfl
theorem nr_has {bs : List (Str × Int)} {x : Str} (h0 : x.length ≠ 0) (h : has bs x = true) : nr bs x = x := by rw [nr, dif_neg h0, if_pos h]
theorem nr_up {bs : List (Str × Int)} {x : Str} (h0 : x.length ≠ 0) (h : has bs x = false) : nr bs x = nr bs (up x) := by
  rw [nr, dif_neg h0, if_neg (by rw [h]; decide)]
theorem len0 {x : Str} (h : x.length = 0) : x = Str.empty := by
  refine str_ext ?_
  have : x.cps.toList.length = 0 := by rw [Array.length_toList]; exact h
  rw [List.length_eq_zero_iff.mp this]
  rfl
theorem kid_len (n : Str) (i : Nat) : (kid n i).length ≠ 0 := fun e => by
  have h := kid_dot n i
  rw [len0 e] at h
  cases h
theorem nr_kid {bs : List (Str × Int)} (n : Str) (i : Nat) : nr bs (kid n i) = if has bs (kid n i) = true then kid n i else nr bs n := by
  cases h : has bs (kid n i) with
  | true => rw [nr_has (kid_len n i) h]; rfl
  | false => rw [nr_up (kid_len n i) h, up_kid]; rfl
theorem nr_in (bs : List (Str × Int)) (k : Nat) : ∀ x : Str, x.length ≤ k → nr bs x = Str.empty ∨ has bs (nr bs x) = true := by
  induction k with
  | zero => intro x h; exact .inl (by rw [len0 (x := x) (by omega), nr_nil])
  | succ k ih =>
    intro x h
    by_cases h0 : x.length = 0
    · exact .inl (by rw [len0 h0, nr_nil])
    · cases e : has bs x with
      | true => rw [nr_has h0 e]; exact .inr e
      | false => rw [nr_up h0 e]; exact ih (up x) (by have := up_len h0; omega)
theorem nr_or (bs : List (Str × Int)) (x : Str) : nr bs x = Str.empty ∨ has bs (nr bs x) = true := nr_in bs x.length x (Nat.le_refl _)
theorem has_emp {bs ds : List (Str × Int)} (W : Wf bs ds) : has bs Str.empty = false := no_one W (by decide +kernel)
end L2

set_option Elab.async false
set_option linter.all false
set_option maxRecDepth 100000
namespace L2
open PySem PySem.Spec
section
variable {X : Cx}
end
structure WorldAt (g : Ga) (H : Hp) (w : Addr) (S : Mo) (R : List Addr) : Prop where
  ex : ∃ dx b hd RL, H w = some (.ins g.World dx [("year", .int S.y), ("lives", .ref b), ("happened", .ref hd)]) ∧ LivesAt g.Lives H b S.bs S.ds RL ∧ H hd = some (.dK (yrs S.cs)) ∧ R = w :: hd :: RL ∧ w ∉ RL ∧ hd ∉ RL
section
variable {g : Ga} {H H' : Hp} {w : Addr} {S : Mo} {R X : List Addr}
theorem WorldAt.wf (W : WorldAt g H w S R) : Wf S.bs S.ds := by
  obtain ⟨dx, b, hd, RL, h1, L, _⟩ := W.ex
  exact L.wf
theorem WorldAt.live (W : WorldAt g H w S R) : Live H R := by
  obtain ⟨dx, b, hd, RL, h1, L, h3, rfl, _, _⟩ := W.ex
  intro a ha
  rcases List.mem_cons.mp ha with rfl | ha
  · exact ⟨_, h1⟩
  rcases List.mem_cons.mp ha with rfl | ha
  · exact ⟨_, h3⟩
  exact L.live a ha
theorem WorldAt.mv (W : WorldAt g H w S R) (h : ∀ a ∈ R, ∀ o, H a = some o → H' a = some o) : WorldAt g H' w S R := by
  obtain ⟨dx, b, hd, RL, h1, L, h3, rfl, n1, n2⟩ := W.ex
  exact ⟨dx, b, hd, RL, h _ (by simp) _ h1, L.mv (fun a ha o e => h a (List.mem_cons_of_mem _ (List.mem_cons_of_mem _ ha)) o e), h _ (by simp) _ h3, rfl, n1, n2⟩
theorem WorldAt.same (W : WorldAt g H w S R) (s : Same H H') : WorldAt g H' w S R := W.mv fun a _ o e => s a o e
theorem WorldAt.keep (W : WorldAt g H w S R) (k : Keep X H H') (d : Dj R X) : WorldAt g H' w S R := W.mv fun a ha o e => k.1 a o (d a ha) e
theorem WorldAt.no_tup {p : Addr} {xs : List V} (W : WorldAt g H w S R) (hp : H p = some (.tup xs)) : p ∉ R := by
  obtain ⟨dx, b, hd, RL, h1, L, h3, rfl, n1, n2⟩ := W.ex
  intro ha
  rcases List.mem_cons.mp ha with rfl | ha
  · rw [h1] at hp; cases hp
  rcases List.mem_cons.mp ha with rfl | ha
  · rw [h3] at hp; cases hp
  exact L.no_tup hp ha
theorem WorldAt.book {dx b hd : Addr} {RL RL' : List Addr} {bs' ds' : List (Str × Int)} (h1 : H w = some (.ins g.World dx [("year", .int S.y), ("lives", .ref b), ("happened", .ref hd)])) (h3 : H hd = some (.dK (yrs S.cs))) (n1 : w ∉ RL) (n2 : hd ∉ RL)
    (k : Keep RL H H') (gr : Grow H RL RL') (L' : LivesAt g.Lives H' b bs' ds' RL') : WorldAt g H' w { S with bs := bs', ds := ds' } (w :: hd :: RL') ∧ Keep (w :: hd :: RL) H H' ∧ Grow H (w :: hd :: RL) (w :: hd :: RL') := by
  have f1 : ∀ a o, H a = some o → a ∉ RL → a ∉ RL' := fun a o e n z => (gr a z).elim n fun q => by rw [q] at e; cases e
  refine ⟨⟨dx, b, hd, RL', k.1 _ _ n1 h1, L', k.1 _ _ n2 h3, rfl, f1 _ _ h1 n1, f1 _ _ h3 n2⟩, k.wide (fun a ha => List.mem_cons_of_mem _ (List.mem_cons_of_mem _ ha)), fun a ha => ?_⟩
  rcases List.mem_cons.mp ha with rfl | ha
  · exact .inl (by simp)
  rcases List.mem_cons.mp ha with rfl | ha
  · exact .inl (by simp)
  exact (gr a ha).imp (fun z => List.mem_cons_of_mem _ (List.mem_cons_of_mem _ z)) id
end
end L2
namespace L2
open PySem PySem.Spec
section
variable {S : Mo} {k : Int} {x : Str}
end
noncomputable def Er.W (e : Er) : Prop := e = .bound ∨ e = .taken ∨ e = .text
end L2

set_option Elab.async false
set_option linter.all false
set_option maxRecDepth 100000
namespace L2
open PySem PySem.Spec
inductive Atm where
  | year (y : Int)
  | comes (w : Str)
  | born (n : Str)
  | dead (n : Str)
  | age (n : Str) (a : Int)
noncomputable def Atm.vals : Atm → List V
  | .year y => [.str "year", .int y]
  | .comes w => [.str "comes", .str w]
  | .born n => [.str "born", .str n]
  | .dead n => [.str "dead", .str n]
  | .age n a => [.str "age", .str n, .int a]
noncomputable def ageOf (S : Mo) (n : Str) (y : Int) : Int := (yr S.ds n).getD S.y - y
noncomputable def stAge (S : Mo) (n : Str) (y a : Int) : Str := if a ≤ ageOf S n y then "met" else if has S.ds n = true then "failed" else "hangs"
noncomputable def stNone (S : Mo) (n : Str) : Str := if al S.bs S.ds (nr S.bs n) = true then "hangs" else "failed"
noncomputable def Atm.stand (S : Mo) : Atm → Str
  | .year y => if y ≤ S.y then "met" else "hangs"
  | .comes w => if has S.cs w = true then "met" else "hangs"
  | .born n => if has S.bs n = true then "met" else stNone S n
  | .dead n => if has S.bs n = true then (if has S.ds n = true then "met" else "hangs") else stNone S n
  | .age n a => match yr S.bs n with
    | some y => stAge S n y a
    | none => stNone S n
noncomputable def Atm.who : Atm → Option Str
  | .born n => some n
  | .dead n => some n
  | .age n _ => some n
  | _ => none
noncomputable def Atm.bad (S : Mo) (t : Atm) : Option Er := match t.who with
  | none => none
  | some n => if has S.bs n = true then none else if pok n = false then some .text else if nr S.bs n = ("" : Str) then some .none_ else none
noncomputable def Atm.met (S : Mo) : Atm → V
  | .year y => .int y
  | .comes w => ((yr S.cs w).map V.int).getD .non
  | .born n => ((yr S.bs n).map V.int).getD .non
  | .dead n => ((yr S.ds n).map V.int).getD .non
  | .age n a => ((yr S.bs n).map fun y => V.int (y + a)).getD .non
noncomputable def Atm.since (S : Mo) (t : Atm) : V := if t.stand S = ("hangs" : Str) then .non else if t.stand S = ("met" : Str) then t.met S else match t.who with
  | some n => ((yr S.ds (nr S.bs n)).map V.int).getD .non
  | none => .non
section
variable {S : Mo} {t : Atm} {n : Str}
theorem Atm.stand_none (ht : t.who = some n) (hk : has S.bs n = false) : t.stand S = stNone S n := by
  cases t with
  | year y => cases ht
  | comes w => cases ht
  | born m => cases ht; show (if has S.bs n = true then _ else _) = _; rw [hk]; rfl
  | dead m => cases ht; show (if has S.bs n = true then _ else _) = _; rw [hk]; rfl
  | age m a =>
    cases ht
    have hy : yr S.bs n = none := by
      unfold has at hk
      cases h : yr S.bs n with
      | none => rfl
      | some y => rw [h] at hk; cases hk
    show (match yr S.bs n with | some y => _ | none => _) = _
    rw [hy]
theorem Atm.bad_known (ht : t.who = some n) (hk : has S.bs n = true) : t.bad S = none := by
  unfold Atm.bad; rw [ht]; exact if_pos hk
theorem Atm.bad_text (ht : t.who = some n) (hk : has S.bs n = false) (hp : pok n = false) : t.bad S = some .text := by
  unfold Atm.bad; rw [ht]; show (if has S.bs n = true then _ else _) = _; rw [hk]; exact if_pos hp
theorem Atm.bad_lost (ht : t.who = some n) (hk : has S.bs n = false) (hp : pok n = true) (hr : nr S.bs n = ("" : Str)) : t.bad S = some .none_ := by
  unfold Atm.bad; rw [ht]; show (if has S.bs n = true then _ else if pok n = false then _ else _) = _; rw [hk, hp]; exact if_pos hr
theorem Atm.bad_fine (ht : t.who = some n) (hk : has S.bs n = false) (hp : pok n = true) (hr : nr S.bs n ≠ ("" : Str)) : t.bad S = none := by
  unfold Atm.bad; rw [ht]; show (if has S.bs n = true then _ else if pok n = false then _ else _) = _; rw [hk, hp]; exact if_neg hr
theorem pok_pos {x : Str} (h : pok x = true) : x.length ≠ 0 := by
  intro e
  obtain ⟨c⟩ := x
  obtain rfl : c = #[] := Array.eq_empty_of_size_eq_zero e
  exact absurd h (by decide +kernel)
theorem Atm.near_ok (W : Wf S.bs S.ds) (ht : t.who = some n) (hb : t.bad S = none) : pok n = true ∧ has S.bs (nr S.bs n) = true := by
  cases hk : has S.bs n with
  | true =>
    have hp := W.wrt n hk
    exact ⟨hp, by rw [nr_has (pok_pos hp) hk]; exact hk⟩
  | false =>
    cases hp : pok n with
    | false => rw [Atm.bad_text ht hk hp] at hb; cases hb
    | true =>
      refine ⟨rfl, ?_⟩
      rcases nr_or S.bs n with e | e
      · rw [Atm.bad_lost ht hk hp (e.trans (by decide +kernel))] at hb; cases hb
      · exact e
theorem pick2 {a b : V} (k : Bool) : atI [a, b] (if k = true then 1 else 0) = some (if k = true then b else a) := by cases k <;> rfl
end
end L2

set_option Elab.async false
set_option linter.all false
set_option maxRecDepth 100000
namespace L2
open PySem PySem.Spec
noncomputable def fl (f : Nat → Bool) (n : Nat) : List Nat := (List.range n).filter f
theorem fl_succ (f : Nat → Bool) (n : Nat) : fl f (n + 1) = fl f n ++ (if f n = true then [n] else []) := by
  unfold fl
  rw [List.range_succ, List.filter_append]
  congr 1
  cases e : f n with
  | true => rw [List.filter_cons_of_pos e]; rfl
  | false => rw [List.filter_cons_of_neg (by rw [e]; decide)]; rfl
theorem fl_len (f : Nat → Bool) (n : Nat) : (fl f n).length ≤ n := by unfold fl; exact Nat.le_trans (List.length_filter_le _ _) (by rw [List.length_range]; exact Nat.le_refl _)
theorem fl_all (n : Nat) : fl (fun _ => true) n = List.range n := by unfold fl; rw [List.filter_eq_self]; intro _ _; rfl
theorem pair_map {α β : Type} {g : α → β} : ∀ {l : List α} {m : List β}, Paired (fun a b => b = g a) l m → m = l.map g
  | _, _, .nil => rfl
  | _, _, .cons r t => by rw [r, pair_map t]; rfl
noncomputable abbrev LCs (caps : List (Str × Nat)) (J : It) (tt : TT) (te : TE) (σ : St) (H1 : Hp) (Q : VK) : Prop :=
    ∀ D, H1 D = none → ∃ W : Nat → Nat → Hp → Prop, (∃ m, W 0 m (upd H1 D (.lst []))) ∧ ∀ i m H2, W i m H2 →
      (J.stop i H2 ∧ Q (.ref D) H2) ∨ (J.go i H2 ∧ ∀ x H', J.yld i H2 x H' → tt (some x :: capSt caps σ) H' fun b H3 =>
        if b = true then te (some x :: capSt caps σ) H3 fun v H4 => ∃ ys m', H4 D = some (.lst ys) ∧ ys.length < sizeLine ∧ m' < m ∧ W (i + 1) m' (upd H4 D (.lst (ys ++ [v])))
        else ∃ m', m' < m ∧ W (i + 1) m' H3)
section
variable {K : PySem.W.Frag} {caps : List (Str × Nat)} {tt : TT} {tl te : TE} {σ : St} {H H1 : Hp} {Q : VK}
theorem lcG {J : It} {n : Nat} (X : Nat → V) (hn : n ≤ 900)
    (stop : ∀ H, Same H1 H → J.stop n H) (go : ∀ i H, i < n → Same H1 H → J.go i H ∧ ∀ x H', J.yld i H x H' → H' = H ∧ x = X i)
    (f : Nat → Bool) (P : Nat → V → Hp → Prop) (mono : ∀ i v H H' D ys, H D = some (.lst ys) → Keep [D] H H' → P i v H → P i v H')
    (step : ∀ i H2, i < n → Same H1 H2 → ∀ R : Bool → Hp → Prop, (∀ H3, Same H2 H3 → R (f i) H3) → tt (some (X i) :: capSt caps σ) H2 R)
    (elt : ∀ i H2, i < n → f i = true → Same H1 H2 → ∀ R : VK, (∀ v H3, Same H2 H3 → P i v H3 → R v H3) → te (some (X i) :: capSt caps σ) H2 R)
    (q : ∀ D ys H2, H1 D = none → Same H1 H2 → H2 D = some (.lst ys) → Paired (fun j v => P j v H2) (fl f n) ys → Q (.ref D) H2) :
    LCs caps J tt te σ H1 Q := by
  intro D hD
  refine ⟨fun i m H2 => i ≤ n ∧ m = n - i ∧ Same H1 H2 ∧ ∃ ys, H2 D = some (.lst ys) ∧ Paired (fun j v => P j v H2) (fl f i) ys, ⟨n, Nat.zero_le _, rfl, same_new hD _, [], upd_same, .nil⟩, ?_⟩
  rintro i m H2 ⟨hi, rfl, s2, ys, h2, hp⟩
  by_cases hlt : i < n
  · obtain ⟨g1, g2⟩ := go i H2 hlt s2
    refine .inr ⟨g1, fun x H' y => ?_⟩
    obtain ⟨rfl, rfl⟩ := g2 x H' y
    refine step i _ hlt s2 _ fun H3 s3 => ?_
    have p3 := Paired.mapP hp fun j v h => mono j v _ H3 D ys h2 (s3.kp.wide (fun _ h => nomatch h)) h
    have nx := fl_succ f i
    cases e : f i with
    | false =>
      rw [e] at nx
      exact ⟨n - (i + 1), by omega, hlt, rfl, s2.trans s3, ys, s3 _ _ h2, by rw [nx, if_neg (by decide), List.append_nil]; exact p3⟩
    | true =>
      rw [e] at nx
      show te _ H3 _
      refine elt i _ hlt e (s2.trans s3) _ fun v H4 s4 hv => ?_
      have h4 := s4 _ _ (s3 _ _ h2)
      have p4 := Paired.mapP p3 fun j v h => mono j v _ H4 D ys (s3 _ _ h2) (s4.kp.wide (fun _ h => nomatch h)) h
      have yl : ys.length ≤ i := by rw [← hp.length]; exact fl_len f i
      refine ⟨ys, n - (i + 1), h4, small1000 (by omega), by omega, hlt, rfl, same_put1 ((s2.trans s3).trans s4) hD, ys ++ [v], upd_same, ?_⟩
      rw [nx, if_pos rfl]
      exact (Paired.mapP p4 fun j v h => mono j v _ _ D ys h4 keep_upd h).snoc (mono i v _ _ D ys h4 keep_upd hv)
  · have e : i = n := by omega
    subst e
    exact .inl ⟨stop _ s2, q D ys H2 hD s2 h2 hp⟩
theorem lcR {lo : Int} {n : Nat} (hn : n ≤ 900) (f : Nat → Bool) (P : Nat → V → Hp → Prop) (mono : ∀ i v H H' D ys, H D = some (.lst ys) → Keep [D] H H' → P i v H → P i v H')
    (step : ∀ i H2, i < n → Same H1 H2 → ∀ R : Bool → Hp → Prop, (∀ H3, Same H2 H3 → R (f i) H3) → tt (some (.int (lo + i)) :: capSt caps σ) H2 R)
    (elt : ∀ i H2, i < n → f i = true → Same H1 H2 → ∀ R : VK, (∀ v H3, Same H2 H3 → P i v H3 → R v H3) → te (some (.int (lo + i)) :: capSt caps σ) H2 R)
    (q : ∀ D ys H2, H1 D = none → Same H1 H2 → H2 D = some (.lst ys) → Paired (fun j v => P j v H2) (fl f n) ys → Q (.ref D) H2) : LCs caps (Itr lo n) tt te σ H1 Q :=
  lcG (J := Itr lo n) (Q := Q) (fun i => .int (lo + i)) hn (fun _ _ => Nat.le_refl n) (fun i H h _ => ⟨h, fun x H' y => y⟩) f P mono step elt q
theorem lcL {a : Addr} {xs : List V} (hl : SqL K H1 a xs) (hn : xs.length ≤ 900) (f : Nat → Bool) (P : Nat → V → Hp → Prop) (mono : ∀ i v H H' D ys, H D = some (.lst ys) → Keep [D] H H' → P i v H → P i v H')
    (step : ∀ i x H2, xs[i]? = some x → Same H1 H2 → ∀ R : Bool → Hp → Prop, (∀ H3, Same H2 H3 → R (f i) H3) → tt (some x :: capSt caps σ) H2 R)
    (elt : ∀ i x H2, xs[i]? = some x → f i = true → Same H1 H2 → ∀ R : VK, (∀ v H3, Same H2 H3 → P i v H3 → R v H3) → te (some x :: capSt caps σ) H2 R)
    (q : ∀ D ys H2, H1 D = none → Same H1 H2 → H2 D = some (.lst ys) → Paired (fun j v => P j v H2) (fl f xs.length) ys → Q (.ref D) H2) : LCs caps (Itl K a) tt te σ H1 Q :=
  lcG (J := Itl K a) (Q := Q) (fun i => xs[i]?.getD .non) hn (fun H s => ⟨xs, s.seq hl, Nat.le_refl _⟩)
    (fun i H h s => ⟨⟨xs, xs[i], s.seq hl, List.getElem?_eq_getElem h⟩, fun x H' y => ⟨y.1, by rw [y.2 xs (s.seq hl)]; rfl⟩⟩) f P mono
    (fun i H2 hi s => by
      have e : xs[i]? = some xs[i] := List.getElem?_eq_getElem hi
      show ∀ R, _ → tt (some (xs[i]?.getD .non) :: capSt caps σ) H2 R
      rw [e]
      exact step i _ H2 e s)
    (fun i H2 hi hf s => by
      have e : xs[i]? = some xs[i] := List.getElem?_eq_getElem hi
      show ∀ R, _ → te (some (xs[i]?.getD .non) :: capSt caps σ) H2 R
      rw [e]
      exact elt i _ H2 e hf s) q
theorem lcLv {a : Addr} {xs : List V} (hl : SqL K H1 a xs) (hn : xs.length ≤ 900) (f : Nat → Bool) (g : Nat → V)
    (step : ∀ i x H2, xs[i]? = some x → Same H1 H2 → ∀ R : Bool → Hp → Prop, (∀ H3, Same H2 H3 → R (f i) H3) → tt (some x :: capSt caps σ) H2 R)
    (elt : ∀ i x H2, xs[i]? = some x → f i = true → Same H1 H2 → ∀ R : VK, (∀ H3, Same H2 H3 → R (g i) H3) → te (some x :: capSt caps σ) H2 R)
    (q : ∀ D H2, H1 D = none → Same H1 H2 → H2 D = some (.lst ((fl f xs.length).map g)) → Q (.ref D) H2) : LCs caps (Itl K a) tt te σ H1 Q :=
  lcL (Q := Q) hl hn f (fun i v _ => v = g i) (fun _ _ _ _ _ _ _ _ h => h) step (fun i x H2 hx hf s R r => elt i x H2 hx hf s R fun H3 s3 => r _ H3 s3 rfl)
    (fun D ys H2 h1 s h2 hp => q D H2 h1 s (by rw [← pair_map hp]; exact h2))
end
end L2
namespace L2
open PySem PySem.Spec
section
variable {K : PySem.W.Frag} {caps : List (Str × Nat)} {tt : TT} {tl te : TE} {ta : TA} {σ : St} {H : Hp} {Q : VK}
theorem lcLT {xs : List V} (A : Addr → Hp → Prop) (htl : ∀ R : VK, (∀ a H1, A a H1 → R (.ref a) H1) → tl σ H R) (hA : ∀ a H1, A a H1 → SqL K H1 a xs) (hn : xs.length ≤ 900) (f : Nat → Bool) (P : Addr → Hp → Nat → V → Hp → Prop)
    (mono : ∀ a H1 i v H H' D ys, H D = some (.lst ys) → Keep [D] H H' → P a H1 i v H → P a H1 i v H')
    (step : ∀ a H1 i x H2, A a H1 → xs[i]? = some x → Same H1 H2 → ∀ R : Bool → Hp → Prop, (∀ H3, Same H2 H3 → R (f i) H3) → tt (some x :: capSt caps σ) H2 R)
    (elt : ∀ a H1 i x H2, A a H1 → xs[i]? = some x → f i = true → Same H1 H2 → ∀ R : VK, (∀ v H3, Same H2 H3 → P a H1 i v H3 → R v H3) → te (some x :: capSt caps σ) H2 R)
    (q : ∀ a H1 D ys H2, A a H1 → H1 D = none → Same H1 H2 → H2 D = some (.lst ys) → Paired (fun j v => P a H1 j v H2) (fl f xs.length) ys → Q (.ref D) H2) : tLC caps (iList K tl) tt te σ H Q :=
  htl _ fun a H1 h => ⟨a, rfl, ⟨xs, hA a H1 h⟩, lcL (hA a H1 h) hn f (P a H1) (mono a H1) (fun i x H2 => step a H1 i x H2 h) (fun i x H2 => elt a H1 i x H2 h) (fun D ys H2 => q a H1 D ys H2 h)⟩
theorem lcLvT {xs : List V} (A : Addr → Hp → Prop) (htl : ∀ R : VK, (∀ a H1, A a H1 → R (.ref a) H1) → tl σ H R) (hA : ∀ a H1, A a H1 → SqL K H1 a xs) (hn : xs.length ≤ 900) (f : Nat → Bool) (g : Nat → V)
    (step : ∀ a H1 i x H2, A a H1 → xs[i]? = some x → Same H1 H2 → ∀ R : Bool → Hp → Prop, (∀ H3, Same H2 H3 → R (f i) H3) → tt (some x :: capSt caps σ) H2 R)
    (elt : ∀ a H1 i x H2, A a H1 → xs[i]? = some x → f i = true → Same H1 H2 → ∀ R : VK, (∀ H3, Same H2 H3 → R (g i) H3) → te (some x :: capSt caps σ) H2 R)
    (q : ∀ a H1 D H2, A a H1 → H1 D = none → Same H1 H2 → H2 D = some (.lst ((fl f xs.length).map g)) → Q (.ref D) H2) : tLC caps (iList K tl) tt te σ H Q :=
  htl _ fun a H1 h => ⟨a, rfl, ⟨xs, hA a H1 h⟩, lcLv (hA a H1 h) hn f g (fun i x H2 => step a H1 i x H2 h) (fun i x H2 => elt a H1 i x H2 h) (fun D H2 => q a H1 D H2 h)⟩
end
end L2

set_option Elab.async false
set_option linter.all false
set_option maxRecDepth 100000
namespace L2
open PySem PySem.Spec
noncomputable def okN (S : Mo) (n : Str) : Prop := pok n = true ∧ nr S.bs n ≠ Str.empty
noncomputable def Atm.ok (S : Mo) : Atm → Prop
  | .year y => 0 ≤ y ∧ y < 10000
  | .comes w => gw w = true
  | .born n => okN S n
  | .dead n => okN S n
  | .age n a => okN S n ∧ 0 ≤ a ∧ a ≤ 120
section
variable {S : Mo} {t : Atm} {n : Str}
theorem Atm.ok_who (h : t.ok S) (hw : t.who = some n) : okN S n := by
  cases t with
  | year y => cases hw
  | comes w => cases hw
  | born m => cases hw; exact h
  | dead m => cases hw; exact h
  | age m a => cases hw; exact h.1
theorem Atm.ok_bad (h : t.ok S) : t.bad S = none := by
  cases hw : t.who with
  | none => unfold Atm.bad; rw [hw]
  | some n =>
    have z := Atm.ok_who h hw
    cases hk : has S.bs n with
    | true => exact Atm.bad_known hw hk
    | false => exact Atm.bad_fine hw hk z.1 (fun e => z.2 (e.trans (by decide +kernel)))
theorem Atm.ok_len (h : t.ok S) : ∀ n, t.who = some n → n.length ≤ 200 := fun n hw => by have := pok_len (Atm.ok_who h hw).1; omega
end
structure AtmsAt (H : Hp) (l : Addr) (ts : List Atm) (ps : List Addr) : Prop where
  lst : H l = some (.lst (ps.map V.ref))
  len : ps.length = ts.length
  at_ : ∀ (i : Nat) (p : Addr) (t : Atm), ps[i]? = some p → ts[i]? = some t → H p = some (.tup t.vals)
section
variable {H H' : Hp} {l : Addr} {ts : List Atm} {ps X : List Addr}
theorem AtmsAt.mv (D : AtmsAt H l ts ps) (h : ∀ a ∈ l :: ps, ∀ o, H a = some o → H' a = some o) : AtmsAt H' l ts ps :=
  ⟨h _ (by simp) _ D.lst, D.len, fun i p d e1 e2 => h _ (List.mem_cons_of_mem _ (List.mem_of_getElem? e1)) _ (D.at_ i p d e1 e2)⟩
theorem AtmsAt.same (D : AtmsAt H l ts ps) (s : Same H H') : AtmsAt H' l ts ps := D.mv fun a _ o e => s a o e
theorem AtmsAt.keep (D : AtmsAt H l ts ps) (k : Keep X H H') (d : Dj (l :: ps) X) : AtmsAt H' l ts ps := D.mv fun a ha o e => k.1 a o (d a ha) e
theorem AtmsAt.at' (D : AtmsAt H l ts ps) {i : Nat} {v : V} (h : (ps.map V.ref)[i]? = some v) : ∃ p t, v = .ref p ∧ ts[i]? = some t ∧ H p = some (.tup t.vals) := by
  rw [List.getElem?_map] at h
  cases e : ps[i]? with
  | none => rw [e] at h; cases h
  | some p =>
    rw [e] at h
    cases h
    have hi : i < ts.length := by rw [← D.len]; exact (List.getElem?_eq_some_iff.mp e).1
    exact ⟨p, _, rfl, List.getElem?_eq_getElem hi, D.at_ i p _ e (List.getElem?_eq_getElem hi)⟩
theorem AtmsAt.tup_of (D : AtmsAt H l ts ps) {p : Addr} (h : p ∈ ps) : ∃ t ∈ ts, H p = some (.tup t.vals) := by
  obtain ⟨i, hi⟩ := List.mem_iff_getElem?.mp h
  have hj : i < ts.length := by rw [← D.len]; exact (List.getElem?_eq_some_iff.mp hi).1
  exact ⟨ts[i], List.getElem_mem hj, D.at_ i p _ hi (List.getElem?_eq_getElem hj)⟩
end
theorem atms_of {H : Hp} {l : Addr} {ok : Atm → Prop} {fr : Addr → Prop} {js : List Nat} {ys : List V} (hl : H l = some (.lst ys))
    (h : Paired (fun _ v => ∃ p t, v = V.ref p ∧ H p = some (.tup (Atm.vals t)) ∧ ok t ∧ fr p) js ys) : ∃ ts ps, AtmsAt H l ts ps ∧ (∀ t ∈ ts, ok t) ∧ (∀ p ∈ ps, fr p) ∧ ts.length = js.length := by
  suffices z : ∃ (ts : List Atm) (ps : List Addr), ys = ps.map V.ref ∧ ps.length = ts.length ∧ (∀ (i : Nat) (p : Addr) (t : Atm), ps[i]? = some p → ts[i]? = some t → H p = some (.tup t.vals)) ∧ (∀ t ∈ ts, ok t) ∧ (∀ p ∈ ps, fr p) ∧ ts.length = js.length by
    obtain ⟨ts, ps, e, a, b, c, d, f⟩ := z
    exact ⟨ts, ps, ⟨by rw [hl, e], a, b⟩, c, d, f⟩
  clear hl
  induction h with
  | nil => exact ⟨[], [], rfl, rfl, (fun i p t h => by simp at h), (fun _ h => nomatch h), (fun _ h => nomatch h), rfl⟩
  | cons r _ ih =>
    obtain ⟨ts, ps, e, a, b, c, d, f⟩ := ih
    obtain ⟨p, t, rfl, hp, ho, hf⟩ := r
    refine ⟨t :: ts, p :: ps, by rw [e]; rfl, by rw [List.length_cons, List.length_cons, a], ?_, ?_, ?_, by rw [List.length_cons, List.length_cons, f]⟩
    · intro i q u h1 h2
      cases i with
      | zero => cases h1; cases h2; exact hp
      | succ i => exact b i q u h1 h2
    · intro u hu
      rcases List.mem_cons.mp hu with rfl | hu
      · exact ho
      · exact c u hu
    · intro u hu
      rcases List.mem_cons.mp hu with rfl | hu
      · exact hf
      · exact d u hu
theorem pickI2 {a b : V} (n : Int) : ∃ v, atI [a, b] (n % 2) = some v ∧ (v = a ∨ v = b) := by
  rcases (show n % 2 = 0 ∨ n % 2 = 1 by omega) with e | e <;> rw [e]
  · exact ⟨_, rfl, .inl rfl⟩
  · exact ⟨_, rfl, .inr rfl⟩
end L2
namespace L2
open PySem PySem.Spec
theorem keep_tup {H H' : Hp} {D p : Addr} {ys xs : List V} (hD : H D = some (.lst ys)) (k : Keep [D] H H') (hp : H p = some (.tup xs)) : H' p = some (.tup xs) :=
  k.1 p _ (fun z => ne_kind hp hD (fun e => by cases e) (List.mem_singleton.mp z)) hp
theorem atm_mono {ok : Atm → Prop} {fr : Addr → Prop} : ∀ (i : Nat) (v : V) (H H' : Hp) (D : Addr) (ys : List V), H D = some (.lst ys) → Keep [D] H H' →
    (∃ p t, v = V.ref p ∧ H p = some (.tup (Atm.vals t)) ∧ ok t ∧ fr p) → ∃ p t, v = V.ref p ∧ H' p = some (.tup (Atm.vals t)) ∧ ok t ∧ fr p :=
  fun _ _ _ _ _ _ hD k ⟨p, t, e, hp, a, b⟩ => ⟨p, t, e, keep_tup hD k hp, a, b⟩
theorem cl_sub {cl cells : List (Str × Addr)} (h : ∀ p ∈ cl, cells.lookup p.1 = some p.2) : ∀ x c, cl.lookup x = some c → cells.lookup x = some c := by
  intro x c e
  induction cl with
  | nil => cases e
  | cons p r ih =>
    obtain ⟨k, v⟩ := p
    rw [List.lookup_cons] at e
    cases q : x == k with
    | true =>
      rw [q] at e
      have e' : some v = some c := e
      have hk : x = k := eq_of_beq q
      rw [hk, ← e']
      exact h (k, v) (by simp)
    | false =>
      rw [q] at e
      exact ih (fun p hp => h p (List.mem_cons_of_mem _ hp)) e
end L2
namespace L2
open PySem PySem.Spec
noncomputable def Er.nm : Er → Str
  | .none_ => "person" | .text => "text" | _ => ""
end L2
namespace L2
open PySem PySem.Spec
theorem AtmsAt.cons {H : Hp} {l l' p : Addr} {t : Atm} {ts : List Atm} {ps : List Addr} (A : AtmsAt H l ts ps) (hp : H p = some (.tup t.vals)) (hl : H l' = some (.lst ((p :: ps).map V.ref))) : AtmsAt H l' (t :: ts) (p :: ps) :=
  ⟨hl, by rw [List.length_cons, List.length_cons, A.len], fun i q u e1 e2 => by
    cases i with
    | zero => cases e1; cases e2; exact hp
    | succ i => exact A.at_ i q u e1 e2⟩
theorem no_dot_gw {w : Str} (h : gw w = true) : 46 ∉ w.cps.toList := fun hm => by
  unfold gw at h
  simp only [Bool.and_eq_true] at h
  have z := List.all_eq_true.mp h.1.2 46 hm
  exact absurd z (by decide)
theorem up_gw {w : Str} (h : gw w = true) : up w = Str.empty := by
  unfold up
  rcases StrLaws.last_spec w dot with ⟨e, _⟩ | ⟨i, e, z, _⟩
  · rw [e]
  · exact absurd (List.mem_of_getElem? ((L2.at_iff w i).mp z)) (no_dot_gw h)
theorem nr_gw {bs : List (Str × Int)} {w : Str} (h : gw w = true) (hk : has bs w = false) : nr bs w = Str.empty := by
  rw [nr_up (by have := (gw_len h).1; omega) hk, up_gw h, nr_nil]
end L2

set_option Elab.async false
set_option linter.all false
set_option maxRecDepth 100000
namespace L2
open PySem PySem.Spec
noncomputable def foldS (ss : List Str) : Str := if ("failed" : Str) ∈ ss then "failed" else if ("hangs" : Str) ∈ ss then "hangs" else "met"
theorem inV_strs (a : Str) (ss : List Str) : inV (.str a) (ss.map V.str) = decide (a ∈ ss) := by
  unfold inV
  rw [List.any_map]
  induction ss with
  | nil => rfl
  | cons b r ih =>
    rw [List.any_cons, ih]
    show ((b == a) || decide (a ∈ r)) = _
    by_cases e : b = a
    · subst e; simp
    · rw [beq_eq_false_iff_ne.mpr e]
      simp [Ne.symm e]
theorem flat_strs (ss : List Str) : (ss.map V.str).all flatV = true := by
  rw [List.all_map, List.all_eq_true]
  intro _ _
  rfl
noncomputable def Atm.data : Atm → PyData
  | .year y => .tuple [.str "year", .int y]
  | .comes w => .tuple [.str "comes", .str w]
  | .born n => .tuple [.str "born", .str n]
  | .dead n => .tuple [.str "dead", .str n]
  | .age n a => .tuple [.str "age", .str n, .int a]
theorem AtmsAt.copy {H : Hp} {l l' : Addr} {ts : List Atm} {ps : List Addr} (A : AtmsAt H l ts ps) (h : H l' = some (.lst (ps.map V.ref))) : AtmsAt H l' ts ps := ⟨h, A.len, A.at_⟩
theorem AtmsAt.app {H H' : Hp} {l p : Addr} {t : Atm} {ts : List Atm} {ps : List Addr} (A : AtmsAt H l ts ps) (hp : H p = some (.tup t.vals)) (k : Keep [l] H H') (h : H' l = some (.lst (ps.map V.ref ++ [.ref p]))) : AtmsAt H' l (ts ++ [t]) (ps ++ [p]) := by
  refine ⟨by rw [List.map_append]; exact h, by rw [List.length_append, List.length_append, A.len]; rfl, fun i q u e1 e2 => ?_⟩
  by_cases c : i < ps.length
  · rw [List.getElem?_append_left c] at e1
    rw [List.getElem?_append_left (by rw [← A.len]; exact c)] at e2
    exact keep_tup A.lst k (A.at_ i q u e1 e2)
  · have h1 := (List.getElem?_eq_some_iff.mp e1).1
    rw [List.length_append, List.length_singleton] at h1
    obtain rfl : i = ps.length := by omega
    rw [List.getElem?_append_right (Nat.le_refl _), Nat.sub_self] at e1
    rw [A.len, List.getElem?_append_right (Nat.le_refl _), Nat.sub_self] at e2
    cases e1; cases e2
    exact keep_tup A.lst k hp
end L2
namespace L2
open PySem PySem.Spec
theorem stand_map {S : Mo} (ts : List Atm) : ((List.range ts.length).map fun i => V.str ((ts[i]?.map (Atm.stand S)).getD "")) = (ts.map (Atm.stand S)).map V.str := by
  rw [List.map_map]
  refine List.ext_getElem? fun i => ?_
  rw [List.getElem?_map, List.getElem?_map]
  by_cases h : i < ts.length
  · rw [List.getElem?_range h, List.getElem?_eq_getElem h]
    simp [List.getElem?_eq_getElem h]
  · rw [List.getElem?_eq_none (by simpa using h), List.getElem?_eq_none (by simpa using h)]
    rfl
end L2

set_option Elab.async false
set_option linter.all false
set_option maxRecDepth 100000
namespace L2
open PySem PySem.Spec
section
variable {K : PySem.W.Frag} {caps : List (Str × Nat)} {tl te : TE} {tt : TT} {σ : St} {H : Hp} {Q : VK}
theorem lcS {ss : List Str} (A : Addr → Hp → Prop) (f : Str → Bool) (ge : Str → V) (htl : ∀ R : VK, (∀ a H1, A a H1 → R (.ref a) H1) → tl σ H R) (hA : ∀ a H1, A a H1 → SqL K H1 a (ss.map V.str)) (hlen : ss.length ≤ 900)
    (step : ∀ a H1 x H2, A a H1 → x ∈ ss → Same H1 H2 → ∀ R : Bool → Hp → Prop, (∀ H3, Same H2 H3 → R (f x) H3) → tt (some (.str x) :: capSt caps σ) H2 R)
    (elt : ∀ a H1 x H2, A a H1 → x ∈ ss → f x = true → Same H1 H2 → ∀ R : VK, (∀ H3, Same H2 H3 → R (ge x) H3) → te (some (.str x) :: capSt caps σ) H2 R)
    (q : ∀ a H1 D H2, A a H1 → H1 D = none → Same H1 H2 → H2 D = some (.lst ((ss.filter f).map ge)) → Q (.ref D) H2) : tLC caps (iList K tl) tt te σ H Q := by
  refine lclT (xs := ss.map V.str) A htl hA (by rw [List.length_map]; exact hlen) (fun v => match v with | .str x => f x | _ => false) (fun v => match v with | .str x => ge x | _ => v) ?_ ?_ ?_
  · intro a H1 i x H2 hA hx s
    rw [List.getElem?_map] at hx
    cases e : ss[i]? with
    | none => rw [e] at hx; cases hx
    | some y => rw [e] at hx; cases hx; exact step a H1 y H2 hA (List.mem_of_getElem? e) s
  · intro a H1 i x H2 hA hx hf s
    rw [List.getElem?_map] at hx
    cases e : ss[i]? with
    | none => rw [e] at hx; cases hx
    | some y => rw [e] at hx; cases hx; exact elt a H1 y H2 hA (List.mem_of_getElem? e) hf s
  · intro a H1 D H2 hA hD s h
    refine q a H1 D H2 hA hD s ?_
    rw [h, List.filter_map, List.map_map]
    rfl
end
noncomputable def kidsOf (S : Mo) (n : Str) : List Str := kidL n (nk S.bs n)
noncomputable def memL (S : Mo) (n : Str) (os : List Str) : List Str := (kidsOf S n).filter fun c => !decide (c ∈ os)
noncomputable def bornS (S : Mo) (c : Str) : Int := (yr S.bs c).getD 0
noncomputable def ageS (S : Mo) (c : Str) : Int := (yr S.ds c).getD S.y - bornS S c
noncomputable def seatL (S : Mo) (n : Str) (a : Int) (os : List Str) : List Str := (memL S n os).filter fun c => decide (a ≤ ageS S c)
noncomputable def waitL (S : Mo) (n : Str) (a : Int) (os : List Str) : List Str := (memL S n os).filter fun c => !decide (a ≤ ageS S c) && !has S.ds c
noncomputable def outL (S : Mo) (n : Str) : List Str := (kidsOf S n).filter fun c => has S.ds c
section
variable {S : Mo} {n c : Str} {a : Int} {os : List Str}
theorem kidsOf_len (W : Wf S.bs S.ds) (n : Str) : (kidsOf S n).length ≤ S.bs.length := by
  unfold kidsOf kidL
  rw [List.length_map, List.length_range]
  exact W.few n
theorem kidsOf_has (W : Wf S.bs S.ds) (h : c ∈ kidsOf S n) : has S.bs c = true := by
  unfold kidsOf kidL at h
  obtain ⟨i, hi, rfl⟩ := List.mem_map.mp h
  have hi := List.mem_range.mp hi
  exact (W.cnt n i (by have := W.few n; have := W.lim; omega)).mpr hi
theorem memL_sub (h : c ∈ memL S n os) : c ∈ kidsOf S n := (List.mem_filter.mp h).1
theorem memL_len (W : Wf S.bs S.ds) : (memL S n os).length ≤ S.bs.length := Nat.le_trans (List.length_filter_le _ _) (kidsOf_len W n)
theorem waitL_sub (h : c ∈ waitL S n a os) : c ∈ kidsOf S n := memL_sub (List.mem_filter.mp h).1
theorem kidsOf_none (W : Wf S.bs S.ds) (h : has S.bs n = false) : kidsOf S n = [] := by
  unfold kidsOf
  rw [W.nk_none h]
  rfl
theorem born_yr {y : Int} (h : yr S.bs c = some y) : bornS S c = y := by unfold bornS; rw [h]; rfl
theorem age_yr {y : Int} (h : yr S.bs c = some y) : (yr S.ds c).getD S.y - y = ageS S c := by unfold ageS; rw [born_yr h]
theorem al_known (h : has S.bs c = true) : al S.bs S.ds c = !has S.ds c := by unfold al; rw [h]; rfl
theorem stAge_hangs {y : Int} (h : yr S.bs c = some y) : decide (V.str (stAge S c y a) = V.str "hangs") = (!decide (a ≤ ageS S c) && !has S.ds c) := by
  unfold stAge
  rw [show ageOf S c y = ageS S c from age_yr h]
  by_cases h1 : a ≤ ageS S c
  · rw [if_pos h1, decide_eq_true h1]
    exact decide_eq_false (fun e => absurd (by injection e : ("met" : Str) = "hangs") (by decide +kernel))
  · rw [if_neg h1, decide_eq_false h1]
    cases h2 : has S.ds c with
    | true => exact decide_eq_false (fun e => absurd (by injection e : ("failed" : Str) = "hangs") (by decide +kernel))
    | false => exact decide_eq_true rfl
theorem young_eq : ((memL S n os).filter fun c => !has S.ds c).filter (fun c => decide (ageS S c < a)) = waitL S n a os := by
  unfold waitL
  rw [List.filter_filter]
  congr 1
  funext c
  congr 1
  by_cases h : a ≤ ageS S c
  · rw [decide_eq_true h, decide_eq_false (by omega)]; rfl
  · rw [decide_eq_false h, decide_eq_true (by omega)]; rfl
theorem out_eq (W : Wf S.bs S.ds) : ((kidsOf S n).filter fun c => !al S.bs S.ds c) = outL S n := by
  unfold outL
  refine List.filter_congr fun c hc => ?_
  rw [al_known (kidsOf_has W hc), Bool.not_not]
end
end L2

set_option Elab.async false
set_option linter.all false
set_option maxRecDepth 100000
namespace L2
open PySem PySem.Spec
theorem fig1 : ∀ c ∈ List.range 9, (⟨#[49 + c]⟩ : Str) = (toString ((c : Int) + 1) : Str) := by decide +kernel
theorem fig2 : ∀ c ∈ List.range 9, ∀ d ∈ List.range 10, (⟨#[49 + c, 48 + d]⟩ : Str) = (toString (((10 * (c + 1) + d - 1 : Nat) : Int) + 1) : Str) := by decide +kernel
theorem gn_is {p : Str} (h : gn p = true) : ∃ i : Nat, i < 99 ∧ p = (toString ((i : Int) + 1) : Str) := by
  unfold gn at h
  simp only [Bool.and_eq_true, decide_eq_true_eq] at h
  obtain ⟨⟨⟨h1, h2⟩, h3⟩, h4⟩ := h
  have hl : p.cps.toList.length = p.length := Array.length_toList
  have ep : p = ⟨p.cps.toList.toArray⟩ := str_ext (by simp)
  rcases hc : p.cps.toList with _ | ⟨c, _ | ⟨d, _ | ⟨e, r⟩⟩⟩
  · rw [hc] at hl; simp at hl; omega
  · rw [hc] at h3 h4 ep
    simp [inR] at h3 h4
    obtain ⟨k, hk, rfl⟩ : ∃ k, k < 9 ∧ c = 49 + k := ⟨c - 49, by omega, by omega⟩
    exact ⟨k, by omega, ep.trans (fig1 k (List.mem_range.mpr hk))⟩
  · rw [hc] at h3 h4 ep
    simp [inR] at h3 h4
    obtain ⟨k, hk, rfl⟩ : ∃ k, k < 9 ∧ c = 49 + k := ⟨c - 49, by omega, by omega⟩
    obtain ⟨j, hj, rfl⟩ : ∃ j, j < 10 ∧ d = 48 + j := ⟨d - 48, by omega, by omega⟩
    exact ⟨10 * (k + 1) + j - 1, by omega, ep.trans (fig2 k (List.mem_range.mpr hk) j (List.mem_range.mpr hj))⟩
  · rw [hc] at hl; simp at hl; omega
theorem kid_more (n : Str) (i : Nat) : n.length < (kid n i).length := by
  have e : (kid n i).length = n.length + 1 + (toString ((i : Int) + 1) : Str).length := by
    unfold kid
    rw [slen_app, slen_app]
    rfl
  omega
theorem pok_cases {x : Str} (h : pok x = true) : gw x = true ∨ ∃ (n : Str) (i : Nat), i < 99 ∧ x = kid n i ∧ pok n = true ∧ dots n < 5 := by
  have h' := h
  unfold pok at h
  simp only [Bool.and_eq_true, decide_eq_true_eq] at h
  obtain ⟨⟨hw, h5⟩, hg⟩ := h
  rcases List.eq_nil_or_concat (nms x) with e | ⟨m, p, e⟩
  · left
    have : pcs x = [wd x] := by rw [pcs_eq, e]
    have e2 : Str.join dot [wd x] = x := by rw [← this]; exact pcs_join x
    have : wd x = x := e2
    rw [← this]; exact hw
  · right
    rw [List.concat_eq_append] at e
    obtain ⟨i, hi, hp⟩ := gn_is (List.all_eq_true.mp hg p (by rw [e]; simp))
    have hpc : pcs x = (wd x :: m) ++ [p] := by rw [pcs_eq, e]; rfl
    have fr : ∀ q ∈ wd x :: m, 46 ∉ q.cps.toList := fun q hq => pcs_free (x := x) (by rw [hpc]; exact List.mem_append_left _ hq)
    have pn : pcs (Str.join dot (wd x :: m)) = wd x :: m := join_inj _ _ (pcs_ne _) (by simp) (fun q hq => pcs_free hq) fr (by rw [pcs_join])
    have wn : wd (Str.join dot (wd x :: m)) = wd x := by show (pcs (Str.join dot (wd x :: m))).headD "" = wd x; rw [pn]; rfl
    have nn : nms (Str.join dot (wd x :: m)) = m := by unfold nms; rw [pn]; rfl
    have ml : m.length < 5 := by rw [e, List.length_append, List.length_singleton] at h5; omega
    refine ⟨Str.join dot (wd x :: m), i, hi, ?_, ?_, by rw [dots_eq, nn]; exact ml⟩
    · have e3 : pcs (kid (Str.join dot (wd x :: m)) i) = pcs x := by rw [pcs_kid, pn, hpc, hp]
      exact (pcs_join x).symm.trans ((congrArg (Str.join dot) e3.symm).trans (pcs_join _))
    · unfold pok
      rw [wn, nn, hw]
      simp only [Bool.true_and, Bool.and_eq_true, decide_eq_true_eq]
      exact ⟨by omega, List.all_eq_true.mpr fun q hq => List.all_eq_true.mp hg q (by rw [e]; exact List.mem_append_left _ hq)⟩
theorem wd_has {bs ds : List (Str × Int)} (W : Wf bs ds) : ∀ (k : Nat) (x : Str), x.length ≤ k → pok x = true → nr bs x ≠ Str.empty → gw (wd x) = true ∧ has bs (wd x) = true := by
  intro k
  induction k with
  | zero => intro x hx hp _; exact absurd (Nat.le_zero.mp hx) (pok_pos hp)
  | succ k ih =>
    intro x hx hp hn
    rcases pok_cases hp with hg | ⟨n, i, hi, rfl, pn, dn⟩
    · rw [wd_gw hg]
      refine ⟨hg, ?_⟩
      cases e : has bs x with
      | true => rfl
      | false => exact absurd (nr_gw hg e) hn
    · rw [wd_kid]
      refine ih n (by have := kid_more n i; omega) pn ?_
      rw [nr_kid] at hn
      cases e : has bs (kid n i) with
      | true =>
        have z := W.par n i e
        rw [nr_has (pok_pos pn) z]
        exact fun e => pok_pos pn (by rw [e]; rfl)
      | false => rw [e] at hn; exact hn
theorem okN_wd {S : Mo} (W : Wf S.bs S.ds) {x : Str} (h : okN S x) : okN S (wd x) := by
  obtain ⟨a, b⟩ := wd_has W x.length x (Nat.le_refl _) h.1 h.2
  refine ⟨pok_gw a, ?_⟩
  rw [nr_has (pok_pos (pok_gw a)) b]
  exact fun e => pok_pos (pok_gw a) (by rw [e]; rfl)
end L2
namespace L2
open PySem PySem.Spec
end L2

set_option Elab.async false
set_option linter.all false
set_option maxRecDepth 100000
namespace L2
open PySem PySem.Spec
structure Cl where
  n : Str
  a : Int
  os : List Str
  day : Int
noncomputable def Cl.ok (S : Mo) (c : Cl) : Prop := okN S c.n ∧ 0 ≤ c.a ∧ c.a ≤ 120 ∧ (∀ s ∈ c.os, PyData.strOk s = true) ∧ c.os.length ≤ 98
structure MadeAt (tl : Cl → List V) (H : Hp) (lm : Addr) (cs : List Cl) (qs : List (Addr × Addr)) : Prop where
  lst : H lm = some (.lst (qs.map fun q => V.ref q.1))
  len : qs.length = cs.length
  at_ : ∀ (i : Nat) q c, qs[i]? = some q → cs[i]? = some c → H q.1 = some (.tup ([.str c.n, .int c.a, .ref q.2] ++ tl c)) ∧ H q.2 = some (.lst (c.os.map V.str))
  ne : ∀ q ∈ qs, q.2 ≠ lm
noncomputable def rgn (lm : Addr) (qs : List (Addr × Addr)) : List Addr := lm :: qs.map (·.1) ++ qs.map (·.2)
section
variable {tl : Cl → List V} {H H' : Hp} {lm : Addr} {cs : List Cl} {qs : List (Addr × Addr)} {X : List Addr}
theorem MadeAt.mv (D : MadeAt tl H lm cs qs) (h : ∀ a ∈ rgn lm qs, ∀ o, H a = some o → H' a = some o) : MadeAt tl H' lm cs qs :=
  ⟨h _ (by simp [rgn]) _ D.lst, D.len, fun i q c e1 e2 => by
    obtain ⟨a, b⟩ := D.at_ i q c e1 e2
    have hq := List.mem_of_getElem? e1
    exact ⟨h _ (by unfold rgn; simp only [List.cons_append, List.mem_cons, List.mem_append]; exact .inr (.inl (List.mem_map.mpr ⟨q, hq, rfl⟩))) _ a, h _ (by unfold rgn; simp only [List.cons_append, List.mem_cons, List.mem_append]; exact .inr (.inr (List.mem_map.mpr ⟨q, hq, rfl⟩))) _ b⟩, D.ne⟩
theorem MadeAt.same (D : MadeAt tl H lm cs qs) (s : Same H H') : MadeAt tl H' lm cs qs := D.mv fun a _ o e => s a o e
theorem MadeAt.keep (D : MadeAt tl H lm cs qs) (k : Keep X H H') (d : Dj (rgn lm qs) X) : MadeAt tl H' lm cs qs := D.mv fun a ha o e => k.1 a o (d a ha) e
theorem MadeAt.get (D : MadeAt tl H lm cs qs) {i : Nat} {v : V} (h : (qs.map fun q => V.ref q.1)[i]? = some v) : ∃ q c, v = .ref q.1 ∧ qs[i]? = some q ∧ cs[i]? = some c ∧ H q.1 = some (.tup ([.str c.n, .int c.a, .ref q.2] ++ tl c)) ∧ H q.2 = some (.lst (c.os.map V.str)) := by
  rw [List.getElem?_map] at h
  cases e : qs[i]? with
  | none => rw [e] at h; cases h
  | some q =>
    rw [e] at h
    cases h
    have hi : i < cs.length := by rw [← D.len]; exact (List.getElem?_eq_some_iff.mp e).1
    obtain ⟨a, b⟩ := D.at_ i q _ e (List.getElem?_eq_getElem hi)
    exact ⟨q, _, rfl, rfl, List.getElem?_eq_getElem hi, a, b⟩
theorem MadeAt.live (D : MadeAt tl H lm cs qs) : Live H (rgn lm qs) := by
  intro a ha
  unfold rgn at ha
  simp only [List.cons_append, List.mem_cons, List.mem_append] at ha
  rcases ha with rfl | ha | ha
  · exact ⟨_, D.lst⟩
  · obtain ⟨q, hq, rfl⟩ := List.mem_map.mp ha
    obtain ⟨i, hi⟩ := List.mem_iff_getElem?.mp hq
    have hj : i < cs.length := by rw [← D.len]; exact (List.getElem?_eq_some_iff.mp hi).1
    exact ⟨_, (D.at_ i q _ hi (List.getElem?_eq_getElem hj)).1⟩
  · obtain ⟨q, hq, rfl⟩ := List.mem_map.mp ha
    obtain ⟨i, hi⟩ := List.mem_iff_getElem?.mp hq
    have hj : i < cs.length := by rw [← D.len]; exact (List.getElem?_eq_some_iff.mp hi).1
    exact ⟨_, (D.at_ i q _ hi (List.getElem?_eq_getElem hj)).2⟩
theorem MadeAt.app {p o : Addr} {c : Cl} (D : MadeAt tl H lm cs qs) (ho : H o = none) (hp : H p = none) (s : Same H H') (h1 : H' o = some (.lst (c.os.map V.str))) (h2 : H' p = some (.tup ([.str c.n, .int c.a, .ref o] ++ tl c))) :
    MadeAt tl (upd H' lm (.lst ((qs.map fun q => V.ref q.1) ++ [.ref p]))) lm (cs ++ [c]) (qs ++ [(p, o)]) ∧ Keep (rgn lm qs) H (upd H' lm (.lst ((qs.map fun q => V.ref q.1) ++ [.ref p]))) ∧ Grow H (rgn lm qs) (rgn lm (qs ++ [(p, o)])) := by
  have nlo : o ≠ lm := fun e => by rw [e, D.lst] at ho; cases ho
  have nlp : p ≠ lm := fun e => by rw [e, D.lst] at hp; cases hp
  have D' := D.same s
  refine ⟨⟨by rw [upd_same, List.map_append]; rfl, by rw [List.length_append, List.length_append, D.len]; rfl, fun i q c' e1 e2 => ?_, fun q hq => ?_⟩, ?_, ?_⟩
  · by_cases hi : i < qs.length
    · rw [List.getElem?_append_left hi] at e1
      rw [List.getElem?_append_left (by rw [← D.len]; exact hi)] at e2
      obtain ⟨a, b⟩ := D'.at_ i q c' e1 e2
      have n1 : q.1 ≠ lm := ne_kind a D'.lst (fun z => by cases z)
      exact ⟨by rw [upd_ne n1]; exact a, by rw [upd_ne (D.ne q (List.mem_of_getElem? e1))]; exact b⟩
    · have h1' := (List.getElem?_eq_some_iff.mp e1).1
      rw [List.length_append, List.length_singleton] at h1'
      obtain rfl : i = qs.length := by omega
      rw [List.getElem?_append_right (Nat.le_refl _), Nat.sub_self] at e1
      rw [D.len, List.getElem?_append_right (Nat.le_refl _), Nat.sub_self] at e2
      cases e1; cases e2
      exact ⟨by rw [upd_ne nlp]; exact h2, by rw [upd_ne nlo]; exact h1⟩
  · rcases List.mem_append.mp hq with hq | hq
    · exact D.ne q hq
    · rw [List.mem_singleton.mp hq]; exact nlo
  · exact (s.kp.wide (fun _ h => nomatch h)).tr (keep_upd (a := lm)) (fun x hx => .inl (by rw [List.mem_singleton.mp hx]; simp [rgn]))
  · intro x hx
    unfold rgn at hx ⊢
    simp only [List.map_append, List.map_cons, List.map_nil, List.cons_append, List.mem_cons, List.mem_append, List.not_mem_nil, or_false] at hx ⊢
    rcases hx with rfl | (hx | rfl) | (hx | rfl)
    · exact .inl (.inl rfl)
    · exact .inl (.inr (.inl hx))
    · exact .inr hp
    · exact .inl (.inr (.inr hx))
    · exact .inr ho
end
theorem nr_grow {bs ds : List (Str × Int)} (W : Wf bs ds) {bs' : List (Str × Int)} (h : ∀ x, has bs x = true → has bs' x = true) : ∀ (k : Nat) (x : Str), x.length ≤ k → nr bs x ≠ Str.empty → nr bs' x ≠ Str.empty := by
  intro k
  induction k with
  | zero => intro x hx hn; exact absurd (by rw [len0 (Nat.le_zero.mp hx)]; exact nr_nil bs) hn
  | succ k ih =>
    intro x hx hn
    by_cases h0 : x.length = 0
    · exact absurd (by rw [len0 h0]; exact nr_nil bs) hn
    · cases e' : has bs' x with
      | true => rw [nr_has h0 e']; exact fun e => h0 (by rw [e]; rfl)
      | false =>
        rw [nr_up h0 e']
        have e : has bs x = false := by
          cases z : has bs x with
          | false => rfl
          | true => rw [h x z] at e'; cases e'
        rw [nr_up h0 e] at hn
        exact ih (up x) (by have := up_len h0; omega) hn
theorem Mo.step_bs (S : Mo) (d : Deed) (x : Str) (h : has S.bs x = true) : has (S.step d).bs x = true := by
  cases d with
  | arrive w a => show has (S.bs ++ _) x = true; rw [has_app, h]; rfl
  | birth n => show has (S.bs ++ _) x = true; rw [has_app, h]; rfl
  | death n => exact h
  | comes w => exact h
  | years k => exact h
theorem okN.step {S : Mo} (W : Wf S.bs S.ds) {x : Str} (d : Deed) (h : okN S x) : okN (S.step d) x := ⟨h.1, nr_grow W (S.step_bs d) x.length x (Nat.le_refl _) h.2⟩
noncomputable def MadeX (tl : Cl → List V) (H : Hp) (lm : Addr) (S : Mo) (i : Nat) (cs : List Cl) (RX : List Addr) : Prop := ∃ qs, MadeAt tl H lm cs qs ∧ RX = rgn lm qs ∧ (∀ c ∈ cs, c.ok S) ∧ cs.length ≤ i
section
variable {tl : Cl → List V} {H H' : Hp} {lm : Addr} {S : Mo} {i : Nat} {cs : List Cl} {RX X : List Addr}
theorem MadeX.live (E : MadeX tl H lm S i cs RX) : Live H RX := by obtain ⟨qs, M, rfl, _⟩ := E; exact M.live
theorem MadeX.same (E : MadeX tl H lm S i cs RX) (s : Same H H') : MadeX tl H' lm S i cs RX := by obtain ⟨qs, M, e, a⟩ := E; exact ⟨qs, M.same s, e, a⟩
theorem MadeX.keep (E : MadeX tl H lm S i cs RX) (k : Keep X H H') (d : Dj RX X) : MadeX tl H' lm S i cs RX := by obtain ⟨qs, M, rfl, a⟩ := E; exact ⟨qs, M.keep k d, rfl, a⟩
theorem MadeX.step {far : Int} {d : Deed} {j : Nat} (E : MadeX tl H lm S i cs RX) (_ : S.good far d) (O : S.Ok j) : MadeX tl H lm (S.step d) i cs RX := by
  obtain ⟨qs, M, e, a, b⟩ := E
  exact ⟨qs, M, e, fun c hc => ⟨okN.step O.wf d (a c hc).1, (a c hc).2⟩, b⟩
theorem MadeX.zero (S : Mo) (h : H lm = some (.lst [])) : MadeX tl H lm S 0 [] [lm] := ⟨[], ⟨h, rfl, (fun i q c e => by cases e), (fun _ h => nomatch h)⟩, rfl, (fun _ h => nomatch h), Nat.le_refl _⟩
theorem MadeX.more {p o : Addr} {c : Cl} (E : MadeX tl H lm S i cs RX) (ho : H o = none) (hp : H p = none) (s : Same H H') (h1 : H' o = some (.lst (c.os.map V.str))) (h2 : H' p = some (.tup ([.str c.n, .int c.a, .ref o] ++ tl c))) (ok : c.ok S) :
    ∃ vs RX', H' lm = some (.lst vs) ∧ vs.length ≤ i ∧ MadeX tl (upd H' lm (.lst (vs ++ [.ref p]))) lm S (i + 1) (cs ++ [c]) RX' ∧ Keep RX H (upd H' lm (.lst (vs ++ [.ref p]))) ∧ Grow H RX RX' := by
  obtain ⟨qs, M, rfl, a, b⟩ := E
  obtain ⟨x, y, z⟩ := M.app ho hp s h1 h2
  exact ⟨_, _, s _ _ M.lst, by rw [List.length_map, M.len]; exact b, ⟨_, x, rfl, (fun c' hc => by
    rcases List.mem_append.mp hc with hc | hc
    · exact a c' hc
    · rw [List.mem_singleton.mp hc]; exact ok), by rw [List.length_append, List.length_singleton]; omega⟩, y, z⟩
theorem MadeX.mono {j : Nat} (E : MadeX tl H lm S i cs RX) (h : i ≤ j) : MadeX tl H lm S j cs RX := by obtain ⟨qs, M, e, a, b⟩ := E; exact ⟨qs, M, e, a, by omega⟩
end
end L2

set_option Elab.async false
set_option linter.all false
set_option maxRecDepth 100000
namespace L2
open PySem PySem.Spec PyProof.Rows
section
variable {X : Cx}
noncomputable def rMax1 (K : PySem.W.Frag) : List V → Hp → VK → Prop := fun xs H Q => ∃ (p : Addr) (ns : List Int), xs = [.ref p] ∧ SqL K H p (ns.map V.int) ∧ ns ≠ [] ∧ ∀ M, M ∈ ns → (∀ a ∈ ns, a ≤ M) → Q (.int M) H
noncomputable def rMin1 (K : PySem.W.Frag) : List V → Hp → VK → Prop := fun xs H Q => ∃ (p : Addr) (ns : List Int), xs = [.ref p] ∧ SqL K H p (ns.map V.int) ∧ ns ≠ [] ∧ ∀ M, M ∈ ns → (∀ a ∈ ns, M ≤ a) → Q (.int M) H
theorem call_max1 (hc : X.calm = true) : CallR X (.builtin "max") (rMax1 X.K) := by
  intro pins s σ H xs us Q I r h
  obtain ⟨p, ns, rfl, hl, hne, q⟩ := h
  obtain ⟨u, rfl, e⟩ := vals1 r
  cases e
  obtain ⟨its, r', pl, _⟩ := I.list hl
  have hi := intsAre_of r'
  obtain ⟨ys, e⟩ := hi.allInts.items
  have hns : ns = ys.toList.map (·.1) := by rw [← hi.numsOf, ← nums_intItems, ← e]
  have hsz : 0 < ys.size := by
    have h3 : 0 < ns.length := List.length_pos_iff.mpr hne
    rw [hns, List.length_map, Array.length_toList] at h3; exact h3
  have hL := pl.isList
  rw [e] at hL
  refine max_intList (I.ok.hd hc) hL hsz fun v h' tk hv hk => ?_
  obtain ⟨t, rfl⟩ := intItems_at hv
  obtain ⟨h1, h2⟩ := argBest_gt (numAt ys) (ys.size - 1)
  refine ⟨.int _, H, I.kept hk, ⟨_, rfl⟩, q _ ?_ fun a ha => ?_⟩
  · rw [hns, numAt_eq]; exact getD_mem (by rw [List.length_map, Array.length_toList]; omega)
  · rw [hns] at ha
    obtain ⟨j, hj, rfl⟩ := mem_getD ha
    rw [List.length_map, Array.length_toList] at hj
    rw [← numAt_eq]; exact h2 j (by omega)
theorem call_min1 (hc : X.calm = true) : CallR X (.builtin "min") (rMin1 X.K) := by
  intro pins s σ H xs us Q I r h
  obtain ⟨p, ns, rfl, hl, hne, q⟩ := h
  obtain ⟨u, rfl, e⟩ := vals1 r
  cases e
  obtain ⟨its, r', pl, _⟩ := I.list hl
  have hi := intsAre_of r'
  obtain ⟨ys, e⟩ := hi.allInts.items
  have hns : ns = ys.toList.map (·.1) := by rw [← hi.numsOf, ← nums_intItems, ← e]
  have hsz : 0 < ys.size := by
    have h3 : 0 < ns.length := List.length_pos_iff.mpr hne
    rw [hns, List.length_map, Array.length_toList] at h3; exact h3
  have hL := pl.isList
  rw [e] at hL
  refine min_intList (I.ok.hd hc) hL hsz fun v h' tk hv hk => ?_
  obtain ⟨t, rfl⟩ := intItems_at hv
  obtain ⟨h1, h2⟩ := argBest_lt (numAt ys) (ys.size - 1)
  refine ⟨.int _, H, I.kept hk, ⟨_, rfl⟩, q _ ?_ fun a ha => ?_⟩
  · rw [hns, numAt_eq]; exact getD_mem (by rw [List.length_map, Array.length_toList]; omega)
  · rw [hns] at ha
    obtain ⟨j, hj, rfl⟩ := mem_getD ha
    rw [List.length_map, Array.length_toList] at hj
    rw [← numAt_eq]; exact h2 j (by omega)
end
theorem max_uniq {ns : List Int} {M N : Int} (h1 : M ∈ ns) (h2 : ∀ a ∈ ns, a ≤ M) (h3 : N ∈ ns) (h4 : ∀ a ∈ ns, a ≤ N) : M = N := by
  have := h2 N h3
  have := h4 M h1
  omega
theorem min_uniq {ns : List Int} {M N : Int} (h1 : M ∈ ns) (h2 : ∀ a ∈ ns, M ≤ a) (h3 : N ∈ ns) (h4 : ∀ a ∈ ns, N ≤ a) : M = N := by
  have := h2 N h3
  have := h4 M h1
  omega
end L2

set_option Elab.async false
set_option linter.all false
set_option maxRecDepth 100000
namespace L2
open PySem PySem.Spec PyProof.Rows
section
variable {X : Cx}
end
end L2

set_option Elab.async false
set_option linter.all false
set_option maxRecDepth 100000
namespace L2
open PySem PySem.Spec
structure TupsAt (H : Hp) (l : Addr) (vss : List (List V)) (ps : List Addr) : Prop where
  lst : H l = some (.lst (ps.map V.ref))
  len : ps.length = vss.length
  at_ : ∀ (i : Nat) (p : Addr) (vs : List V), ps[i]? = some p → vss[i]? = some vs → H p = some (.tup vs)
section
variable {H H' : Hp} {l : Addr} {vss : List (List V)} {ps : List Addr}
theorem TupsAt.same (D : TupsAt H l vss ps) (s : Same H H') : TupsAt H' l vss ps := ⟨s _ _ D.lst, D.len, fun i p vs a b => s _ _ (D.at_ i p vs a b)⟩
theorem TupsAt.get (D : TupsAt H l vss ps) {i : Nat} {v : V} (h : (ps.map V.ref)[i]? = some v) : ∃ p vs, v = .ref p ∧ vss[i]? = some vs ∧ H p = some (.tup vs) := by
  rw [List.getElem?_map] at h
  cases e : ps[i]? with
  | none => rw [e] at h; cases h
  | some p =>
    rw [e] at h
    cases h
    have hi : i < vss.length := by rw [← D.len]; exact (List.getElem?_eq_some_iff.mp e).1
    exact ⟨p, _, rfl, List.getElem?_eq_getElem hi, D.at_ i p _ e (List.getElem?_eq_getElem hi)⟩
end
section
variable {K : PySem.W.Frag} {caps : List (Str × Nat)} {tl te : TE} {tt : TT} {σ : St} {H : Hp} {Q : VK}
end
noncomputable def sy (S : Mo) (t : Atm) : Int := match t.since S with | .int y => y | _ => 0
section
variable {S : Mo} {t : Atm} {n : Str}
end
noncomputable def ysL (S : Mo) (ts : List Atm) (how : Str) : List Int := (ts.filter fun t => decide (t.stand S = how)).map (sy S)
noncomputable def Sinc (S : Mo) (ts : List Atm) (day M : Int) : Prop :=
  (foldS (ts.map (Atm.stand S)) = "failed" ∧ ∃ m ∈ ysL S ts "failed", (∀ a ∈ ysL S ts "failed", m ≤ a) ∧ M = if m < day then day else m) ∨
  (foldS (ts.map (Atm.stand S)) = "met" ∧ M ∈ day :: ysL S ts "met" ∧ ∀ a ∈ day :: ysL S ts "met", a ≤ M)
theorem Sinc.uniq {S : Mo} {ts : List Atm} {day M N : Int} (h : Sinc S ts day M) (h' : Sinc S ts day N) : M = N := by
  rcases h with ⟨e, m, hm, hl, rfl⟩ | ⟨e, hm, hl⟩
  · rcases h' with ⟨_, m', hm', hl', rfl⟩ | ⟨e', _⟩
    · rw [min_uniq hm hl hm' hl']
    · rw [e] at e'; exact absurd e' (by decide +kernel)
  · rcases h' with ⟨e', _⟩ | ⟨_, hm', hl'⟩
    · rw [e] at e'; exact absurd e' (by decide +kernel)
    · exact max_uniq hm hl hm' hl'
end L2
namespace L2
open PySem PySem.Spec
end L2
namespace L2
open PySem PySem.Spec
end L2
namespace L2
open PySem PySem.Spec
section
variable {S : Mo} {t : Atm} {n : Str}
end
end L2
namespace L2
open PySem PySem.Spec
end L2
namespace L2
open PySem PySem.Spec
theorem str_dec (a b : Str) : decide (V.str a = V.str b) = decide (a = b) := by
  by_cases c : a = b
  · rw [decide_eq_true c, decide_eq_true (by rw [c])]
  · rw [decide_eq_false c, decide_eq_false (fun z => c (by injection z))]
theorem fl_map {α : Type} {β : Type} (ts : List α) (f : α → Bool) (g : α → β) (d : Bool) (e : β) : ∀ n, n ≤ ts.length → ((fl (fun i => (ts[i]?.map f).getD d) n).map fun i => (ts[i]?.map g).getD e) = ((ts.take n).filter f).map g := by
  intro n
  induction n with
  | zero => intro _; simp [fl]
  | succ n ih =>
    intro hn
    have hlt : n < ts.length := hn
    rw [fl_succ, List.map_append, ih (by omega), List.take_succ, List.getElem?_eq_getElem hlt, List.filter_append, List.map_append]
    congr 1
    show (if f ts[n] = true then [n] else []).map _ = ([ts[n]].filter f).map g
    cases h : f ts[n] with
    | true => rw [List.filter_cons_of_pos h, if_pos rfl, List.map_cons, List.getElem?_eq_getElem hlt]; rfl
    | false => rw [List.filter_cons_of_neg (by rw [h]; decide), if_neg (by decide)]; rfl
end L2

set_option Elab.async false
set_option linter.all false
set_option maxRecDepth 100000
namespace L2
open PySem PySem.Spec
noncomputable def hasSeat (S : Mo) (n : Str) (a : Int) (os : List Str) : Bool := (memL S n os).any fun c => decide (a ≤ ageS S c)
noncomputable def clS (S : Mo) (n : Str) (a : Int) (os : List Str) : Str := if (al S.bs S.ds (nr S.bs n) || !(waitL S n a os).isEmpty) = true then "hangs" else if hasSeat S n a os = true then "met" else "failed"
noncomputable def cyL (S : Mo) (n : Str) (a : Int) (os : List Str) (day : Int) : List Int := day :: (yr S.ds (nr S.bs n)).getD 0 :: (memL S n os).map fun c => sy S (.age c a)
noncomputable def Csin (S : Mo) (n : Str) (a : Int) (os : List Str) (day M : Int) : Prop := clS S n a os ≠ "hangs" ∧ M ∈ cyL S n a os day ∧ ∀ x ∈ cyL S n a os day, x ≤ M
theorem Csin.uniq {S : Mo} {n : Str} {a : Int} {os : List Str} {day M N : Int} (h : Csin S n a os day M) (h' : Csin S n a os day N) : M = N := max_uniq h.2.1 h.2.2 h'.2.1 h'.2.2
section
variable {S : Mo} {n c : Str} {a : Int} {os : List Str}
theorem seat_ne : hasSeat S n a os = decide ((0 : Int) < ((seatL S n a os).length : Nat)) := by
  unfold hasSeat seatL
  cases h : (memL S n os).any fun c => decide (a ≤ ageS S c) with
  | true =>
    obtain ⟨c, hc, e⟩ := List.any_eq_true.mp h
    refine (decide_eq_true ?_).symm
    have hm : c ∈ (memL S n os).filter fun c => decide (a ≤ ageS S c) := List.mem_filter.mpr ⟨hc, e⟩
    have := List.length_pos_of_mem hm
    omega
  | false =>
    refine (decide_eq_false fun z => ?_).symm
    have : ((memL S n os).filter fun c => decide (a ≤ ageS S c)) = [] := by
      rw [List.filter_eq_nil_iff]
      intro c hc e
      have := List.any_eq_false.mp h c hc
      exact this e
    rw [this] at z
    exact absurd z (by decide)
theorem mem_okN (W : Wf S.bs S.ds) (hk : has S.bs c = true) : okN S c := by
  have hp := W.wrt c hk
  refine ⟨hp, ?_⟩
  rw [nr_has (pok_pos hp) hk]
  exact fun e => pok_pos hp (by rw [e]; rfl)
theorem cl_law (h : okN S n) : (!has S.ds (nr S.bs n) || decide ((0 : Int) < ((waitL S n a os).length : Nat))) = (al S.bs S.ds (nr S.bs n) || !(waitL S n a os).isEmpty) := by
  have nk : has S.bs (nr S.bs n) = true := by
    rcases nr_or S.bs n with e | e
    · exact absurd e h.2
    · exact e
  rw [al_known nk]
  congr 1
  cases e : waitL S n a os with
  | nil => rfl
  | cons x r => exact decide_eq_true (by rw [List.length_cons]; omega)
end
end L2
namespace L2
open PySem PySem.Spec
section
variable {K : PySem.W.Frag} {caps : List (Str × Nat)} {tl te : TE} {tt : TT} {σ : St} {H : Hp} {Q : VK} {d : Addr} {bs : List (Str × Int)}
end
end L2
namespace L2
open PySem PySem.Spec
theorem int_dec (a b : Int) : decide (V.int a = V.int b) = decide (a = b) := by
  by_cases c : a = b
  · rw [decide_eq_true c, decide_eq_true (by rw [c])]
  · rw [decide_eq_false c, decide_eq_false (fun z => c (by injection z))]
end L2
namespace L2
open PySem PySem.Spec
theorem nod_len {α : Type} [DecidableEq α] : ∀ {l m : List α}, l.Nodup → (∀ x ∈ l, x ∈ m) → l.length ≤ m.length
  | [], _, _, _ => Nat.zero_le _
  | a :: l, m, h, s => by
    have ha : a ∈ m := s a (by simp)
    have hn := List.nodup_cons.mp h
    have ih := nod_len (l := l) (m := m.erase a) hn.2 (fun x hx => (List.mem_erase_of_ne (show x ≠ a from fun e => hn.1 (by rw [← e]; exact hx))).mpr (s x (List.mem_cons_of_mem _ hx)))
    rw [List.length_erase_of_mem ha] at ih
    have : 0 < m.length := List.length_pos_of_mem ha
    rw [List.length_cons]
    omega
theorem ds_len {S : Mo} (W : Wf S.bs S.ds) (h : (S.ds.map (·.1)).Nodup) : S.ds.length ≤ S.bs.length := by
  have := nod_len (l := S.ds.map (·.1)) (m := S.bs.map (·.1)) h (fun x hx => (has_iff _ _).mp (W.sub x ((has_iff _ _).mpr hx)))
  rw [List.length_map, List.length_map] at this
  exact this
theorem ds_nod {S : Mo} {far : Int} {d : Deed} (h : (S.ds.map (·.1)).Nodup) (hg : S.good far d) : ((S.step d).ds.map (·.1)).Nodup := by
  cases d with
  | death n => exact nod_app h hg.2
  | arrive w a => exact h
  | birth n => exact h
  | comes w => exact h
  | years k => exact h
noncomputable def MadeD (tl : Cl → List V) (H : Hp) (lm : Addr) (S : Mo) (i : Nat) (cs : List Cl) (RX : List Addr) : Prop := MadeX tl H lm S i cs RX ∧ (S.ds.map (·.1)).Nodup
section
variable {tl : Cl → List V} {H H' : Hp} {lm : Addr} {S : Mo} {i : Nat} {cs : List Cl} {RX X : List Addr}
theorem MadeD.live (E : MadeD tl H lm S i cs RX) : Live H RX := E.1.live
theorem MadeD.same (E : MadeD tl H lm S i cs RX) (s : Same H H') : MadeD tl H' lm S i cs RX := ⟨E.1.same s, E.2⟩
theorem MadeD.keep (E : MadeD tl H lm S i cs RX) (k : Keep X H H') (d : Dj RX X) : MadeD tl H' lm S i cs RX := ⟨E.1.keep k d, E.2⟩
theorem MadeD.step {far : Int} {d : Deed} {j : Nat} (E : MadeD tl H lm S i cs RX) (hg : S.good far d) (O : S.Ok j) : MadeD tl H lm (S.step d) i cs RX := ⟨E.1.step hg O, ds_nod E.2 hg⟩
theorem MadeD.mono {j : Nat} (E : MadeD tl H lm S i cs RX) (h : i ≤ j) : MadeD tl H lm S j cs RX := ⟨E.1.mono h, E.2⟩
end
theorem Mo.Ok.died {S : Mo} {k : Nat} {n : Str} {far : Int} (O : S.Ok k) (hk : k < 98) (h : (S.ds.map (·.1)).Nodup) (hg : S.good far (.death n)) : (S.step (.death n)).Ok k := by
  have O' := O.step hg hk
  have hn := ds_nod h hg
  have := ds_len O'.wf hn
  have lb : (S.step (.death n)).bs.length ≤ k := O.lb
  exact ⟨O'.wf, O'.cw, lb, by omega, O.lc⟩
end L2

set_option Elab.async false
set_option linter.all false
set_option maxRecDepth 100000
namespace L2
open PySem PySem.Spec
inductive Ho where
  | one (n : Str)
  | kids (n : Str) (a : Int)
noncomputable def Ho.vals : Ho → List V
  | .one n => [.str "one", .str n]
  | .kids n a => [.str "kids", .str n, .int a]
noncomputable def Ho.ok (S : Mo) : Ho → Prop
  | .one n => okN S n
  | .kids n a => okN S n ∧ 0 ≤ a ∧ a ≤ 120
noncomputable def Ho.isK : Ho → Bool
  | .one _ => false
  | .kids _ _ => true
noncomputable def Ho.out (S : Mo) : Ho → List Str
  | .one _ => []
  | .kids n _ => outL S n
noncomputable def isAg (S : Mo) : Atm → Bool
  | .age n _ => al S.bs S.ds n
  | _ => false
noncomputable def agY (S : Mo) : Atm → Int
  | .age n a => bornS S n + a
  | _ => 0
noncomputable def agL (S : Mo) (ts : List Atm) : List Int := (ts.filter (isAg S)).map (agY S)
noncomputable def CEnd (S : Mo) (n : Str) (a M : Int) : Prop :=
  ((al S.bs S.ds (nr S.bs n) || hasSeat S n a (outL S n)) = true ∨ waitL S n a (outL S n) = [] → M = S.y) ∧
  ((al S.bs S.ds (nr S.bs n) || hasSeat S n a (outL S n)) = false → waitL S n a (outL S n) ≠ [] → ∃ b, b ∈ (waitL S n a (outL S n)).map (bornS S) ∧ (∀ x ∈ (waitL S n a (outL S n)).map (bornS S), b ≤ x) ∧ M = b + a)
noncomputable def HEnd (S : Mo) : Ho → Int → Prop
  | .one _, M => M = S.y
  | .kids n a, M => CEnd S n a M
noncomputable def FEnd (S : Mo) (h : Ho) (ts : List Atm) (M : Int) : Prop := ∃ e, HEnd S h e ∧ M ∈ S.y :: e :: agL S ts ∧ ∀ x ∈ S.y :: e :: agL S ts, x ≤ M
theorem CEnd.uniq {S : Mo} {n : Str} {a M N : Int} (h : CEnd S n a M) (h' : CEnd S n a N) : M = N := by
  by_cases c : (al S.bs S.ds (nr S.bs n) || hasSeat S n a (outL S n)) = true ∨ waitL S n a (outL S n) = []
  · rw [h.1 c, h'.1 c]
  · rw [not_or] at c
    obtain ⟨b, h1, h2, rfl⟩ := h.2 (Bool.eq_false_iff.mpr c.1) c.2
    obtain ⟨b', h1', h2', rfl⟩ := h'.2 (Bool.eq_false_iff.mpr c.1) c.2
    have := h2 b' h1'
    have := h2' b h1
    omega
theorem HEnd.uniq {S : Mo} {h : Ho} {M N : Int} (e : HEnd S h M) (e' : HEnd S h N) : M = N := by
  cases h with
  | one n => have a : M = S.y := e; have b : N = S.y := e'; rw [a, b]
  | kids n a => exact CEnd.uniq e e'
theorem FEnd.uniq {S : Mo} {h : Ho} {ts : List Atm} {M N : Int} (a : FEnd S h ts M) (b : FEnd S h ts N) : M = N := by
  obtain ⟨e, h1, h2, h3⟩ := a
  obtain ⟨e', h1', h2', h3'⟩ := b
  obtain rfl := h1.uniq h1'
  exact max_uniq h2 h3 h2' h3'
theorem ag_of {S : Mo} {ts : List Atm} : (fl (fun i => (ts[i]?.map (isAg S)).getD false) ts.length).map (fun i => V.int ((ts[i]?.map (agY S)).getD 0)) = (agL S ts).map V.int := by
  have e := fl_map ts (isAg S) (agY S) false 0 ts.length (Nat.le_refl _)
  rw [List.take_length] at e
  unfold agL
  rw [← e, List.map_map]
  rfl
theorem agL_len (S : Mo) (ts : List Atm) : (agL S ts).length ≤ ts.length := by unfold agL; rw [List.length_map]; exact List.length_filter_le _ _
section
variable {S : Mo} {ts : List Atm} {t : Atm} {i : Nat} {n : Str} {a : Int}
theorem agL_next (h : ts[i]? = some t) : agL S (ts.take (i + 1)) = agL S (ts.take i) ++ (if isAg S t = true then [agY S t] else []) := by
  unfold agL
  rw [List.take_succ, h, List.filter_append, List.map_append]
  congr 1
  show List.map _ (List.filter _ [t]) = _
  cases e : isAg S t with
  | true => rw [List.filter_cons_of_pos e]; rfl
  | false => rw [List.filter_cons_of_neg (by rw [e]; decide)]; rfl
theorem agL_not (h : ts[i]? = some t) (e : isAg S t = false) : agL S (ts.take (i + 1)) = agL S (ts.take i) := by rw [agL_next h, e]; simp
theorem agL_yes (h : ts[i]? = some t) (e : isAg S t = true) : agL S (ts.take (i + 1)) = agL S (ts.take i) ++ [agY S t] := by rw [agL_next h, e]; rfl
theorem mx_step {L : List Int} {F y : Int} (h : F ∈ L) (hl : ∀ x ∈ L, x ≤ F) : (if y > F then y else F) ∈ L ++ [y] ∧ ∀ x ∈ L ++ [y], x ≤ (if y > F then y else F) := by
  by_cases c : y > F
  · rw [if_pos c]
    refine ⟨by simp, fun x hx => ?_⟩
    rcases List.mem_append.mp hx with z | z
    · have := hl x z; omega
    · rw [List.mem_singleton.mp z]; exact Int.le_refl _
  · rw [if_neg c]
    refine ⟨List.mem_append_left _ h, fun x hx => ?_⟩
    rcases List.mem_append.mp hx with z | z
    · exact hl x z
    · rw [List.mem_singleton.mp z]; omega
theorem cend_alive (W : Wf S.bs S.ds) (on : okN S n) (h : has S.ds n = false) : CEnd S n a S.y := by
  refine ⟨fun _ => rfl, fun h1 h2 => ?_⟩
  rw [Bool.or_eq_false_iff] at h1
  cases hk : has S.bs n with
  | true =>
    have e := nr_has (pok_pos on.1) hk
    rw [e, al_known hk, h] at h1
    cases h1.1
  | false =>
    refine absurd ?_ h2
    unfold waitL memL
    rw [kidsOf_none W hk]
    rfl
theorem near_of_dead (W : Wf S.bs S.ds) (on : okN S n) (h : has S.ds n = true) : al S.bs S.ds (nr S.bs n) = false := by
  have hk := W.sub n h
  rw [nr_has (pok_pos on.1) hk, al_known hk, h]
  rfl
theorem fend_of {h : Ho} {e F : Int} (he : HEnd S h e) (hF : F ∈ S.y :: agL S ts) (hl : ∀ x ∈ S.y :: agL S ts, x ≤ F) : FEnd S h ts (if e > F then e else F) := by
  obtain ⟨a, b⟩ := mx_step (y := e) hF hl
  refine ⟨e, he, ?_, fun x hx => b x ?_⟩
  · rcases List.mem_append.mp a with z | z
    · rcases List.mem_cons.mp z with z | z
      · rw [z]; simp
      · exact List.mem_cons_of_mem _ (List.mem_cons_of_mem _ z)
    · rw [List.mem_singleton.mp z]; simp
  · rcases List.mem_cons.mp hx with rfl | hx
    · simp
    · rcases List.mem_cons.mp hx with rfl | hx
      · simp
      · simp [hx]
theorem fend_y {h : Ho} {F : Int} (he : HEnd S h S.y) (hF : F ∈ S.y :: agL S ts) (hl : ∀ x ∈ S.y :: agL S ts, x ≤ F) : FEnd S h ts F := by
  have z := fend_of he hF hl
  rw [if_neg (by have := hl S.y (by simp); omega)] at z
  exact z
end
end L2

set_option maxHeartbeats 0
namespace L2
open PySem PySem.W
theorem us0 (us : List Value) (h : us.length = 0) : us = [] := List.eq_nil_of_length_eq_zero h
theorem us1 (us : List Value) (h : us.length = 1) : ∃ a0, us = [a0] := by
  cases us with
  | nil => cases h
  | cons a0 us => exact ⟨a0, by rw [us0 us (Nat.succ.inj h)]⟩
theorem us2 (us : List Value) (h : us.length = 2) : ∃ a0 a1, us = [a0, a1] := by
  cases us with
  | nil => cases h
  | cons a0 us =>
    obtain ⟨a1, e⟩ := us1 us (Nat.succ.inj h)
    exact ⟨a0, a1, by rw [e]⟩
theorem us3 (us : List Value) (h : us.length = 3) : ∃ a0 a1 a2, us = [a0, a1, a2] := by
  cases us with
  | nil => cases h
  | cons a0 us =>
    obtain ⟨a1, a2, e⟩ := us2 us (Nat.succ.inj h)
    exact ⟨a0, a1, a2, by rw [e]⟩
theorem us4 (us : List Value) (h : us.length = 4) : ∃ a0 a1 a2 a3, us = [a0, a1, a2, a3] := by
  cases us with
  | nil => cases h
  | cons a0 us =>
    obtain ⟨a1, a2, a3, e⟩ := us3 us (Nat.succ.inj h)
    exact ⟨a0, a1, a2, a3, by rw [e]⟩
theorem walkX_of {q : Program} {loose : List Str} {XP : (Str → Option Value) → Heap → Prop} {K : Params → Frag} {as : List Addr} {n t : Nat} {r : RowW} {d : DefRec} {kwd : List (Str × Expr)} {run : Value → List Value → Sem Value} (e : ∀ P, as = (K P).map (·.1))
    (h : WalkO q loose XP (fun w h => (K w.params).In h) r d kwd run) : WalkX q loose XP (X.obsZ as) (X.valZ K n t) r d kwd run :=
  fun w s₀ s₁ mg mb G y a o pm cd doc dV kV h1 h2 h3 h4 h5 h6 args vals as' L hpre hlay hrd hwl hlo =>
    h w s₀ s₁ mg mb G (InK.keeps w _ _ (X.z_facts e y).2.1 L.keeps) a o pm cd doc dV kV h1 h2 h3 h4 h5 h6 args vals as' hpre hlay hrd hwl hlo
end L2
namespace My
open PySem L2
noncomputable def top (i : Nat) : Stmt := PySem.Challenge.pw_deadhand_k21_earliest_end.main.body.getD i (.Pass ⟨0, 0, 0, 0⟩)
noncomputable def inCls (s : Stmt) (j : Nat) : Stmt := match s with
  | .ClassDef _ _ _ body _ _ _ _ _ _ _ => body.getD j (.Pass ⟨0, 0, 0, 0⟩)
  | _ => .Pass ⟨0, 0, 0, 0⟩
noncomputable def forBody (s : Stmt) : List Stmt := match s with
  | .For _ _ b _ _ => b
  | .While _ b _ _ => b
  | .If _ b _ _ => b
  | _ => []
noncomputable abbrev s_Lives_known : Stmt := inCls (top 32) 8
theorem sc_Lives_known : FnScope ["self", "name"] ["self", "name"] (defScope s_Lives_known) := ⟨rfl, rfl, rfl, by decide +kernel, rfl, by decide +kernel, by decide +kernel⟩
noncomputable abbrev s_Lives_want_known : Stmt := inCls (top 32) 3
theorem sc_Lives_want_known : FnScope ["self", "name"] ["self", "name"] (defScope s_Lives_want_known) := ⟨rfl, rfl, rfl, by decide +kernel, rfl, by decide +kernel, by decide +kernel⟩
noncomputable abbrev s_Lives_age_in : Stmt := inCls (top 32) 12
theorem sc_Lives_age_in : FnScope ["self", "name", "year"] ["self", "name", "year"] (defScope s_Lives_age_in) := ⟨rfl, rfl, rfl, by decide +kernel, rfl, by decide +kernel, by decide +kernel⟩
noncomputable abbrev s_World_age : Stmt := inCls (top 40) 8
theorem sc_World_age : FnScope ["self", "name"] ["self", "name"] (defScope s_World_age) := ⟨rfl, rfl, rfl, by decide +kernel, rfl, by decide +kernel, by decide +kernel⟩
noncomputable abbrev s_Lives_alive : Stmt := inCls (top 32) 9
theorem sc_Lives_alive : FnScope ["self", "name"] ["self", "name"] (defScope s_Lives_alive) := ⟨rfl, rfl, rfl, by decide +kernel, rfl, by decide +kernel, by decide +kernel⟩
noncomputable abbrev s_age_stand : Stmt := top 13
theorem sc_age_stand : FnScope ["world", "name", "age"] ["world", "name", "age"] (defScope s_age_stand) := ⟨rfl, rfl, rfl, by decide +kernel, rfl, by decide +kernel, by decide +kernel⟩
noncomputable abbrev s_Lives_children : Stmt := inCls (top 32) 13
theorem sc_Lives_children : FnScope ["self", "name"] ["self", "name"] (defScope s_Lives_children) := ⟨rfl, rfl, rfl, by decide +kernel, rfl, by decide +kernel, by decide +kernel⟩
noncomputable abbrev s_brood : Stmt := top 15
theorem sc_brood : FnScope ["world", "name"] ["world", "name"] (defScope s_brood) := ⟨rfl, rfl, rfl, by decide +kernel, rfl, by decide +kernel, by decide +kernel⟩
noncomputable abbrev s_left_out : Stmt := top 16
theorem sc_left_out : FnScope ["world", "name"] ["world", "name"] (defScope s_left_out) := ⟨rfl, rfl, rfl, by decide +kernel, rfl, by decide +kernel, by decide +kernel⟩
noncomputable abbrev s_members : Stmt := top 17
theorem sc_members : FnScope ["world", "name", "out"] ["world", "name", "out"] (defScope s_members) := ⟨rfl, rfl, rfl, by decide +kernel, rfl, by decide +kernel, by decide +kernel⟩
noncomputable abbrev s_has_seat : Stmt := top 18
theorem sc_has_seat : FnScope ["world", "name", "age", "out", "child"] ["world", "name", "age", "out"] (defScope s_has_seat) := ⟨rfl, rfl, rfl, by decide +kernel, rfl, by decide +kernel, by decide +kernel⟩
noncomputable abbrev s_waiting : Stmt := top 19
theorem sc_waiting : FnScope ["world", "name", "age", "out"] ["world", "name", "age", "out"] (defScope s_waiting) := ⟨rfl, rfl, rfl, by decide +kernel, rfl, by decide +kernel, by decide +kernel⟩
noncomputable abbrev s_within : Stmt := top 26
theorem sc_within : FnScope ["text", "low", "high", "sign"] ["text", "low", "high"] (defScope s_within) := ⟨rfl, rfl, rfl, by decide +kernel, rfl, by decide +kernel, by decide +kernel⟩
noncomputable abbrev s_good_word : Stmt := top 27
theorem sc_good_word : FnScope ["word"] ["word"] (defScope s_good_word) := ⟨rfl, rfl, rfl, by decide +kernel, rfl, by decide +kernel, by decide +kernel⟩
noncomputable abbrev s_good_number : Stmt := top 29
theorem sc_good_number : FnScope ["text"] ["text"] (defScope s_good_number) := ⟨rfl, rfl, rfl, by decide +kernel, rfl, by decide +kernel, by decide +kernel⟩
noncomputable abbrev s_parts : Stmt := top 30
theorem sc_parts : FnScope ["name", "word", "numbers", "number"] ["name"] (defScope s_parts) := ⟨rfl, rfl, rfl, by decide +kernel, rfl, by decide +kernel, by decide +kernel⟩
noncomputable abbrev s_shortened : Stmt := top 31
theorem sc_shortened : FnScope ["name"] ["name"] (defScope s_shortened) := ⟨rfl, rfl, rfl, by decide +kernel, rfl, by decide +kernel, by decide +kernel⟩
noncomputable abbrev s_Lives_nearest : Stmt := inCls (top 32) 16
theorem sc_Lives_nearest : FnScope ["self", "name", "beginning"] ["self", "name"] (defScope s_Lives_nearest) := ⟨rfl, rfl, rfl, by decide +kernel, rfl, by decide +kernel, by decide +kernel⟩
noncomputable abbrev s_may_grow : Stmt := top 20
theorem sc_may_grow : FnScope ["world", "name"] ["world", "name"] (defScope s_may_grow) := ⟨rfl, rfl, rfl, by decide +kernel, rfl, by decide +kernel, by decide +kernel⟩
noncomputable abbrev s_want_word : Stmt := top 28
theorem sc_want_word : FnScope ["word"] ["word"] (defScope s_want_word) := ⟨rfl, rfl, rfl, by decide +kernel, rfl, by decide +kernel, by decide +kernel⟩
noncomputable abbrev s_Lives___init__ : Stmt := inCls (top 32) 0
theorem sc_Lives___init__ : FnScope ["self"] ["self"] (defScope s_Lives___init__) := ⟨rfl, rfl, rfl, by decide +kernel, rfl, by decide +kernel, by decide +kernel⟩
noncomputable abbrev s_Lives_enter : Stmt := inCls (top 32) 2
theorem sc_Lives_enter : FnScope ["self", "name", "year"] ["self", "name", "year"] (defScope s_Lives_enter) := ⟨rfl, rfl, rfl, by decide +kernel, rfl, by decide +kernel, by decide +kernel⟩
noncomputable abbrev s_Lives_want_alive : Stmt := inCls (top 32) 4
theorem sc_Lives_want_alive : FnScope ["self", "name"] ["self", "name"] (defScope s_Lives_want_alive) := ⟨rfl, rfl, rfl, by decide +kernel, rfl, by decide +kernel, by decide +kernel⟩
noncomputable abbrev s_Lives_arrive : Stmt := inCls (top 32) 5
theorem sc_Lives_arrive : FnScope ["self", "word", "born"] ["self", "word", "born"] (defScope s_Lives_arrive) := ⟨rfl, rfl, rfl, by decide +kernel, rfl, by decide +kernel, by decide +kernel⟩
noncomputable abbrev s_Lives_birth : Stmt := inCls (top 32) 6
theorem sc_Lives_birth : FnScope ["self", "name", "year", "child"] ["self", "name", "year"] (defScope s_Lives_birth) := ⟨rfl, rfl, rfl, by decide +kernel, rfl, by decide +kernel, by decide +kernel⟩
noncomputable abbrev s_Lives_death : Stmt := inCls (top 32) 7
theorem sc_Lives_death : FnScope ["self", "name", "year"] ["self", "name", "year"] (defScope s_Lives_death) := ⟨rfl, rfl, rfl, by decide +kernel, rfl, by decide +kernel, by decide +kernel⟩
noncomputable abbrev s_Lives_born_in : Stmt := inCls (top 32) 10
theorem sc_Lives_born_in : FnScope ["self", "name"] ["self", "name"] (defScope s_Lives_born_in) := ⟨rfl, rfl, rfl, by decide +kernel, rfl, by decide +kernel, by decide +kernel⟩
noncomputable abbrev s_Lives_names : Stmt := inCls (top 32) 14
theorem sc_Lives_names : FnScope ["self"] ["self"] (defScope s_Lives_names) := ⟨rfl, rfl, rfl, by decide +kernel, rfl, by decide +kernel, by decide +kernel⟩
noncomputable abbrev s_is_class : Stmt := top 34
theorem sc_is_class : FnScope ["holder"] ["holder"] (defScope s_is_class) := ⟨rfl, rfl, rfl, by decide +kernel, rfl, by decide +kernel, by decide +kernel⟩
noncomputable abbrev s_want_between : Stmt := top 39
theorem sc_want_between : FnScope ["number", "low", "high"] ["number", "low", "high"] (defScope s_want_between) := ⟨rfl, rfl, rfl, by decide +kernel, rfl, by decide +kernel, by decide +kernel⟩
noncomputable abbrev s_World___init__ : Stmt := inCls (top 40) 0
theorem sc_World___init__ : FnScope ["self", "year"] ["self", "year"] (defScope s_World___init__) := ⟨rfl, rfl, rfl, by decide +kernel, rfl, by decide +kernel, by decide +kernel⟩
noncomputable abbrev s_World_pass_years : Stmt := inCls (top 40) 2
theorem sc_World_pass_years : FnScope ["self", "many"] ["self", "many"] (defScope s_World_pass_years) := ⟨rfl, rfl, rfl, by decide +kernel, rfl, by decide +kernel, by decide +kernel⟩
noncomputable abbrev s_World_arrive : Stmt := inCls (top 40) 3
theorem sc_World_arrive : FnScope ["self", "word", "age"] ["self", "word", "age"] (defScope s_World_arrive) := ⟨rfl, rfl, rfl, by decide +kernel, rfl, by decide +kernel, by decide +kernel⟩
noncomputable abbrev s_World_birth : Stmt := inCls (top 40) 4
theorem sc_World_birth : FnScope ["self", "name"] ["self", "name"] (defScope s_World_birth) := ⟨rfl, rfl, rfl, by decide +kernel, rfl, by decide +kernel, by decide +kernel⟩
noncomputable abbrev s_World_death : Stmt := inCls (top 40) 5
theorem sc_World_death : FnScope ["self", "name"] ["self", "name"] (defScope s_World_death) := ⟨rfl, rfl, rfl, by decide +kernel, rfl, by decide +kernel, by decide +kernel⟩
noncomputable abbrev s_World_comes : Stmt := inCls (top 40) 6
theorem sc_World_comes : FnScope ["self", "word"] ["self", "word"] (defScope s_World_comes) := ⟨rfl, rfl, rfl, by decide +kernel, rfl, by decide +kernel, by decide +kernel⟩
noncomputable abbrev s_class_end : Stmt := top 42
theorem sc_class_end : FnScope ["world", "name", "age", "out", "births"] ["world", "name", "age"] (defScope s_class_end) := ⟨rfl, rfl, rfl, by decide +kernel, rfl, by decide +kernel, by decide +kernel⟩
noncomputable abbrev s_first_end : Stmt := top 43
theorem sc_first_end : FnScope ["world", "holder", "atoms", "lives", "years"] ["world", "holder", "atoms"] (defScope s_first_end) := ⟨rfl, rfl, rfl, by decide +kernel, rfl, by decide +kernel, by decide +kernel⟩
noncomputable abbrev s_law_num : Stmt := top 45
theorem sc_law_num : FnScope ["_law_found"] ["_law_found"] (defScope s_law_num) := ⟨rfl, rfl, rfl, by decide +kernel, rfl, by decide +kernel, by decide +kernel⟩
noncomputable abbrev s_law_cell_at : Stmt := top 46
theorem sc_law_cell_at : FnScope ["_law_script", "_law_k"] ["_law_script", "_law_k"] (defScope s_law_cell_at) := ⟨rfl, rfl, rfl, by decide +kernel, rfl, by decide +kernel, by decide +kernel⟩
noncomputable abbrev s_law_rich : Stmt := top 47
theorem sc_law_rich : FnScope ["_law_cell", "_law_place", "_law_one", "_law_two"] ["_law_cell", "_law_place"] (defScope s_law_rich) := ⟨rfl, rfl, rfl, by decide +kernel, rfl, by decide +kernel, by decide +kernel⟩
noncomputable abbrev s_law_word : Stmt := top 48
theorem sc_law_word : FnScope ["_law_n", "_law_size", "_law_word_here", "_law_k"] ["_law_n"] (defScope s_law_word) := ⟨rfl, rfl, rfl, by decide +kernel, rfl, by decide +kernel, by decide +kernel⟩
noncomputable abbrev s_law_model : Stmt := top 49
theorem sc_law_model : FnScope ["_law_year"] ["_law_year"] (defScope s_law_model) := ⟨rfl, rfl, rfl, by decide +kernel, rfl, by decide +kernel, by decide +kernel⟩
noncomputable abbrev s_law_kids : Stmt := top 50
theorem sc_law_kids : FnScope ["_law_model_here", "_law_name", "_law_found"] ["_law_model_here", "_law_name"] (defScope s_law_kids) := ⟨rfl, rfl, rfl, by decide +kernel, rfl, by decide +kernel, by decide +kernel⟩
noncomputable abbrev s_law_living : Stmt := top 51
theorem sc_law_living : FnScope ["_law_model_here"] ["_law_model_here"] (defScope s_law_living) := ⟨rfl, rfl, rfl, by decide +kernel, rfl, by decide +kernel, by decide +kernel⟩
noncomputable abbrev s_law_play : Stmt := top 52
theorem sc_law_play : FnScope ["_law_model_here", "_law_deed", "_law_clock", "_law_born", "_law_dead", "_law_came"] ["_law_model_here", "_law_deed"] (defScope s_law_play) := ⟨rfl, rfl, rfl, by decide +kernel, rfl, by decide +kernel, by decide +kernel⟩
noncomputable abbrev s_law_next_deed : Stmt := top 53
theorem sc_law_next_deed : FnScope ["_law_model_here", "_law_n", "_law_far", "_law_some", "_law_kind", "_law_word_here", "_law_name"] ["_law_model_here", "_law_n", "_law_far"] (defScope s_law_next_deed) := ⟨rfl, rfl, rfl, by decide +kernel, rfl, by decide +kernel, by decide +kernel⟩
noncomputable abbrev s_law_start : Stmt := top 54
theorem sc_law_start : FnScope ["_law_n", "_law_deeds", "_law_words", "_law_k", "_law_word_here"] ["_law_n"] (defScope s_law_start) := ⟨rfl, rfl, rfl, by decide +kernel, rfl, by decide +kernel, by decide +kernel⟩
noncomputable abbrev s_law_do : Stmt := top 55
theorem sc_law_do : FnScope ["_law_world", "_law_deed"] ["_law_world", "_law_deed"] (defScope s_law_do) := ⟨rfl, rfl, rfl, by decide +kernel, rfl, by decide +kernel, by decide +kernel⟩
noncomputable abbrev s_law_path : Stmt := top 56
theorem sc_law_path : FnScope ["_law_model_here", "_law_n", "_law_names", "_law_name", "_law_k"] ["_law_model_here", "_law_n"] (defScope s_law_path) := ⟨rfl, rfl, rfl, by decide +kernel, rfl, by decide +kernel, by decide +kernel⟩
noncomputable abbrev s_law_need : Stmt := top 57
theorem sc_law_need : FnScope ["_law_model_here", "_law_n", "_law_kind", "_law_name"] ["_law_model_here", "_law_n"] (defScope s_law_need) := ⟨rfl, rfl, rfl, by decide +kernel, rfl, by decide +kernel, by decide +kernel⟩
noncomputable abbrev s_law_needs : Stmt := top 58
theorem sc_law_needs : FnScope ["_law_model_here", "_law_n", "_law_most"] ["_law_model_here", "_law_n", "_law_most"] (defScope s_law_needs) := ⟨rfl, rfl, rfl, by decide +kernel, rfl, by decide +kernel, by decide +kernel⟩
noncomputable abbrev s_law_near : Stmt := top 59
theorem sc_law_near : FnScope ["_law_model_here", "_law_name"] ["_law_model_here", "_law_name"] (defScope s_law_near) := ⟨rfl, rfl, rfl, by decide +kernel, rfl, by decide +kernel, by decide +kernel⟩
noncomputable abbrev s_law_age : Stmt := top 60
theorem sc_law_age : FnScope ["_law_model_here", "_law_name"] ["_law_model_here", "_law_name"] (defScope s_law_age) := ⟨rfl, rfl, rfl, by decide +kernel, rfl, by decide +kernel, by decide +kernel⟩
noncomputable abbrev s_law_atom : Stmt := top 61
theorem sc_law_atom : FnScope ["_law_model_here", "_law_atom_here", "_law_name"] ["_law_model_here", "_law_atom_here"] (defScope s_law_atom) := ⟨rfl, rfl, rfl, by decide +kernel, rfl, by decide +kernel, by decide +kernel⟩
noncomputable abbrev s_law_fold : Stmt := top 62
theorem sc_law_fold : FnScope ["_law_stands"] ["_law_stands"] (defScope s_law_fold) := ⟨rfl, rfl, rfl, by decide +kernel, rfl, by decide +kernel, by decide +kernel⟩
noncomputable abbrev s_law_members : Stmt := top 63
theorem sc_law_members : FnScope ["_law_model_here", "_law_name", "_law_out_here"] ["_law_model_here", "_law_name", "_law_out_here"] (defScope s_law_members) := ⟨rfl, rfl, rfl, by decide +kernel, rfl, by decide +kernel, by decide +kernel⟩
noncomputable abbrev s_law_young : Stmt := top 64
theorem sc_law_young : FnScope ["_law_model_here", "_law_name", "_law_age_here", "_law_out_here", "_law_some"] ["_law_model_here", "_law_name", "_law_age_here", "_law_out_here"] (defScope s_law_young) := ⟨rfl, rfl, rfl, by decide +kernel, rfl, by decide +kernel, by decide +kernel⟩
noncomputable abbrev s_law_seated : Stmt := top 65
theorem sc_law_seated : FnScope ["_law_model_here", "_law_name", "_law_age_here", "_law_out_here"] ["_law_model_here", "_law_name", "_law_age_here", "_law_out_here"] (defScope s_law_seated) := ⟨rfl, rfl, rfl, by decide +kernel, rfl, by decide +kernel, by decide +kernel⟩
noncomputable abbrev s_law_class : Stmt := top 66
theorem sc_law_class : FnScope ["_law_model_here", "_law_name", "_law_age_here", "_law_out_here", "_law_near_here"] ["_law_model_here", "_law_name", "_law_age_here", "_law_out_here"] (defScope s_law_class) := ⟨rfl, rfl, rfl, by decide +kernel, rfl, by decide +kernel, by decide +kernel⟩
noncomputable abbrev s_law_whole : Stmt := top 67
theorem sc_law_whole : FnScope ["_law_model_here", "_law_holder_here", "_law_atoms", "_law_out_here", "_law_stands"] ["_law_model_here", "_law_holder_here", "_law_atoms", "_law_out_here"] (defScope s_law_whole) := ⟨rfl, rfl, rfl, by decide +kernel, rfl, by decide +kernel, by decide +kernel⟩
noncomputable abbrev s_law_out : Stmt := top 68
theorem sc_law_out : FnScope ["_law_model_here", "_law_holder_here"] ["_law_model_here", "_law_holder_here"] (defScope s_law_out) := ⟨rfl, rfl, rfl, by decide +kernel, rfl, by decide +kernel, by decide +kernel⟩
noncomputable abbrev s_law_holder : Stmt := top 69
theorem sc_law_holder : FnScope ["_law_model_here", "_law_n", "_law_name", "_law_near_here"] ["_law_model_here", "_law_n"] (defScope s_law_holder) := ⟨rfl, rfl, rfl, by decide +kernel, rfl, by decide +kernel, by decide +kernel⟩
noncomputable abbrev s_law_first_end : Stmt := top 70
theorem sc_law_first_end : FnScope ["_law_model_here", "_law_holder_here", "_law_atoms", "_law_out_here", "_law_found", "_law_atom_here", "_law_young_here"] ["_law_model_here", "_law_holder_here", "_law_atoms", "_law_out_here"] (defScope s_law_first_end) := ⟨rfl, rfl, rfl, by decide +kernel, rfl, by decide +kernel, by decide +kernel⟩
noncomputable abbrev s_law_judged_row : Stmt := top 71
theorem sc_law_judged_row : FnScope ["_law_model_here", "_law_n", "_law_some"] ["_law_model_here", "_law_n"] (defScope s_law_judged_row) := ⟨rfl, rfl, rfl, by decide +kernel, rfl, by decide +kernel, by decide +kernel⟩
noncomputable abbrev s_law : Stmt := top 72
theorem sc_law : FnScope ["_law_script", "_law_n", "_law_model_here", "_law_world", "_law_deeds", "_law_k", "_law_m", "_law_deed", "_law_holder_here", "_law_atoms", "_law_out_here", "_law_found"] ["_law_script"] (defScope s_law) := ⟨rfl, rfl, rfl, by decide +kernel, rfl, by decide +kernel, by decide +kernel⟩
structure Txt (K : PySem.W.Frag) (g : Ga) (mg : Str → Option Value) : Prop where
  z_isinstance : mg "isinstance" = none
  z_int : mg "int" = none
  z_bool : mg "bool" = none
  z_len : mg "len" = none
  z_range : mg "range" = none
  z_list : mg "list" = none
  z_str : mg "str" = none
  z_min : mg "min" = none
  z_max : mg "max" = none
  z_ValueError : mg "ValueError" = none
  m_LandError : mg "LandError" = some (.ref g.LandError)
  m_NoText : mg "NoText" = some (.ref g.NoText)
  m_OutOfBound : mg "OutOfBound" = some (.ref g.OutOfBound)
  m_Taken : mg "Taken" = some (.ref g.Taken)
  m_NoPerson : mg "NoPerson" = some (.ref g.NoPerson)
  m_Gone : mg "Gone" = some (.ref g.Gone)
  m_TooDeep : mg "TooDeep" = some (.ref g.TooDeep)
  x_Gone : XAt K g.Gone
  x_NoPerson : XAt K g.NoPerson
  x_NoText : XAt K g.NoText
  x_OutOfBound : XAt K g.OutOfBound
  x_Taken : XAt K g.Taken
  x_TooDeep : XAt K g.TooDeep
  m_Lives : mg "Lives" = some (.ref g.Lives)
  cl_Lives : Cls K g.Lives
  n_Lives_births : NoAttr K g.Lives "births"
  n_Lives_deaths : NoAttr K g.Lives "deaths"
  n_Lives_broods : NoAttr K g.Lives "broods"
  m_World : mg "World" = some (.ref g.World)
  cl_World : Cls K g.World
  n_World_year : NoAttr K g.World "year"
  n_World_lives : NoAttr K g.World "lives"
  n_World_happened : NoAttr K g.World "happened"
  m_MET : mg "MET" = some (.str "met" g.MET)
  m_FAILED : mg "FAILED" = some (.str "failed" g.FAILED)
  m_HANGS : mg "HANGS" = some (.str "hangs" g.HANGS)
  m_LONGEST_WORD : mg "LONGEST_WORD" = some (.int 8 g.LONGEST_WORD)
  m_LONGEST_NUMBER : mg "LONGEST_NUMBER" = some (.int 2 g.LONGEST_NUMBER)
  m_MOST_NUMBERS : mg "MOST_NUMBERS" = some (.int 5 g.MOST_NUMBERS)
  m_BARRED : mg "BARRED" = some (.ref g.BARRED)
  s_BARRED : ∀ H, SqT K H g.BARRED [.str "crown", .str "kids"]
  m_LAST_FIRST_YEAR : mg "LAST_FIRST_YEAR" = some (.int 9999 g.LAST_FIRST_YEAR)
  m_MOST_YEARS : mg "MOST_YEARS" = some (.int 60 g.MOST_YEARS)
  m_OLDEST : mg "OLDEST" = some (.int 120 g.OLDEST)
-- MAC
local macro_rules | `(tactic| walk_at "ss") => `(tactic| first | exact rfl | assumption | exact line_ok (Nat.le_of_ble_eq_true rfl) | (show (0 : Int) < _; decide) | exact ⟨by decide, by decide⟩ | exact .inl ⟨by decide, by decide⟩ | exact .inr ⟨by decide, by decide⟩ | exact DGet.k (k := Sum.inr _) (by assumption) | exact SqL.of (by assumption) | exact SqL.of upd_same | exact SqT.of upd_same | exact SqT.of (by assumption) | exact .inl (SqL.of (by assumption)) | exact .inr (SqT.of (by assumption)) | exact .inl ⟨_, SqL.of (by assumption), rfl⟩ | exact ⟨_, SqL.of (by assumption)⟩ | exact ⟨_, SqL.of upd_same⟩ | exact .inl ⟨rfl, _, SqL.of (by assumption)⟩ | exact Txt.cl_Lives (by assumption) | exact Txt.n_Lives_births (by assumption) | exact Txt.n_Lives_deaths (by assumption) | exact Txt.n_Lives_broods (by assumption) | exact Txt.cl_World (by assumption) | exact Txt.n_World_year (by assumption) | exact Txt.n_World_lives (by assumption) | exact Txt.n_World_happened (by assumption) | exact Txt.s_BARRED (by assumption) | decide)
local macro_rules | `(tactic| walk_at "rd") => `(tactic| repeat (first | (apply And.intro; · walk_at "ss") | apply Exists.intro))
local macro_rules | `(tactic| walk_at "go") => `(tactic| repeat (first | (apply And.intro; · walk_at "ss") | ((fail_if_success (show ∃ _ : Nat → Nat → St → Hp → Prop, _)); (fail_if_success (show ∃ _ : Nat → St → Hp → Prop, _)); apply Exists.intro)))
local macro_rules | `(tactic| walk_at "v") => `(tactic| first | exact Or.inl rfl | exact Or.inr (Or.inl rfl) | exact Or.inr (Or.inr rfl))
local macro_rules | `(tactic| walk_at "u") => `(tactic| first | exact .inl rfl | exact .inr rfl | assumption)
local macro_rules | `(tactic| walk_at "n") => `(tactic| first | exact nobehind _ (by decide) (by decide) | rfl)
local macro_rules | `(tactic| walk_at "w") => `(tactic| exact ⟨by rfl, by walk_at "v", by decide, by decide⟩)
-- ENDMAC
theorem qv {X : Cx} (i : Nat) {x : Str} {pos : Pos} (h : X.N[i]? = some x ∧ Vis X.env.scope x ∧ (x == ("__debug__" : Str)) = false ∧ (x == ("__classdict__" : Str)) = false) : PE X (.Name x pos) (tVar i) := @pv X i x pos h.1 h.2.1 h.2.2.1 h.2.2.2

noncomputable def sp_Lives_known (K : PySem.W.Frag) (g : Ga) : Sp := fun vs H Q E => ∃ (b : Addr) (bs ds : List (Str × Int)) (R : List Addr) (n : Str), vs = [.ref b, .str n] ∧ LivesAt g.Lives H b bs ds R ∧ Q (.bl (has bs n)) H
noncomputable def sp_Lives_want_known (K : PySem.W.Frag) (g : Ga) : Sp := fun vs H Q E => ∃ (b : Addr) (bs ds : List (Str × Int)) (R : List Addr) (n : Str), vs = [.ref b, .str n] ∧ LivesAt g.Lives H b bs ds R ∧ (has bs n = false → E (.ref g.NoPerson) none H) ∧ (has bs n = true → Q .non H)
noncomputable def sp_Lives_age_in (K : PySem.W.Frag) (g : Ga) : Sp := fun vs H Q E => ∃ (b : Addr) (bs ds : List (Str × Int)) (R : List Addr) (n : Str) (t : Int), vs = [.ref b, .str n, .int t] ∧ LivesAt g.Lives H b bs ds R ∧ (has bs n = false → E (.ref g.NoPerson) none H) ∧ (∀ y, yr bs n = some y → Q (.int ((yr ds n).getD t - y)) H)
noncomputable def sp_World_age (K : PySem.W.Frag) (g : Ga) : Sp := fun vs H Q E => ∃ (w : Addr) (S : Mo) (R : List Addr) (n : Str), vs = [.ref w, .str n] ∧ WorldAt g H w S R ∧ (has S.bs n = false → E (.ref g.NoPerson) none H) ∧ (∀ y, yr S.bs n = some y → Q (.int ((yr S.ds n).getD S.y - y)) H)
noncomputable def sp_Lives_alive (K : PySem.W.Frag) (g : Ga) : Sp := fun vs H Q E => ∃ (b : Addr) (bs ds : List (Str × Int)) (R : List Addr) (n : Str), vs = [.ref b, .str n] ∧ LivesAt g.Lives H b bs ds R ∧ Q (.bl (al bs ds n)) H
noncomputable def sp_age_stand (K : PySem.W.Frag) (g : Ga) : Sp := fun vs H Q E => ∃ (w : Addr) (S : Mo) (R : List Addr) (n : Str) (a y : Int), vs = [.ref w, .str n, .int a] ∧ WorldAt g H w S R ∧ has S.bs n = true ∧ yr S.bs n = some y ∧ Q (.str (stAge S n y a)) H
noncomputable def sp_Lives_children (K : PySem.W.Frag) (g : Ga) : Sp := fun vs H Q E => ∃ (b : Addr) (bs ds : List (Str × Int)) (R : List Addr) (n : Str), vs = [.ref b, .str n] ∧ LivesAt g.Lives H b bs ds R ∧ (has bs n = false → E (.ref g.NoPerson) none H) ∧ (has bs n = true → ∀ l H', Same H H' → H l = none → H' l = some (.lst (kidV n (nk bs n))) → Q (.ref l) H')
noncomputable def sp_brood (K : PySem.W.Frag) (g : Ga) : Sp := fun vs H Q E => ∃ (w : Addr) (S : Mo) (R : List Addr) (n : Str), vs = [.ref w, .str n] ∧ WorldAt g H w S R ∧ ∀ l H', Same H H' → H l = none → H' l = some (.lst ((kidsOf S n).map V.str)) → Q (.ref l) H'
noncomputable def sp_left_out (K : PySem.W.Frag) (g : Ga) : Sp := fun vs H Q E => ∃ (w : Addr) (S : Mo) (R : List Addr) (n : Str), vs = [.ref w, .str n] ∧ WorldAt g H w S R ∧ S.bs.length ≤ 900 ∧ ∀ l H', Same H H' → H l = none → H' l = some (.lst ((outL S n).map V.str)) → Q (.ref l) H'
noncomputable def sp_members (K : PySem.W.Frag) (g : Ga) : Sp := fun vs H Q E => ∃ (w : Addr) (S : Mo) (R : List Addr) (n : Str) (o : Addr) (os : List Str), vs = [.ref w, .str n, .ref o] ∧ WorldAt g H w S R ∧ SqL K H o (os.map V.str) ∧ S.bs.length ≤ 900 ∧ ∀ l H', Same H H' → H l = none → H' l = some (.lst ((memL S n os).map V.str)) → Q (.ref l) H'
noncomputable def sp_has_seat (K : PySem.W.Frag) (g : Ga) : Sp := fun vs H Q E => ∃ (w : Addr) (S : Mo) (R : List Addr) (n : Str) (a : Int) (o : Addr) (os : List Str), vs = [.ref w, .str n, .int a, .ref o] ∧ WorldAt g H w S R ∧ SqL K H o (os.map V.str) ∧ S.bs.length ≤ 900 ∧ ∀ H', Same H H' → Q (.bl (hasSeat S n a os)) H'
noncomputable def sp_waiting (K : PySem.W.Frag) (g : Ga) : Sp := fun vs H Q E => ∃ (w : Addr) (S : Mo) (R : List Addr) (n : Str) (a : Int) (o : Addr) (os : List Str), vs = [.ref w, .str n, .int a, .ref o] ∧ WorldAt g H w S R ∧ SqL K H o (os.map V.str) ∧ S.bs.length ≤ 900 ∧ ∀ l H', Same H H' → H l = none → H' l = some (.lst ((waitL S n a os).map V.str)) → Q (.ref l) H'
noncomputable def sp_within (K : PySem.W.Frag) (g : Ga) : Sp := fun vs H Q E => ∃ (x : Str) (a b : Nat), vs = [.str x, .str ⟨#[a]⟩, .str ⟨#[b]⟩] ∧ Q (.bl (x.cps.toList.all (inR a b))) H
noncomputable def sp_good_word (K : PySem.W.Frag) (g : Ga) : Sp := fun vs H Q E => ∃ x : Str, vs = [.str x] ∧ x.length ≤ 200 ∧ Q (.bl (gw x)) H
noncomputable def sp_good_number (K : PySem.W.Frag) (g : Ga) : Sp := fun vs H Q E => ∃ x : Str, vs = [.str x] ∧ x.length ≤ 200 ∧ Q (.bl (gn x)) H
noncomputable def sp_parts (K : PySem.W.Frag) (g : Ga) : Sp := fun vs H Q E => ∃ x : Str, vs = [.str x] ∧ x.length ≤ 200 ∧ (pok x = false → ∀ H', Same H H' → E (.ref g.NoText) none H') ∧ (pok x = true → ∀ l H', Same H H' → H l = none → H' l = some (.lst (pvl x)) → Q (.ref l) H')
noncomputable def sp_shortened (K : PySem.W.Frag) (g : Ga) : Sp := fun vs H Q E => ∃ x : Str, vs = [.str x] ∧ x.length ≤ 200 ∧ ∀ H', Same H H' → Q (.str (up x)) H'
noncomputable def sp_Lives_nearest (K : PySem.W.Frag) (g : Ga) : Sp := fun vs H Q E => ∃ (b : Addr) (bs ds : List (Str × Int)) (R : List Addr) (n : Str), vs = [.ref b, .str n] ∧ LivesAt g.Lives H b bs ds R ∧ n.length ≤ 200 ∧ (pok n = false → ∀ H', Same H H' → E (.ref g.NoText) none H') ∧ (pok n = true → ∀ H', Same H H' → Q (.str (nr bs n)) H')
noncomputable def sp_may_grow (K : PySem.W.Frag) (g : Ga) : Sp := fun vs H Q E => ∃ (w : Addr) (S : Mo) (R : List Addr) (n : Str), vs = [.ref w, .str n] ∧ WorldAt g H w S R ∧ pok n = true ∧ ∀ H', Same H H' → Q (.bl (al S.bs S.ds (nr S.bs n))) H'
noncomputable def sp_want_word (K : PySem.W.Frag) (g : Ga) : Sp := fun vs H Q E => ∃ x : Str, vs = [.str x] ∧ x.length ≤ 200 ∧ (gw x = false → E (.ref g.NoText) none H) ∧ (gw x = true → Q .non H)
noncomputable def sp_Lives___init__ (K : PySem.W.Frag) (g : Ga) : Sp := fun vs H Q E => ∃ (b dx : Addr), vs = [.ref b] ∧ H b = some (.ins g.Lives dx []) ∧ ∀ R H', Keep [b] H H' → (∀ a ∈ R, a = b ∨ H a = none) → LivesAt g.Lives H' b [] [] R → Q .non H'
noncomputable def sp_Lives_enter (K : PySem.W.Frag) (g : Ga) : Sp := fun vs H Q E => ∃ (b d1 d2 d3 : Addr) (bs ds : List (Str × Int)) (ws : List (Str × Addr × Nat)) (n : Str) (y : Int), vs = [.ref b, .str n, .int y] ∧ Book g.Lives H b d1 d2 d3 bs ds ws ∧ has bs n = false ∧ valV (brs ws) (Sum.inr n : Key) = none ∧ bs.length ≤ 900 ∧ ws.length ≤ 900 ∧ ∀ l H', H l = none → Keep [d1, d3] H H' → Book g.Lives H' b d1 d2 d3 (bs ++ [(n, y)]) ds (ws ++ [(n, l, 0)]) → Q .non H'
noncomputable def sp_Lives_want_alive (K : PySem.W.Frag) (g : Ga) : Sp := fun vs H Q E => ∃ (b : Addr) (bs ds : List (Str × Int)) (R : List Addr) (n : Str), vs = [.ref b, .str n] ∧ LivesAt g.Lives H b bs ds R ∧ (has bs n = false → E (.ref g.NoPerson) none H) ∧ (has bs n = true → has ds n = true → E (.ref g.Gone) none H) ∧ (has bs n = true → has ds n = false → Q .non H)
noncomputable def sp_Lives_arrive (K : PySem.W.Frag) (g : Ga) : Sp := fun vs H Q E => ∃ (b : Addr) (bs ds : List (Str × Int)) (R : List Addr) (n : Str) (y : Int), vs = [.ref b, .str n, .int y] ∧ LivesAt g.Lives H b bs ds R ∧ n.length ≤ 200 ∧ bs.length < 800 ∧ (gw n = false → E (.ref g.NoText) none H) ∧ (gw n = true → has bs n = true → E (.ref g.Taken) none H) ∧ (gw n = true → has bs n = false → ∀ R' H', Keep R H H' → Grow H R R' → LivesAt g.Lives H' b (bs ++ [(n, y)]) ds R' → Q .non H')
noncomputable def sp_Lives_birth (K : PySem.W.Frag) (g : Ga) : Sp := fun vs H Q E => ∃ (b : Addr) (bs ds : List (Str × Int)) (R : List Addr) (n : Str) (y : Int), vs = [.ref b, .str n, .int y] ∧ LivesAt g.Lives H b bs ds R ∧ bs.length < 800 ∧ nk bs n < 99 ∧ (has bs n = false → E (.ref g.NoPerson) none H) ∧ (has bs n = true → has ds n = true → E (.ref g.Gone) none H) ∧ (has bs n = true → has ds n = false → 5 ≤ dots n → E (.ref g.TooDeep) none H) ∧ (has bs n = true → has ds n = false → dots n < 5 → ∀ R' H', Keep R H H' → Grow H R R' → LivesAt g.Lives H' b (bs ++ [(kid n (nk bs n), y)]) ds R' → Q (.str (kid n (nk bs n))) H')
noncomputable def sp_Lives_death (K : PySem.W.Frag) (g : Ga) : Sp := fun vs H Q E => ∃ (b : Addr) (bs ds : List (Str × Int)) (R : List Addr) (n : Str) (y : Int), vs = [.ref b, .str n, .int y] ∧ LivesAt g.Lives H b bs ds R ∧ ds.length < 800 ∧ (has bs n = false → E (.ref g.NoPerson) none H) ∧ (has bs n = true → has ds n = true → E (.ref g.Gone) none H) ∧ (has bs n = true → has ds n = false → ∀ H', Keep R H H' → LivesAt g.Lives H' b bs (ds ++ [(n, y)]) R → Q .non H')
noncomputable def sp_Lives_born_in (K : PySem.W.Frag) (g : Ga) : Sp := fun vs H Q E => ∃ (b : Addr) (bs ds : List (Str × Int)) (R : List Addr) (n : Str), vs = [.ref b, .str n] ∧ LivesAt g.Lives H b bs ds R ∧ (has bs n = false → E (.ref g.NoPerson) none H) ∧ (∀ y, yr bs n = some y → Q (.int y) H)
noncomputable def sp_Lives_names (K : PySem.W.Frag) (g : Ga) : Sp := fun vs H Q E => ∃ (b : Addr) (bs ds : List (Str × Int)) (R : List Addr), vs = [.ref b] ∧ LivesAt g.Lives H b bs ds R ∧ ∀ l H', Same H H' → H l = none → H' l = some (.lst (bs.map fun p => V.str p.1)) → Q (.ref l) H'
noncomputable def sp_is_class (K : PySem.W.Frag) (g : Ga) : Sp := fun vs H Q E => ∃ (p : Addr) (h : Ho), vs = [.ref p] ∧ H p = some (.tup h.vals) ∧ Q (.bl h.isK) H
noncomputable def sp_want_between (K : PySem.W.Frag) (g : Ga) : Sp := fun vs H Q E => ∃ n lo hi : Int, vs = [.int n, .int lo, .int hi] ∧ (¬ (lo ≤ n ∧ n ≤ hi) → E (.ref g.OutOfBound) none H) ∧ (lo ≤ n ∧ n ≤ hi → Q .non H)
noncomputable def sp_World___init__ (K : PySem.W.Frag) (g : Ga) : Sp := fun vs H Q E => ∃ (w dx : Addr) (y : Int), vs = [.ref w, .int y] ∧ H w = some (.ins g.World dx []) ∧ (¬ (0 ≤ y ∧ y ≤ 9999) → E (.ref g.OutOfBound) none H) ∧ (0 ≤ y ∧ y ≤ 9999 → ∀ R H', Keep [w] H H' → (∀ a ∈ R, a = w ∨ H a = none) → WorldAt g H' w (mo0 y) R → Q .non H')
noncomputable def sp_World_pass_years (K : PySem.W.Frag) (g : Ga) : Sp := fun vs H Q E => ∃ (w : Addr) (S : Mo) (R : List Addr) (k : Int), vs = [.ref w, .int k] ∧ WorldAt g H w S R ∧ (¬ (1 ≤ k ∧ k ≤ 60) → E (.ref g.OutOfBound) none H) ∧ (1 ≤ k ∧ k ≤ 60 → ∀ H', Keep R H H' → WorldAt g H' w { S with y := S.y + k } R → Q .non H')
noncomputable def sp_World_arrive (K : PySem.W.Frag) (g : Ga) : Sp := fun vs H Q E => ∃ (w : Addr) (S : Mo) (R : List Addr) (n : Str) (a : Int), vs = [.ref w, .str n, .int a] ∧ WorldAt g H w S R ∧ n.length ≤ 200 ∧ S.bs.length < 800 ∧ (¬ (0 ≤ a ∧ a ≤ 120) → E (.ref g.OutOfBound) none H) ∧ (0 ≤ a ∧ a ≤ 120 → gw n = false → E (.ref g.NoText) none H) ∧ (0 ≤ a ∧ a ≤ 120 → gw n = true → has S.bs n = true → E (.ref g.Taken) none H) ∧ (0 ≤ a ∧ a ≤ 120 → gw n = true → has S.bs n = false → ∀ R' H', Keep R H H' → Grow H R R' → WorldAt g H' w (S.step (.arrive n a)) R' → Q .non H')
noncomputable def sp_World_birth (K : PySem.W.Frag) (g : Ga) : Sp := fun vs H Q E => ∃ (w : Addr) (S : Mo) (R : List Addr) (n : Str), vs = [.ref w, .str n] ∧ WorldAt g H w S R ∧ S.bs.length < 800 ∧ nk S.bs n < 99 ∧ (has S.bs n = false → E (.ref g.NoPerson) none H) ∧ (has S.bs n = true → has S.ds n = true → E (.ref g.Gone) none H) ∧ (has S.bs n = true → has S.ds n = false → 5 ≤ dots n → E (.ref g.TooDeep) none H) ∧ (has S.bs n = true → has S.ds n = false → dots n < 5 → ∀ R' H', Keep R H H' → Grow H R R' → WorldAt g H' w (S.step (.birth n)) R' → Q (.str (kid n (nk S.bs n))) H')
noncomputable def sp_World_death (K : PySem.W.Frag) (g : Ga) : Sp := fun vs H Q E => ∃ (w : Addr) (S : Mo) (R : List Addr) (n : Str), vs = [.ref w, .str n] ∧ WorldAt g H w S R ∧ S.ds.length < 800 ∧ (has S.bs n = false → E (.ref g.NoPerson) none H) ∧ (has S.bs n = true → has S.ds n = true → E (.ref g.Gone) none H) ∧ (has S.bs n = true → has S.ds n = false → ∀ H', Keep R H H' → WorldAt g H' w (S.step (.death n)) R → Q .non H')
noncomputable def sp_World_comes (K : PySem.W.Frag) (g : Ga) : Sp := fun vs H Q E => ∃ (w : Addr) (S : Mo) (R : List Addr) (n : Str), vs = [.ref w, .str n] ∧ WorldAt g H w S R ∧ n.length ≤ 200 ∧ S.cs.length < 800 ∧ (gw n = false → E (.ref g.NoText) none H) ∧ (gw n = true → has S.cs n = true → E (.ref g.Taken) none H) ∧ (gw n = true → has S.cs n = false → ∀ H', Keep R H H' → WorldAt g H' w (S.step (.comes n)) R → Q .non H')
noncomputable def sp_class_end (K : PySem.W.Frag) (g : Ga) : Sp := fun vs H Q E => ∃ (w : Addr) (S : Mo) (R : List Addr) (n : Str) (a : Int), vs = [.ref w, .str n, .int a] ∧ WorldAt g H w S R ∧ S.bs.length ≤ 98 ∧ okN S n ∧ 0 ≤ a ∧ a ≤ 120 ∧ ∀ M H', CEnd S n a M → Same H H' → Q (.int M) H'
noncomputable def sp_first_end (K : PySem.W.Frag) (g : Ga) : Sp := fun vs H Q E => ∃ (w : Addr) (S : Mo) (R : List Addr) (p l : Addr) (h : Ho) (ts : List Atm) (ps : List Addr), vs = [.ref w, .ref p, .ref l] ∧ WorldAt g H w S R ∧ S.bs.length ≤ 98 ∧ H p = some (.tup h.vals) ∧ AtmsAt H l ts ps ∧ h.ok S ∧ (∀ t ∈ ts, t.ok S) ∧ ts.length ≤ 100 ∧ ∀ M H', FEnd S h ts M → Same H H' → Q (.int M) H'
noncomputable def sp_law_num (K : PySem.W.Frag) (g : Ga) : Sp := fun vs H Q E => ∃ i : Int, vs = [.int i] ∧ Q (.bl true) H
noncomputable def sp_law_cell_at (K : PySem.W.Frag) (g : Ga) : Sp := fun vs H Q E => ∃ (a : Addr) (ns : List Int) (k : Int), vs = [.ref a, .int k] ∧ SqL K H a (ns.map V.int) ∧ 0 ≤ k ∧ ∀ c : Int, Q (.int c) H
noncomputable def sp_law_rich (K : PySem.W.Frag) (g : Ga) : Sp := fun vs H Q E => ∃ c p : Int, vs = [.int c, .int p] ∧ ∀ r : Int, Q (.int r) H
noncomputable def sp_law_word (K : PySem.W.Frag) (g : Ga) : Sp := fun vs H Q E => ∃ n : Int, vs = [.int n] ∧ ∀ z : Str, gw z = true → Q (.str z) H
noncomputable def sp_law_model (K : PySem.W.Frag) (g : Ga) : Sp := fun vs H Q E => ∃ y : Int, vs = [.int y] ∧ ∀ m R H', Same H H' → (∀ a ∈ R, H a = none) → MoAt H' m (mo0 y) R → Q (.ref m) H'
noncomputable def sp_law_kids (K : PySem.W.Frag) (g : Ga) : Sp := fun vs H Q E => ∃ (m : Addr) (S : Mo) (R : List Addr) (n : Str), vs = [.ref m, .str n] ∧ MoAt H m S R ∧ Wf S.bs S.ds ∧ n.length ≤ 200 ∧ nk S.bs n ≤ 100 ∧ ∀ l H', Same H H' → H l = none → H' l = some (.lst (kidV n (nk S.bs n))) → Q (.ref l) H'
noncomputable def sp_law_living (K : PySem.W.Frag) (g : Ga) : Sp := fun vs H Q E => ∃ (m : Addr) (S : Mo) (R : List Addr), vs = [.ref m] ∧ MoAt H m S R ∧ S.bs.length ≤ 900 ∧ ∀ l H', Same H H' → H l = none → H' l = some (.lst (livV S.bs S.ds)) → Q (.ref l) H'
noncomputable def sp_law_play (K : PySem.W.Frag) (g : Ga) : Sp := fun vs H Q E => ∃ (m : Addr) (S : Mo) (R : List Addr) (p : Addr) (d : Deed) (far : Int) (k : Nat), vs = [.ref m, .ref p] ∧ MoAt H m S R ∧ H p = some (.tup d.vals) ∧ S.Ok k ∧ k < 98 ∧ S.good far d ∧ ∀ H', Keep R H H' → MoAt H' m (S.step d) R → Q .non H'
noncomputable def sp_law_next_deed (K : PySem.W.Frag) (g : Ga) : Sp := fun vs H Q E => ∃ (m : Addr) (S : Mo) (R : List Addr) (n far : Int), vs = [.ref m, .int n, .int far] ∧ MoAt H m S R ∧ S.bs.length ≤ 900 ∧ 0 < far ∧ (∀ d p H', S.good far d → Same H H' → H p = none → H' p = some (.tup d.vals) → Q (.ref p) H')
noncomputable def sp_law_start (K : PySem.W.Frag) (g : Ga) : Sp := fun vs H Q E => ∃ n : Int, vs = [.int n] ∧ ∀ l was ps H', Same H H' → (∀ a ∈ l :: ps, H a = none) → First was → was ≠ [] → DeedsAt H' l (was.map arr) ps → Q (.ref l) H'
noncomputable def sp_law_do (K : PySem.W.Frag) (g : Ga) : Sp := fun vs H Q E => ∃ (w : Addr) (S : Mo) (R : List Addr) (p : Addr) (d : Deed) (far : Int) (k : Nat), vs = [.ref w, .ref p] ∧ WorldAt g H w S R ∧ H p = some (.tup d.vals) ∧ S.Ok k ∧ k < 98 ∧ S.good far d ∧ far ≤ 60 ∧ ∀ v R' H', Keep R H H' → Grow H R R' → WorldAt g H' w (S.step d) R' → Q v H'
noncomputable def sp_law_path (K : PySem.W.Frag) (g : Ga) : Sp := fun vs H Q E => ∃ (m : Addr) (S : Mo) (R : List Addr) (n : Int), vs = [.ref m, .int n] ∧ MoAt H m S R ∧ Wf S.bs S.ds ∧ S.bs.length ≤ 98 ∧ Root S ∧ ∀ z H', Same H H' → pok z = true → nr S.bs z ≠ Str.empty → Q (.str z) H'
noncomputable def sp_law_need (K : PySem.W.Frag) (g : Ga) : Sp := fun vs H Q E => ∃ (m : Addr) (S : Mo) (R : List Addr) (n : Int), vs = [.ref m, .int n] ∧ MoAt H m S R ∧ Wf S.bs S.ds ∧ S.bs.length ≤ 98 ∧ Root S ∧ ∀ (t : Atm) p H', Same H H' → H p = none → H' p = some (.tup t.vals) → t.ok S → Q (.ref p) H'
noncomputable def sp_law_needs (K : PySem.W.Frag) (g : Ga) : Sp := fun vs H Q E => ∃ (m : Addr) (S : Mo) (R : List Addr) (n most : Int), vs = [.ref m, .int n, .int most] ∧ MoAt H m S R ∧ Wf S.bs S.ds ∧ S.bs.length ≤ 98 ∧ Root S ∧ 0 ≤ most ∧ most ≤ 100 ∧ ∀ l ts ps H', Same H H' → (∀ a ∈ l :: ps, H a = none) → AtmsAt H' l ts ps → (∀ t ∈ ts, t.ok S) → (ts.length : Int) ≤ most → Q (.ref l) H'
noncomputable def sp_law_near (K : PySem.W.Frag) (g : Ga) : Sp := fun vs H Q E => ∃ (m : Addr) (S : Mo) (RM : List Addr) (n : Str), vs = [.ref m, .str n] ∧ MoAt H m S RM ∧ n.length ≤ 200 ∧ Q (.str (nr S.bs n)) H
noncomputable def sp_law_age (K : PySem.W.Frag) (g : Ga) : Sp := fun vs H Q E => ∃ (m : Addr) (S : Mo) (R : List Addr) (n : Str) (y : Int), vs = [.ref m, .str n] ∧ MoAt H m S R ∧ yr S.bs n = some y ∧ Q (.int ((yr S.ds n).getD S.y - y)) H
noncomputable def sp_law_atom (K : PySem.W.Frag) (g : Ga) : Sp := fun vs H Q E => ∃ (m : Addr) (S : Mo) (R : List Addr) (p : Addr) (t : Atm), vs = [.ref m, .ref p] ∧ MoAt H m S R ∧ H p = some (.tup t.vals) ∧ t.bad S = none ∧ Wf S.bs S.ds ∧ (∀ n, t.who = some n → n.length ≤ 200) ∧ ∀ H', Same H H' → Q (.str (t.stand S)) H'
noncomputable def sp_law_fold (K : PySem.W.Frag) (g : Ga) : Sp := fun vs H Q E => ∃ (l : Addr) (ss : List Str), vs = [.ref l] ∧ SqL K H l (ss.map V.str) ∧ Q (.str (foldS ss)) H
noncomputable def sp_law_members (K : PySem.W.Frag) (g : Ga) : Sp := fun vs H Q E => ∃ (m : Addr) (S : Mo) (R : List Addr) (n : Str) (o : Addr) (os : List Str), vs = [.ref m, .str n, .ref o] ∧ MoAt H m S R ∧ SqL K H o (os.map V.str) ∧ Wf S.bs S.ds ∧ S.bs.length ≤ 98 ∧ n.length ≤ 200 ∧ ∀ l H', Same H H' → H l = none → H' l = some (.lst ((memL S n os).map V.str)) → Q (.ref l) H'
noncomputable def sp_law_young (K : PySem.W.Frag) (g : Ga) : Sp := fun vs H Q E => ∃ (m : Addr) (S : Mo) (R : List Addr) (n : Str) (a : Int) (o : Addr) (os : List Str), vs = [.ref m, .str n, .int a, .ref o] ∧ MoAt H m S R ∧ SqL K H o (os.map V.str) ∧ Wf S.bs S.ds ∧ S.bs.length ≤ 98 ∧ n.length ≤ 200 ∧ ∀ l H', Same H H' → H l = none → H' l = some (.lst ((waitL S n a os).map V.str)) → Q (.ref l) H'
noncomputable def sp_law_seated (K : PySem.W.Frag) (g : Ga) : Sp := fun vs H Q E => ∃ (m : Addr) (S : Mo) (R : List Addr) (n : Str) (a : Int) (o : Addr) (os : List Str), vs = [.ref m, .str n, .int a, .ref o] ∧ MoAt H m S R ∧ SqL K H o (os.map V.str) ∧ Wf S.bs S.ds ∧ S.bs.length ≤ 98 ∧ n.length ≤ 200 ∧ ∀ l H', Same H H' → H l = none → H' l = some (.lst ((seatL S n a os).map V.str)) → Q (.ref l) H'
noncomputable def sp_law_class (K : PySem.W.Frag) (g : Ga) : Sp := fun vs H Q E => ∃ (m : Addr) (S : Mo) (R : List Addr) (n : Str) (a : Int) (o : Addr) (os : List Str), vs = [.ref m, .str n, .int a, .ref o] ∧ MoAt H m S R ∧ SqL K H o (os.map V.str) ∧ Wf S.bs S.ds ∧ S.bs.length ≤ 98 ∧ okN S n ∧ ∀ H', Same H H' → Q (.str (clS S n a os)) H'
noncomputable def sp_law_whole (K : PySem.W.Frag) (g : Ga) : Sp := fun vs H Q E => ∃ (m : Addr) (S : Mo) (R : List Addr) (p l o : Addr) (h : Ho) (ts : List Atm) (ps : List Addr), vs = [.ref m, .ref p, .ref l, .ref o] ∧ MoAt H m S R ∧ H p = some (.tup h.vals) ∧ h.ok S ∧ AtmsAt H l ts ps ∧ (∀ t ∈ ts, t.ok S) ∧ ts.length ≤ 100 ∧ H o = some (.lst ((h.out S).map V.str)) ∧ Wf S.bs S.ds ∧ S.bs.length ≤ 98 ∧ ∀ s H', Same H H' → Q (.str s) H'
noncomputable def sp_law_out (K : PySem.W.Frag) (g : Ga) : Sp := fun vs H Q E => ∃ (m : Addr) (S : Mo) (R : List Addr) (p : Addr) (h : Ho), vs = [.ref m, .ref p] ∧ MoAt H m S R ∧ H p = some (.tup h.vals) ∧ h.ok S ∧ Wf S.bs S.ds ∧ S.bs.length ≤ 98 ∧ ∀ l H', Same H H' → H l = none → H' l = some (.lst ((h.out S).map V.str)) → Q (.ref l) H'
noncomputable def sp_law_holder (K : PySem.W.Frag) (g : Ga) : Sp := fun vs H Q E => ∃ (m : Addr) (S : Mo) (R : List Addr) (n : Int), vs = [.ref m, .int n] ∧ MoAt H m S R ∧ Wf S.bs S.ds ∧ S.bs.length ≤ 98 ∧ Root S ∧ ∀ (h : Ho) p H', Same H H' → H p = none → H' p = some (.tup h.vals) → h.ok S → Q (.ref p) H'
noncomputable def sp_law_first_end (K : PySem.W.Frag) (g : Ga) : Sp := fun vs H Q E => ∃ (m : Addr) (S : Mo) (R : List Addr) (p l o : Addr) (h : Ho) (ts : List Atm) (ps : List Addr), vs = [.ref m, .ref p, .ref l, .ref o] ∧ MoAt H m S R ∧ H p = some (.tup h.vals) ∧ h.ok S ∧ AtmsAt H l ts ps ∧ (∀ t ∈ ts, t.ok S) ∧ ts.length ≤ 100 ∧ H o = some (.lst ((h.out S).map V.str)) ∧ Wf S.bs S.ds ∧ S.bs.length ≤ 98 ∧ ∀ M H', FEnd S h ts M → Same H H' → Q (.int M) H'
noncomputable def sp_law_judged_row (K : PySem.W.Frag) (g : Ga) : Sp := fun vs H Q E => ∃ (m : Addr) (S : Mo) (R : List Addr) (n : Int), vs = [.ref m, .int n] ∧ MoAt H m S R ∧ Wf S.bs S.ds ∧ S.bs.length ≤ 98 ∧ Root S ∧ ∀ (h : Ho) (ts : List Atm) (ps : List Addr) r p l H', Same H H' → H' r = some (.tup [.ref p, .ref l]) → H' p = some (.tup h.vals) → h.ok S → AtmsAt H' l ts ps → (∀ t ∈ ts, t.ok S) → ts.length ≤ 6 → Q (.ref r) H'
noncomputable def sp_law (K : PySem.W.Frag) (g : Ga) : Sp := fun vs H Q E => ∃ (a : Addr) (ns : List Int), vs = [.ref a] ∧ SqL K H a (ns.map V.int) ∧ ns.length ≤ 63 ∧ ∀ H', Q (.bl true) H'
section
variable {P : Program} {w0 : World} {K : PySem.W.Frag} {g : Ga} {mg : Str → Option Value} {base : Heap}
theorem ok_Lives_known {f : Addr} {fd : FuncData} (F : Fun K "known" "Lives.known" s_Lives_known f fd) (T : Txt K g mg)  : FnOk P w0 K mg base CX0 1 f fd ["self", "name"] (sp_Lives_known K g) := by
  refine F.ok sc_Lives_known (fun vs H Q E h => ?_) (fun cdv A outer s H vs Q E hr h => ?_)
  · obtain ⟨b, bs, ds, R, n, rfl, _⟩ := h
    rfl
  obtain ⟨b, bs, ds, R, n, rfl, L, q⟩ := h
  refine ⟨_, (
(@pss_one _ _ _ (@ps_ret _ _ _ _ (@pe_cmp _ _ _ _ _ _ (@pc_din _ _ _ _ _ (hu_of hr) (@qv _ 1 _ _ (by walk_at "w")) (@pe_fld _ _ _ _ _ (@qv _ 0 _ _ (by walk_at "w")) rfl)) (by walk_at "n"))))), ?_⟩
  obtain ⟨d1, d2, d3, ws, B, k1, k2, eR⟩ := id L.ex
  obtain ⟨dx, hb⟩ := B.obj
  refine ⟨_, rfl, _, rfl, b, _, dx, _, _, rfl, hb, T.cl_Lives, T.n_Lives_births, rfl, d1, _, rfl, B.births n, ?_⟩
  rw [valV_has]
  exact q
theorem ok_Lives_want_known {f : Addr} {fd : FuncData} (F : Fun K "want_known" "Lives.want_known" s_Lives_want_known f fd) (T : Txt K g mg) (D_Lives_known : Dm P w0 K mg base CX0 g.Lives 1 "known" ["self", "name"] (sp_Lives_known K g)) : FnOk P w0 K mg base (CXR P w0 base) 2 f fd ["self", "name"] (sp_Lives_want_known K g) := by
  refine F.okX sc_Lives_want_known (fun vs H Q E h => ?_) (fun cdv A outer s H vs Q E hr h => ?_)
  · obtain ⟨b, bs, ds, R, n, rfl, _⟩ := h
    rfl
  obtain ⟨b, bs, ds, R, n, rfl, L, qe, q⟩ := h
  refine ⟨_, (
(@pss_one _ _ _ (@ps_if _ _ _ _ _ _ _ _ (@pt_not _ _ _ _ (@pt_val _ _ _ (@pe_mt _ _ _ _ _ _ _ _ _ _ _ _ _ _ _ _ pass0 D_Lives_known (hr.mono (by decide)) (@qv _ 0 _ _ (by walk_at "w")) (@pa_cons _ _ _ _ _ (@qv _ 1 _ _ (by walk_at "w")) (@pa_nil _) (by rfl)) (by rfl) (by rfl) (by rfl)) (by intro _ ; rfl))) (@pss_one _ _ _ (@ps_raise _ _ _ _ _ _ _ _ _ _ _ _ _ _ _ _ _ _ _ _ _ _ T.x_NoPerson.x T.m_NoPerson (@pe_str _ _ _ _) (by rfl) (by rfl) (by decide))) (@pss_nil _)))), ?_⟩
  obtain ⟨d1, d2, d3, ws, B, k1, k2, eR⟩ := id L.ex
  obtain ⟨dx, hb⟩ := B.obj
  refine ⟨_, rfl, b, dx, _, rfl, hb, rfl, _, rfl, b, bs, ds, R, n, rfl, L, _, rfl, ?_⟩
  cases e : has bs n with
  | false => exact iteT ⟨rfl, qe e⟩
  | true => exact iteF (q e)
theorem ok_Lives_age_in {f : Addr} {fd : FuncData} (F : Fun K "age_in" "Lives.age_in" s_Lives_age_in f fd) (T : Txt K g mg) (D_Lives_want_known : Dm P w0 K mg base (CXR P w0 base) g.Lives 2 "want_known" ["self", "name"] (sp_Lives_want_known K g)) : FnOk P w0 K mg base (CXR P w0 base) 3 f fd ["self", "name", "year"] (sp_Lives_age_in K g) := by
  refine F.okX sc_Lives_age_in (fun vs H Q E h => ?_) (fun cdv A outer s H vs Q E hr h => ?_)
  · obtain ⟨b, bs, ds, R, n, t, rfl, _⟩ := h
    rfl
  obtain ⟨b, bs, ds, R, n, t, rfl, L, q1, q⟩ := h
  refine ⟨_, (
(@pss_cons _ _ _ _ _ (@ps_expr _ _ _ _ (@pe_mt _ _ _ _ _ _ _ _ _ _ _ _ _ _ _ _ passR D_Lives_want_known (hr.mono (by decide)) (@qv _ 0 _ _ (by walk_at "w")) (@pa_cons _ _ _ _ _ (@qv _ 1 _ _ (by walk_at "w")) (@pa_nil _) (by rfl)) (by rfl) (by rfl) (by rfl)) (by rfl)) (@pss_one _ _ _ (@ps_ret _ _ _ _ (@pe_op _ _ _ _ _ _ _ _ (@op_sub _) (@pe_dget2 _ _ _ _ _ _ _ _ _ (hu_of hr) (@pe_fld _ _ _ _ _ (@qv _ 0 _ _ (by walk_at "w")) rfl) (@qv _ 1 _ _ (by walk_at "w")) (@qv _ 2 _ _ (by walk_at "w")) ⟨rfl, rfl, rfl, rfl⟩) (@pe_dget _ _ _ _ _ _ (hu_of hr) (@pe_fld _ _ _ _ _ (@qv _ 0 _ _ (by walk_at "w")) rfl) (@qv _ 1 _ _ (by walk_at "w")) (fun _ _ => rfl))))))), ?_⟩
  obtain ⟨d1, d2, d3, ws, B, k1, k2, eR⟩ := id L.ex
  obtain ⟨dx, hb⟩ := B.obj
  refine ⟨_, rfl, b, dx, _, rfl, hb, rfl, _, rfl, b, bs, ds, R, n, rfl, L, q1, fun hn => ?_⟩
  have hn' := hn
  unfold has at hn'
  cases hy : yr bs n with
  | none => rw [hy] at hn'; cases hn'
  | some y =>
    have g0 := B.births n
    rw [valV_yrs, hy] at g0
    have g1 := B.deaths n
    rw [valV_yrs] at g1
    refine ⟨_, rfl, b, _, dx, _, _, rfl, hb, T.cl_Lives, T.n_Lives_deaths, rfl, d2, rfl, .inl ⟨_, .inl B.h2⟩, _, rfl, _, rfl, _, g1, _, rfl, b, _, dx, _, _, rfl, hb, T.cl_Lives, T.n_Lives_births, rfl, _, rfl, d1, _, rfl, g0, (yr ds n).getD t, y, ?_, rfl, q y hy⟩
    cases yr ds n <;> rfl
theorem ok_World_age {f : Addr} {fd : FuncData} (F : Fun K "age" "World.age" s_World_age f fd) (T : Txt K g mg) (D_Lives_age_in : Dm P w0 K mg base (CXR P w0 base) g.Lives 3 "age_in" ["self", "name", "year"] (sp_Lives_age_in K g)) : FnOk P w0 K mg base (CXR P w0 base) 4 f fd ["self", "name"] (sp_World_age K g) := by
  refine F.okX sc_World_age (fun vs H Q E h => ?_) (fun cdv A outer s H vs Q E hr h => ?_)
  · obtain ⟨w, S, R, n, rfl, _⟩ := h
    rfl
  obtain ⟨w, S, R, n, rfl, W, q0, q⟩ := h
  refine ⟨_, (
(@pss_one _ _ _ (@ps_ret _ _ _ _ (@pe_mt _ _ _ _ _ _ _ _ _ _ _ _ _ _ _ _ passR D_Lives_age_in (hr.mono (by decide)) (@pe_fld _ _ _ _ _ (@qv _ 0 _ _ (by walk_at "w")) rfl) (@pa_cons _ _ _ _ _ (@qv _ 1 _ _ (by walk_at "w")) (@pa_cons _ _ _ _ _ (@pe_fld _ _ _ _ _ (@qv _ 0 _ _ (by walk_at "w")) rfl) (@pa_nil _) (by rfl)) (by rfl)) (by rfl) (by rfl) (by rfl))))), ?_⟩
  obtain ⟨dx, b, hd, RL, hw, L, hh, eR, n1, n2⟩ := W.ex
  obtain ⟨dy, y1, y2, y3, hb⟩ := L.obj
  exact ⟨_, rfl, w, _, dx, _, _, rfl, hw, T.cl_World, T.n_World_lives, rfl, b, dy, _, rfl, hb, rfl, _, rfl, _, rfl, w, _, dx, _, _, rfl, hw, T.cl_World, T.n_World_year, rfl, b, S.bs, S.ds, RL, n, _, rfl, L, q0, q⟩
theorem ok_Lives_alive {f : Addr} {fd : FuncData} (F : Fun K "alive" "Lives.alive" s_Lives_alive f fd) (T : Txt K g mg)  : FnOk P w0 K mg base CX0 1 f fd ["self", "name"] (sp_Lives_alive K g) := by
  refine F.ok sc_Lives_alive (fun vs H Q E h => ?_) (fun cdv A outer s H vs Q E hr h => ?_)
  · obtain ⟨b, bs, ds, R, n, rfl, _⟩ := h
    rfl
  obtain ⟨b, bs, ds, R, n, rfl, L, q⟩ := h
  refine ⟨_, (
(@pss_one _ _ _ (@ps_ret _ _ _ _ (@pe_and _ _ _ _ _ _ _ (@pe_cmp _ _ _ _ _ _ (@pc_din _ _ _ _ _ (hu_of hr) (@qv _ 1 _ _ (by walk_at "w")) (@pe_fld _ _ _ _ _ (@qv _ 0 _ _ (by walk_at "w")) rfl)) (by walk_at "n")) (@pe_one _ _ _ _ _ (@pe_cmp _ _ _ _ _ _ (@pc_dnotin _ _ _ _ _ (hu_of hr) (@qv _ 1 _ _ (by walk_at "w")) (@pe_fld _ _ _ _ _ (@qv _ 0 _ _ (by walk_at "w")) rfl)) (by walk_at "n"))))))), ?_⟩
  obtain ⟨d1, d2, d3, ws, B, k1, k2, eR⟩ := id L.ex
  obtain ⟨dx, hb⟩ := B.obj
  refine ⟨_, rfl, _, rfl, b, _, dx, _, _, rfl, hb, T.cl_Lives, T.n_Lives_births, rfl, d1, _, rfl, B.births n, _, rfl, ?_⟩
  unfold al at q
  rw [valV_has]
  cases e : has bs n with
  | false =>
    rw [e] at q
    exact iteF q
  | true =>
    rw [e] at q
    refine iteT ⟨_, rfl, _, rfl, b, _, dx, _, _, rfl, hb, T.cl_Lives, T.n_Lives_deaths, rfl, d2, _, rfl, B.deaths n, ?_⟩
    rw [valV_has]
    exact q
theorem ok_age_stand {f : Addr} {fd : FuncData} (F : Fun K "age_stand" "age_stand" s_age_stand f fd) (T : Txt K g mg) (D_World_age : Dm P w0 K mg base (CXR P w0 base) g.World 4 "age" ["self", "name"] (sp_World_age K g)) (D_Lives_alive : Dm P w0 K mg base CX0 g.Lives 1 "alive" ["self", "name"] (sp_Lives_alive K g)) : FnOk P w0 K mg base CX0 5 f fd ["world", "name", "age"] (sp_age_stand K g) := by
  refine F.ok sc_age_stand (fun vs H Q E h => ?_) (fun cdv A outer s H vs Q E hr h => ?_)
  · obtain ⟨w, S, R, n, a, y, rfl, _⟩ := h
    rfl
  obtain ⟨w, S, R, n, a, y, rfl, W, hk, hy, q⟩ := h
  refine ⟨_, (
(@pss_cons _ _ _ _ _ (@ps_if _ _ _ _ _ _ _ _ (@pt_cmpR _ _ _ _ _ _ _ _ (@op_ge _) (@pe_mt _ _ _ _ _ _ _ _ _ _ _ _ _ _ _ _ passF D_World_age (hr.mono (by decide)) (@qv _ 0 _ _ (by walk_at "w")) (@pa_cons _ _ _ _ _ (@qv _ 1 _ _ (by walk_at "w")) (@pa_nil _) (by rfl)) (by rfl) (by rfl) (by rfl)) (@qv _ 2 _ _ (by walk_at "w")) (nomark _)) (@pss_one _ _ _ (@ps_ret _ _ _ _ (@pe_glob _ _ (.str "met") _ _ rfl T.m_MET ⟨_, rfl⟩ (by decide)))) (@pss_nil _)) (@pss_one _ _ _ (@ps_ret _ _ _ _ (@pe_ifExp _ _ _ _ _ _ _ _ (@pt_val _ _ _ (@pe_mt _ _ _ _ _ _ _ _ _ _ _ _ _ _ _ _ pass0 D_Lives_alive (hr.mono (by decide)) (@pe_fld _ _ _ _ _ (@qv _ 0 _ _ (by walk_at "w")) rfl) (@pa_cons _ _ _ _ _ (@qv _ 1 _ _ (by walk_at "w")) (@pa_nil _) (by rfl)) (by rfl) (by rfl) (by rfl)) (by intro _ ; rfl)) (@pe_glob _ _ (.str "hangs") _ _ rfl T.m_HANGS ⟨_, rfl⟩ (by decide)) (@pe_glob _ _ (.str "failed") _ _ rfl T.m_FAILED ⟨_, rfl⟩ (by decide))))))), ?_⟩
  obtain ⟨dx, b, hd, RL, hw, L, hh, eR, n1, n2⟩ := W.ex
  obtain ⟨dy, y1, y2, y3, hb⟩ := L.obj
  refine ⟨_, rfl, w, dx, _, rfl, hw, rfl, _, rfl, w, S, R, n, rfl, W, (fun e => by rw [hk] at e; cases e), fun y1 e1 => ?_⟩
  obtain rfl : y = y1 := Option.some.inj (hy.symm.trans e1)
  refine ⟨_, rfl, _, _, rfl, rfl, _, rfl, ite2 (fun c => ?_) (fun c => ?_)⟩
  · have c' : a ≤ ageOf S n y := of_decide_eq_true c
    unfold stAge at q
    rw [if_pos c'] at q
    exact q
  · have c' : ¬ a ≤ ageOf S n y := fun z => c (decide_eq_true z)
    unfold stAge at q
    rw [if_neg c'] at q
    refine ⟨_, rfl, w, _, dx, _, _, rfl, hw, T.cl_World, T.n_World_lives, rfl, b, dy, _, rfl, hb, rfl, _, rfl, b, S.bs, S.ds, RL, n, rfl, L, ?_⟩
    have e2 : al S.bs S.ds n = !has S.ds n := by unfold al; rw [hk]; rfl
    rw [e2]
    cases hx : has S.ds n with
    | true => rw [hx] at q; exact ⟨_, rfl, q⟩
    | false => rw [hx] at q; exact ⟨_, rfl, q⟩
theorem ok_Lives_children {f : Addr} {fd : FuncData} (F : Fun K "children" "Lives.children" s_Lives_children f fd) (T : Txt K g mg) (D_Lives_want_known : Dm P w0 K mg base (CXR P w0 base) g.Lives 2 "want_known" ["self", "name"] (sp_Lives_want_known K g)) : FnOk P w0 K mg base (CXR P w0 base) 3 f fd ["self", "name"] (sp_Lives_children K g) := by
  refine F.okX sc_Lives_children (fun vs H Q E h => ?_) (fun cdv A outer s H vs Q E hr h => ?_)
  · obtain ⟨b, bs, ds, R, n, rfl, _⟩ := h
    rfl
  obtain ⟨b, bs, ds, R, n, rfl, L, q1, q⟩ := h
  refine ⟨_, (
(@pss_cons _ _ _ _ _ (@ps_expr _ _ _ _ (@pe_mt _ _ _ _ _ _ _ _ _ _ _ _ _ _ _ _ passR D_Lives_want_known (hr.mono (by decide)) (@qv _ 0 _ _ (by walk_at "w")) (@pa_cons _ _ _ _ _ (@qv _ 1 _ _ (by walk_at "w")) (@pa_nil _) (by rfl)) (by rfl) (by rfl) (by rfl)) (by rfl)) (@pss_one _ _ _ (@ps_ret _ _ _ _ (@pe_callTy _ _ _ _ _ _ _ _ _ (show CallR _ (.type "list") (rListS K) from (@call_listS _)) rfl T.z_list PyProof.Rows.boot_list (@pa_cons _ _ _ _ _ (@pe_dget _ _ _ _ _ _ (hu_of hr) (@pe_fld _ _ _ _ _ (@qv _ 0 _ _ (by walk_at "w")) rfl) (@qv _ 1 _ _ (by walk_at "w")) (fun _ _ => rfl)) (@pa_nil _) (by rfl)) (by decide) (by decide) (by rfl) (by rfl)))))), ?_⟩
  obtain ⟨d1, d2, d3, ws, B, k1, k2, eR⟩ := id L.ex
  obtain ⟨dx, hb⟩ := B.obj
  refine ⟨_, rfl, b, dx, _, rfl, hb, rfl, _, rfl, b, bs, ds, R, n, rfl, L, q1, fun hn => ?_⟩
  obtain ⟨a, hw⟩ := bro_of k1 k2 hn
  have g0 : DGet H d3 (.str n) (valV (brs ws) (Sum.inr n : Key)) := DGet.k (k := Sum.inr n) B.h3
  rw [valV_brs, hw] at g0
  exact ⟨_, rfl, b, _, dx, _, _, rfl, hb, T.cl_Lives, T.n_Lives_broods, rfl, _, rfl, d3, _, rfl, g0, a, _, rfl, .inl (SqL.of (B.kids _ (bro_mem hw))), fun l hl => q hn l _ (same_new hl _) hl upd_same⟩
theorem ok_brood {f : Addr} {fd : FuncData} (F : Fun K "brood" "brood" s_brood f fd) (T : Txt K g mg) (D_Lives_known : Dm P w0 K mg base CX0 g.Lives 1 "known" ["self", "name"] (sp_Lives_known K g)) (D_Lives_children : Dm P w0 K mg base (CXR P w0 base) g.Lives 3 "children" ["self", "name"] (sp_Lives_children K g)) : FnOk P w0 K mg base CX0 4 f fd ["world", "name"] (sp_brood K g) := by
  refine F.ok sc_brood (fun vs H Q E h => ?_) (fun cdv A outer s H vs Q E hr h => ?_)
  · obtain ⟨w, S, R, n, rfl, _⟩ := h
    rfl
  obtain ⟨w, S, R, n, rfl, W, q⟩ := h
  refine ⟨_, (
(@pss_one _ _ _ (@ps_ret _ _ _ _ (@pe_ifExp _ _ _ _ _ _ _ _ (@pt_val _ _ _ (@pe_mt _ _ _ _ _ _ _ _ _ _ _ _ _ _ _ _ pass0 D_Lives_known (hr.mono (by decide)) (@pe_fld _ _ _ _ _ (@qv _ 0 _ _ (by walk_at "w")) rfl) (@pa_cons _ _ _ _ _ (@qv _ 1 _ _ (by walk_at "w")) (@pa_nil _) (by rfl)) (by rfl) (by rfl) (by rfl)) (by intro _ ; rfl)) (@pe_mt _ _ _ _ _ _ _ _ _ _ _ _ _ _ _ _ passF D_Lives_children (hr.mono (by decide)) (@pe_fld _ _ _ _ _ (@qv _ 0 _ _ (by walk_at "w")) rfl) (@pa_cons _ _ _ _ _ (@qv _ 1 _ _ (by walk_at "w")) (@pa_nil _) (by rfl)) (by rfl) (by rfl) (by rfl)) (@pe_lst _ _ _ _ (@pa_nil _)))))), ?_⟩
  obtain ⟨dx, b, hd, RL, hw, L, hh, eR, n1, n2⟩ := W.ex
  obtain ⟨dy, y1, y2, y3, hb⟩ := L.obj
  have wf := W.wf
  walk_at "go"
  cases hk : has S.bs n with
  | true =>
    refine iteT ?_
    walk_at "go"
    refine ⟨(fun e => by rw [hk] at e; cases e), fun _ l H' s f0 h => q l H' s f0 (by rw [h, kidVL]; rfl)⟩
  | false =>
    refine iteF ?_
    exact ⟨Nat.zero_le _, fun l hl => q l _ (same_new hl _) hl (by rw [upd_same, kidsOf_none wf hk]; rfl)⟩
theorem ok_left_out {f : Addr} {fd : FuncData} (F : Fun K "left_out" "left_out" s_left_out f fd) (T : Txt K g mg) (D_brood : Dn P w0 K mg base 4 "brood" ["world", "name"] (sp_brood K g)) (D_Lives_alive : Dm P w0 K mg base CX0 g.Lives 1 "alive" ["self", "name"] (sp_Lives_alive K g)) : FnOk P w0 K mg base CX0 5 f fd ["world", "name"] (sp_left_out K g) := by
  refine F.ok sc_left_out (fun vs H Q E h => ?_) (fun cdv A outer s H vs Q E hr h => ?_)
  · obtain ⟨w, S, R, n, rfl, _⟩ := h
    rfl
  obtain ⟨w, S, R, n, rfl, W, hlen, q⟩ := h
  refine ⟨_, (
(@pss_one _ _ _ (@ps_ret _ _ _ _ (@pe_lc _ _ _ ("child") _ _ _ ([("world", s.heap.objs.size + 1)]) _ ([("world", 0)]) _ _ _ rfl (@pi_list _ _ _ _ (@pe_fn _ _ _ _ _ _ _ _ _ _ D_brood (hr.mono (by decide)) (@pa_cons _ _ _ _ _ (@qv _ 0 _ _ (by walk_at "w")) (@pa_cons _ _ _ _ _ (@qv _ 1 _ _ (by walk_at "w")) (@pa_nil _) (by rfl)) (by rfl)) (by rfl) (by decide) (by rfl) (by rfl))) (fun _ _ _ _ _ => (@pifs_one _ _ _ (@pt_not _ _ _ _ (@pt_val _ _ _ (@pe_mt _ _ _ _ _ _ _ _ _ _ _ _ _ _ _ _ pass0 D_Lives_alive (hr.mono (by decide)) (show PE _ _ (tFld K (tVar 1) "lives") from (@pe_fld _ _ _ _ _ (@qv _ 1 _ _ (by walk_at "w")) rfl)) (@pa_cons _ _ _ _ _ (@qv _ 0 _ _ (by walk_at "w")) (@pa_nil _) (by rfl)) (by rfl) (by rfl) (by rfl)) (by intro _ ; rfl))))) (fun _ _ _ _ _ => (@qv _ 0 _ _ (by walk_at "w"))) rfl (by decide +kernel) rfl (by decide +kernel) rfl (fun _ _ h => h) (has_of rfl) (fun p hp => by rw [List.mem_singleton.mp hp]; exact ⟨rfl, rfl, by first | exact .inl rfl | exact .inr rfl⟩) (by decide +kernel) (by intro _ ; rfl))))), ?_⟩
  have wf := W.wf
  unfold tRet
  refine lcS (ss := kidsOf S n) (fun l1 H1 => Same H H1 ∧ H1 l1 = some (.lst ((kidsOf S n).map V.str)) ∧ H l1 = none) (fun c => !al S.bs S.ds c) V.str ?_ (fun a H1 h => SqL.of h.2.1) (by have := kidsOf_len wf n; omega) ?_ ?_ ?_
  · intro R0 r
    walk_at "go"
    exact fun l H' s f h => r l H' ⟨s, h, f⟩
  · rintro a0 H1 x H2 ⟨s1, h1, _⟩ hx s R0 r
    obtain ⟨dx, b, hd, RL, hw, L, hh, eR, n1, n2⟩ := (W.same (s1.trans s)).ex
    obtain ⟨dy, y1, y2, y3, hb⟩ := L.obj
    walk_at "go"
    exact r H2 (Same.refl _)
  · exact fun a H1 x H2 _ hx _ s R0 r => ⟨_, rfl, r H2 (Same.refl _)⟩
  · rintro a0 H1 D H2 ⟨s1, h1, _⟩ hD s h
    exact q D H2 (s1.trans s) (s1.free hD) (by rw [h, out_eq wf])
theorem ok_members {f : Addr} {fd : FuncData} (F : Fun K "members" "members" s_members f fd) (T : Txt K g mg) (D_brood : Dn P w0 K mg base 4 "brood" ["world", "name"] (sp_brood K g)) : FnOk P w0 K mg base CX0 5 f fd ["world", "name", "out"] (sp_members K g) := by
  refine F.ok sc_members (fun vs H Q E h => ?_) (fun cdv A outer s H vs Q E hr h => ?_)
  · obtain ⟨w, S, R, n, o, os, rfl, _⟩ := h
    rfl
  obtain ⟨w, S, R, n, o, os, rfl, W, ho, hlen, q⟩ := h
  refine ⟨_, (
(@pss_one _ _ _ (@ps_ret _ _ _ _ (@pe_lc _ _ _ ("child") _ _ _ ([("out", s.heap.objs.size + 1)]) _ ([("out", 2)]) _ _ _ rfl (@pi_list _ _ _ _ (@pe_fn _ _ _ _ _ _ _ _ _ _ D_brood (hr.mono (by decide)) (@pa_cons _ _ _ _ _ (@qv _ 0 _ _ (by walk_at "w")) (@pa_cons _ _ _ _ _ (@qv _ 1 _ _ (by walk_at "w")) (@pa_nil _) (by rfl)) (by rfl)) (by rfl) (by decide) (by rfl) (by rfl))) (fun _ _ _ _ _ => (@pifs_one _ _ _ (@pt_cmpR _ _ _ _ _ _ _ _ (show OpR _ (compareOp .NotIn) (rIn K true) from (@op_notIn_seq _)) (@qv _ 0 _ _ (by walk_at "w")) (@qv _ 1 _ _ (by walk_at "w")) rfl))) (fun _ _ _ _ _ => (@qv _ 0 _ _ (by walk_at "w"))) rfl (by decide +kernel) rfl (by decide +kernel) rfl (fun _ _ h => h) (has_of rfl) (fun p hp => by rw [List.mem_singleton.mp hp]; exact ⟨rfl, rfl, by first | exact .inl rfl | exact .inr rfl⟩) (by decide +kernel) (by intro _ ; rfl))))), ?_⟩
  have wf := W.wf
  unfold tRet
  refine lcS (ss := kidsOf S n) (fun l1 H1 => Same H H1 ∧ H1 l1 = some (.lst ((kidsOf S n).map V.str)) ∧ H l1 = none) (fun c => !decide (c ∈ os)) V.str ?_ (fun a H1 h => SqL.of h.2.1) (by have := kidsOf_len wf n; omega) ?_ ?_ ?_
  · intro R0 r
    walk_at "go"
    exact fun l H' s f h => r l H' ⟨s, h, f⟩
  · rintro a0 H1 x H2 ⟨s1, h1, _⟩ hx s R0 r
    refine ⟨_, rfl, _, rfl, o, _, rfl, .inl ((s1.trans s).seq ho), rfl, flat_strs os, _, rfl, ?_⟩
    rw [show (if true = true then !inV (V.str x) (os.map V.str) else inV (V.str x) (os.map V.str)) = !decide (x ∈ os) from by rw [if_pos rfl, inV_strs]]
    exact r H2 (Same.refl _)
  · exact fun a H1 x H2 _ hx _ s R0 r => ⟨_, rfl, r H2 (Same.refl _)⟩
  · rintro a0 H1 D H2 ⟨s1, h1, _⟩ hD s h
    exact q D H2 (s1.trans s) (s1.free hD) h
theorem ok_has_seat {f : Addr} {fd : FuncData} (F : Fun K "has_seat" "has_seat" s_has_seat f fd) (T : Txt K g mg) (D_members : Dn P w0 K mg base 5 "members" ["world", "name", "out"] (sp_members K g)) (D_World_age : Dm P w0 K mg base (CXR P w0 base) g.World 4 "age" ["self", "name"] (sp_World_age K g)) : FnOk P w0 K mg base CX0 6 f fd ["world", "name", "age", "out"] (sp_has_seat K g) := by
  refine F.ok sc_has_seat (fun vs H Q E h => ?_) (fun cdv A outer s H vs Q E hr h => ?_)
  · obtain ⟨w, S, R, n, a, o, os, rfl, _⟩ := h
    rfl
  obtain ⟨w, S, R, n, a, o, os, rfl, W, ho, hlen, q⟩ := h
  refine ⟨_, (
(@pss_cons _ _ _ _ _ (@ps_for _ _ _ _ _ _ _ _ PassesOwn.never rfl (@pi_list _ _ _ _ (@pe_fn _ _ _ _ _ _ _ _ _ _ D_members (hr.mono (by decide)) (@pa_cons _ _ _ _ _ (@qv _ 0 _ _ (by walk_at "w")) (@pa_cons _ _ _ _ _ (@qv _ 1 _ _ (by walk_at "w")) (@pa_cons _ _ _ _ _ (@qv _ 3 _ _ (by walk_at "w")) (@pa_nil _) (by rfl)) (by rfl)) (by rfl)) (by rfl) (by decide) (by rfl) (by rfl))) (@pg_name _ _ (4) _ sc_has_seat.nd rfl (Or.inl rfl) (by walk_at "u")) (@pss_one _ _ _ (@ps_if _ _ _ _ _ _ _ _ (@pt_cmpR _ _ _ _ _ _ _ _ (@op_ge _) (@pe_mt _ _ _ _ _ _ _ _ _ _ _ _ _ _ _ _ passF D_World_age (hr.mono (by decide)) (@qv _ 0 _ _ (by walk_at "w")) (@pa_cons _ _ _ _ _ (@qv _ 4 _ _ (by walk_at "w")) (@pa_nil _) (by rfl)) (by rfl) (by rfl) (by rfl)) (@qv _ 2 _ _ (by walk_at "w")) (nomark _)) (@pss_one _ _ _ (@ps_ret _ _ _ _ (@pe_bl _ _ _ _))) (@pss_nil _))) (by intro _ ; rfl)) (@pss_one _ _ _ (@ps_ret _ _ _ _ (@pe_bl _ _ _ _))))), ?_⟩
  have wf := W.wf
  refine ⟨_, rfl, _, rfl, _, rfl, w, S, R, n, o, os, rfl, W, ho, hlen, fun l1 H1 s1 f1 h1 => ?_⟩
  refine ⟨l1, rfl, ⟨_, SqL.of h1⟩, for_list (xs := (memL S n os).map V.str) (fun i σ H2 => ∃ v4 : Option V, σ = [some (.ref w), some (.str n), some (.int a), some (.ref o), v4] ∧ Same H1 H2 ∧ ((memL S n os).take i).any (fun c => decide (a ≤ ageS S c)) = false) ⟨_, rfl, Same.refl _, rfl⟩ ?_ ?_ ?_⟩
  · rintro i σ H2 _ ⟨_, rfl, s2, _⟩
    exact SqL.of (s2 _ _ h1)
  · rintro i x σ H2 hx ⟨v4, rfl, s2, no⟩
    rw [List.getElem?_map] at hx
    cases e : (memL S n os)[i]? with
    | none => rw [e] at hx; cases hx
    | some c =>
      rw [e] at hx
      cases hx
      have hm := List.mem_of_getElem? e
      have hk := kidsOf_has wf (memL_sub hm)
      have W2 := (W.same s1).same s2
      obtain ⟨dx, b, hd, RL, hw, L, hh, eR, n1, n2⟩ := W2.ex
      refine ⟨_, rfl, w, dx, _, rfl, hw, rfl, _, rfl, w, S, R, c, rfl, W2, (fun z => by rw [hk] at z; cases z), fun y hy => ?_⟩
      rw [age_yr hy]
      refine ⟨_, rfl, _, _, rfl, rfl, _, rfl, ite2 (fun cc => ?_) (fun cc => ?_)⟩
      · have z : hasSeat S n a os = true := List.any_eq_true.mpr ⟨c, hm, cc⟩
        rw [z] at q
        exact q H2 (s1.trans s2)
      · refine ⟨_, rfl, s2, ?_⟩
        rw [List.take_succ, e, List.any_append, no]
        show (false || ([c].any fun c => decide (a ≤ ageS S c))) = false
        rw [Bool.false_or, List.any_cons, List.any_nil, Bool.or_false]
        exact Bool.eq_false_iff.mpr cc
  · rintro σ H2 ⟨v4, rfl, s2, no⟩
    rw [List.length_map, List.take_length] at no
    have z : hasSeat S n a os = false := no
    rw [z] at q
    exact q H2 (s1.trans s2)
theorem ok_waiting {f : Addr} {fd : FuncData} (F : Fun K "waiting" "waiting" s_waiting f fd) (T : Txt K g mg) (D_members : Dn P w0 K mg base 5 "members" ["world", "name", "out"] (sp_members K g)) (D_age_stand : Dn P w0 K mg base 5 "age_stand" ["world", "name", "age"] (sp_age_stand K g)) : FnOk P w0 K mg base CX0 6 f fd ["world", "name", "age", "out"] (sp_waiting K g) := by
  refine F.ok sc_waiting (fun vs H Q E h => ?_) (fun cdv A outer s H vs Q E hr h => ?_)
  · obtain ⟨w, S, R, n, a, o, os, rfl, _⟩ := h
    rfl
  obtain ⟨w, S, R, n, a, o, os, rfl, W, ho, hlen, q⟩ := h
  refine ⟨_, (
(@pss_one _ _ _ (@ps_ret _ _ _ _ (@pe_lc _ _ _ ("child") _ _ _ ([("world", s.heap.objs.size + 1), ("age", s.heap.objs.size + 2)]) _ ([("world", 0), ("age", 2)]) _ _ _ rfl (@pi_list _ _ _ _ (@pe_fn _ _ _ _ _ _ _ _ _ _ D_members (hr.mono (by decide)) (@pa_cons _ _ _ _ _ (@qv _ 0 _ _ (by walk_at "w")) (@pa_cons _ _ _ _ _ (@qv _ 1 _ _ (by walk_at "w")) (@pa_cons _ _ _ _ _ (@qv _ 3 _ _ (by walk_at "w")) (@pa_nil _) (by rfl)) (by rfl)) (by rfl)) (by rfl) (by decide) (by rfl) (by rfl))) (fun _ _ _ _ _ => (@pifs_one _ _ _ (@pt_cmpR _ _ _ _ _ _ _ _ (@op_eq _) (@pe_fn _ _ _ _ _ _ _ _ _ _ D_age_stand (hr.mono (by decide)) (@pa_cons _ _ _ _ _ (@qv _ 1 _ _ (by walk_at "w")) (@pa_cons _ _ _ _ _ (@qv _ 0 _ _ (by walk_at "w")) (@pa_cons _ _ _ _ _ (@qv _ 2 _ _ (by walk_at "w")) (@pa_nil _) (by rfl)) (by rfl)) (by rfl)) (by rfl) (by decide) (by rfl) (by rfl)) (@pe_glob _ _ (.str "hangs") _ _ rfl T.m_HANGS ⟨_, rfl⟩ (by decide)) (nomark _)))) (fun _ _ _ _ _ => (@qv _ 0 _ _ (by walk_at "w"))) rfl (by decide +kernel) rfl (by decide +kernel) rfl (L2.cl_sub (fun p hp => by simp only [List.mem_cons, List.not_mem_nil, or_false] at hp; rcases hp with rfl | rfl <;> rfl)) (has_of rfl) (fun p hp => by simp only [List.mem_cons, List.not_mem_nil, or_false] at hp; rcases hp with rfl | rfl <;> exact ⟨rfl, rfl, by first | exact .inl rfl | exact .inr rfl⟩) (by decide +kernel) (by intro _ ; rfl))))), ?_⟩
  have wf := W.wf
  unfold tRet
  refine lcS (ss := memL S n os) (fun l1 H1 => Same H H1 ∧ H1 l1 = some (.lst ((memL S n os).map V.str)) ∧ H l1 = none) (fun c => !decide (a ≤ ageS S c) && !has S.ds c) V.str ?_ (fun a H1 h => SqL.of h.2.1) (by have := memL_len wf (n := n) (os := os); omega) ?_ ?_ ?_
  · intro R0 r
    walk_at "go"
    exact fun l H' s f h => r l H' ⟨s, h, f⟩
  · rintro a0 H1 x H2 ⟨s1, h1, _⟩ hx s R0 r
    have hk := kidsOf_has wf (memL_sub hx)
    obtain ⟨y, hy⟩ := yr_of hk
    have W2 := W.same (s1.trans s)
    refine ⟨_, rfl, _, rfl, _, rfl, w, S, R, x, a, y, rfl, W2, hk, hy, rfl, _, rfl, ?_⟩
    rw [stAge_hangs hy]
    exact r H2 (Same.refl _)
  · exact fun a H1 x H2 _ hx _ s R0 r => ⟨_, rfl, r H2 (Same.refl _)⟩
  · rintro a0 H1 D H2 ⟨s1, h1, _⟩ hD s h
    exact q D H2 (s1.trans s) (s1.free hD) h
theorem ok_within {f : Addr} {fd : FuncData} (F : Fun K "within" "within" s_within f fd) (T : Txt K g mg)  : FnOk P w0 K mg base CX0 1 f fd ["text", "low", "high"] (sp_within K g) := by
  refine F.ok sc_within (fun vs H Q E h => ?_) (fun cdv A outer s H vs Q E hr h => ?_)
  · obtain ⟨x, a, b, rfl, _⟩ := h
    rfl
  obtain ⟨x, a, b, rfl, q⟩ := h
  refine ⟨_, (
(@pss_cons _ _ _ _ _ (@ps_for _ _ _ _ _ _ _ _ PassesOwn.never rfl (@pi_str _ _ _ _ (@qv _ 0 _ _ (by walk_at "w"))) (@pg_name _ _ (3) _ sc_within.nd rfl (Or.inl rfl) (by walk_at "u")) (@pss_one _ _ _ (@ps_if _ _ _ _ _ _ _ _ (@PW.pt _ _ _ (@pw_or _ _ _ _ _ _ _ (@pt_cmpR _ _ _ _ _ _ _ _ (@op_lt_str _) (@qv _ 3 _ _ (by walk_at "w")) (@qv _ 1 _ _ (by walk_at "w")) (nomark _)) (@pw_or1 _ _ _ _ (@pt_cmpR _ _ _ _ _ _ _ _ (@op_gt_str _) (@qv _ 3 _ _ (by walk_at "w")) (@qv _ 2 _ _ (by walk_at "w")) (nomark _))))) (@pss_one _ _ _ (@ps_ret _ _ _ _ (@pe_bl _ _ _ _))) (@pss_nil _))) (by intro _ ; rfl)) (@pss_one _ _ _ (@ps_ret _ _ _ _ (@pe_bl _ _ _ _))))), ?_⟩
  have fin : ∀ v, v = x.cps.toList.all (inR a b) → Q (.bl v) H := fun v hv => by rw [hv]; exact q
  refine ⟨_, rfl, x, rfl, for_str (fun i σ H2 => H2 = H ∧ (x.cps.toList.take i).all (inR a b) = true ∧ ∃ v, σ = [some (.str x), some (.str ⟨#[a]⟩), some (.str ⟨#[b]⟩), v]) ⟨rfl, rfl, _, rfl⟩ ?_ ?_⟩
  · rintro i c σ H2 hc ⟨rfl, ha, v, rfl⟩
    refine ⟨_, rfl, _, rfl, _, _, rfl, rfl, _, rfl, ?_⟩
    refine ite2 (fun e => iteT ?_) (fun e => ?_)
    · have e' : c < a := (lt_one c a).mp (of_decide_eq_true e)
      exact fin _ (all_not hc (by unfold inR; rw [decide_eq_false (by omega)]; rfl)).symm
    · have e' : ¬ c < a := fun z => e (decide_eq_true ((lt_one c a).mpr z))
      refine ⟨_, rfl, _, rfl, _, _, rfl, rfl, _, rfl, ?_⟩
      refine ite2 (fun f => ?_) (fun f => ?_)
      · have f' : b < c := (lt_one b c).mp (of_decide_eq_true f)
        exact fin _ (all_not hc (by unfold inR; rw [decide_eq_false (show ¬ c ≤ b by omega), Bool.and_false])).symm
      · have f' : ¬ b < c := fun z => f (decide_eq_true ((lt_one b c).mpr z))
        exact ⟨rfl, all_take ha hc (by unfold inR; rw [decide_eq_true (show a ≤ c by omega), decide_eq_true (show c ≤ b by omega)]; rfl), _, rfl⟩
  · rintro σ H2 ⟨rfl, ha, v, rfl⟩
    rw [List.take_length] at ha
    exact fin _ ha.symm
theorem ok_good_word {f : Addr} {fd : FuncData} (F : Fun K "good_word" "good_word" s_good_word f fd) (T : Txt K g mg) (D_within : Dn P w0 K mg base 1 "within" ["text", "low", "high"] (sp_within K g)) : FnOk P w0 K mg base CX0 2 f fd ["word"] (sp_good_word K g) := by
  refine F.ok sc_good_word (fun vs H Q E h => ?_) (fun cdv A outer s H vs Q E hr h => ?_)
  · obtain ⟨x, rfl, _⟩ := h
    rfl
  obtain ⟨x, rfl, hx, q⟩ := h
  refine ⟨_, (
(@pss_one _ _ _ (@ps_ret _ _ _ _ (@pe_and _ _ _ _ _ _ _ (@pe_chain _ _ _ _ _ _ _ _ _ _ _ _ (@op_le _) (@op_le _) (@pe_int _ _ _ _) (@pe_callB _ _ _ _ _ _ _ _ _ (@call_len _) rfl T.z_len PySem.boot_len (@pa_cons _ _ _ _ _ (@qv _ 0 _ _ (by walk_at "w")) (@pa_nil _) (by rfl)) (by decide) (by decide) (by rfl) (by rfl)) (@pe_glob _ _ (.int 8) _ _ rfl T.m_LONGEST_WORD ⟨_, rfl⟩ (by decide)) (by with_unfolding_all rfl)) (@pe_and _ _ _ _ _ _ _ (@pe_fn _ _ _ _ _ _ _ _ _ _ D_within (hr.mono (by decide)) (@pa_cons _ _ _ _ _ (@qv _ 0 _ _ (by walk_at "w")) (@pa_cons _ _ _ _ _ (@pe_str _ _ _ _) (@pa_cons _ _ _ _ _ (@pe_str _ _ _ _) (@pa_nil _) (by rfl)) (by rfl)) (by rfl)) (by rfl) (by decide) (by rfl) (by rfl)) (@pe_one _ _ _ _ _ (@pe_cmpR _ _ _ _ _ _ _ _ (@op_notIn_seq _) (@qv _ 0 _ _ (by walk_at "w")) (@pe_glob _ _ (.ref g.BARRED) _ _ rfl T.m_BARRED rfl (by decide)) rfl))))))), ?_⟩
  have fin : ∀ v, v = gw x → Q (.bl v) H := fun v hv => by rw [hv]; exact q
  refine ⟨_, rfl, _, _, rfl, ⟨line_ok (by omega), rfl⟩, _, _, rfl, rfl, _, rfl, ?_⟩
  refine ite2 (fun c => ?_) (fun c => ?_)
  · have c' : 1 ≤ x.length := by have := of_decide_eq_true c; omega
    refine ⟨_, _, rfl, rfl, _, rfl, ?_⟩
    refine ite2 (fun d => ?_) (fun d => ?_)
    · have d' : x.length ≤ 8 := by have := of_decide_eq_true d; omega
      refine ⟨_, rfl, x, 97, 122, rfl, _, rfl, ?_⟩
      refine ite2 (fun e => ?_) (fun e => ?_)
      · refine ⟨_, rfl, g.BARRED, _, rfl, .inr (T.s_BARRED _), rfl, rfl, fin _ ?_⟩
        unfold gw
        rw [decide_eq_true c', decide_eq_true d', e]
        show (!(eqV (.str "crown") (.str x) || (eqV (.str "kids") (.str x) || false))) = _
        show (!(("crown" : Str) == x || (("kids" : Str) == x || false))) = (!(decide (x = "crown") || decide (x = "kids")))
        rw [Bool.or_false, beq_dec, beq_dec]
      · refine fin _ ?_
        unfold gw
        rw [Bool.eq_false_iff.mpr e, Bool.and_false]
        rfl
    · refine fin _ ?_
      unfold gw
      rw [decide_eq_false (show ¬ x.length ≤ 8 from fun z => d (decide_eq_true (by omega))), Bool.and_false]
      rfl
  · refine ⟨_, rfl, iteF ?_⟩
    refine fin _ ?_
    unfold gw
    rw [decide_eq_false (show ¬ 1 ≤ x.length from fun z => c (decide_eq_true (by omega)))]
    rfl
theorem ok_good_number {f : Addr} {fd : FuncData} (F : Fun K "good_number" "good_number" s_good_number f fd) (T : Txt K g mg) (D_within : Dn P w0 K mg base 1 "within" ["text", "low", "high"] (sp_within K g)) : FnOk P w0 K mg base CX0 2 f fd ["text"] (sp_good_number K g) := by
  refine F.ok sc_good_number (fun vs H Q E h => ?_) (fun cdv A outer s H vs Q E hr h => ?_)
  · obtain ⟨x, rfl, _⟩ := h
    rfl
  obtain ⟨x, rfl, hx, q⟩ := h
  refine ⟨_, (
(@pss_one _ _ _ (@ps_ret _ _ _ _ (@pe_and _ _ _ _ _ _ _ (@pe_chain _ _ _ _ _ _ _ _ _ _ _ _ (@op_le _) (@op_le _) (@pe_int _ _ _ _) (@pe_callB _ _ _ _ _ _ _ _ _ (@call_len _) rfl T.z_len PySem.boot_len (@pa_cons _ _ _ _ _ (@qv _ 0 _ _ (by walk_at "w")) (@pa_nil _) (by rfl)) (by decide) (by decide) (by rfl) (by rfl)) (@pe_glob _ _ (.int 2) _ _ rfl T.m_LONGEST_NUMBER ⟨_, rfl⟩ (by decide)) (by with_unfolding_all rfl)) (@pe_and _ _ _ _ _ _ _ (@pe_fn _ _ _ _ _ _ _ _ _ _ D_within (hr.mono (by decide)) (@pa_cons _ _ _ _ _ (@qv _ 0 _ _ (by walk_at "w")) (@pa_cons _ _ _ _ _ (@pe_str _ _ _ _) (@pa_cons _ _ _ _ _ (@pe_str _ _ _ _) (@pa_nil _) (by rfl)) (by rfl)) (by rfl)) (by rfl) (by decide) (by rfl) (by rfl)) (@pe_one _ _ _ _ _ (@pe_cmpR _ _ _ _ _ _ _ _ (@op_ne _) (@pe_ix _ _ _ _ _ _ _ (@ix_str _) (@qv _ 0 _ _ (by walk_at "w")) (@pe_int _ _ _ _) (fun _ _ => rfl)) (@pe_str _ _ _ _) (nomark _)))))))), ?_⟩
  have fin : ∀ v, v = gn x → Q (.bl v) H := fun v hv => by rw [hv]; exact q
  refine ⟨_, rfl, _, _, rfl, ⟨line_ok (by omega), rfl⟩, _, _, rfl, rfl, _, rfl, ?_⟩
  refine ite2 (fun c => ?_) (fun c => ?_)
  · have c' : 1 ≤ x.length := by have := of_decide_eq_true c; omega
    refine ⟨_, _, rfl, rfl, _, rfl, ?_⟩
    refine ite2 (fun d => ?_) (fun d => ?_)
    · have d' : x.length ≤ 2 := by have := of_decide_eq_true d; omega
      refine ⟨_, rfl, x, 48, 57, rfl, _, rfl, ?_⟩
      refine ite2 (fun e => ?_) (fun e => ?_)
      · have hl : x.cps.toList.length = x.length := Array.length_toList
        obtain ⟨c0, hc0⟩ : ∃ c0, x.cps.toList[0]? = some c0 := ⟨_, List.getElem?_eq_getElem (by omega)⟩
        have hat : atI x.cps.toList ((0 : Nat) : Int) = some c0 := atI_nat hc0
        refine ⟨_, rfl, x, _, c0, rfl, rfl, line_ok (by omega), hat, rfl, fin _ ?_⟩
        unfold gn
        rw [decide_eq_true c', decide_eq_true d', e]
        show (!decide (V.str ⟨#[c0]⟩ = V.str "0")) = (!decide (x.cps.toList.head? = some 48))
        have z : (V.str ⟨#[c0]⟩ = V.str "0") ↔ c0 = 48 := by
          rw [show ("0" : Str) = ⟨#[48]⟩ by decide +kernel]
          constructor
          · intro w
            injection w with w
            injection w with w
            simpa using w
          · rintro rfl; rfl
        rw [List.head?_eq_getElem?, hc0]
        congr 1
        rw [Bool.eq_iff_iff, decide_eq_true_iff, decide_eq_true_iff, z]
        simp
      · refine fin _ ?_
        unfold gn
        rw [Bool.eq_false_iff.mpr e, Bool.and_false]
        rfl
    · refine fin _ ?_
      unfold gn
      rw [decide_eq_false (show ¬ x.length ≤ 2 from fun z => d (decide_eq_true (by omega))), Bool.and_false]
      rfl
  · refine ⟨_, rfl, iteF ?_⟩
    refine fin _ ?_
    unfold gn
    rw [decide_eq_false (show ¬ 1 ≤ x.length from fun z => c (decide_eq_true (by omega)))]
    rfl
theorem ok_parts {f : Addr} {fd : FuncData} (F : Fun K "parts" "parts" s_parts f fd) (T : Txt K g mg) (D_good_word : Dn P w0 K mg base 2 "good_word" ["word"] (sp_good_word K g)) (D_good_number : Dn P w0 K mg base 2 "good_number" ["text"] (sp_good_number K g)) : FnOk P w0 K mg base (CXR P w0 base) 3 f fd ["name"] (sp_parts K g) := by
  refine F.okX sc_parts (fun vs H Q E h => ?_) (fun cdv A outer s H vs Q E hr h => ?_)
  · obtain ⟨x, rfl, _⟩ := h
    rfl
  obtain ⟨x, rfl, hx, qe, q⟩ := h
  refine ⟨_, (
(@pss_cons _ _ _ _ _ (@ps_asg _ _ _ _ _ _ (@pe_bm _ _ _ _ _ _ _ _ _ _ _ _ PySem.F.plainAttrs_str PySem.F.slot_str_split PySem.F.type_str_split (@mt_split _) (@qv _ 0 _ _ (by walk_at "w")) (@pa_cons _ _ _ _ _ (@pe_str _ _ _ _) (@pa_nil _) (by rfl)) (by rfl) (by rfl) (by rfl) (by rfl) (by rfl)) (@pg_star _ _ _ _ _ _ _ rfl (@pgs_cons _ _ _ _ _ (@pg_name _ _ (1) _ sc_parts.nd rfl (Or.inl rfl) (by walk_at "u")) (@pgs_cons _ _ _ _ _ (@pg_name _ _ (2) _ sc_parts.nd rfl (Or.inl rfl) (by walk_at "u")) (@pgs_nil _) (by rfl)) (by rfl)) (by rfl) (by rfl) (by rfl)) (by rfl) (by rfl) (by rfl)) (@pss_cons _ _ _ _ _ (@ps_if _ _ _ _ _ _ _ _ (@PW.pt _ _ _ (@pw_or _ _ _ _ _ _ _ (@pt_not _ _ _ _ (@pt_val _ _ _ (@pe_fn _ _ _ _ _ _ _ _ _ _ D_good_word (hr.mono (by decide)) (@pa_cons _ _ _ _ _ (@qv _ 1 _ _ (by walk_at "w")) (@pa_nil _) (by rfl)) (by rfl) (by decide) (by rfl) (by rfl)) (by intro _ ; rfl))) (@pw_or1 _ _ _ _ (@pt_cmpR _ _ _ _ _ _ _ _ (@op_gt _) (@pe_callB _ _ _ _ _ _ _ _ _ (@call_len _) rfl T.z_len PySem.boot_len (@pa_cons _ _ _ _ _ (@qv _ 2 _ _ (by walk_at "w")) (@pa_nil _) (by rfl)) (by decide) (by decide) (by rfl) (by rfl)) (@pe_glob _ _ (.int 5) _ _ rfl T.m_MOST_NUMBERS ⟨_, rfl⟩ (by decide)) (nomark _))))) (@pss_one _ _ _ (@ps_raise _ _ _ _ _ _ _ _ _ _ _ _ _ _ _ _ _ _ _ _ _ _ T.x_NoText.x T.m_NoText (@pe_str _ _ _ _) (by rfl) (by rfl) (by decide))) (@pss_nil _)) (@pss_cons _ _ _ _ _ (@ps_for _ _ _ _ _ _ _ _ PassesOwn.leaving rfl (@pi_list _ _ _ _ (@qv _ 2 _ _ (by walk_at "w"))) (@pg_name _ _ (3) _ sc_parts.nd rfl (Or.inl rfl) (by walk_at "u")) (@pss_one _ _ _ (@ps_if _ _ _ _ _ _ _ _ (@pt_not _ _ _ _ (@pt_val _ _ _ (@pe_fn _ _ _ _ _ _ _ _ _ _ D_good_number (hr.mono (by decide)) (@pa_cons _ _ _ _ _ (@qv _ 3 _ _ (by walk_at "w")) (@pa_nil _) (by rfl)) (by rfl) (by decide) (by rfl) (by rfl)) (by intro _ ; rfl))) (@pss_one _ _ _ (@ps_raise _ _ _ _ _ _ _ _ _ _ _ _ _ _ _ _ _ _ _ _ _ _ T.x_NoText.x T.m_NoText (@pe_str _ _ _ _) (by rfl) (by rfl) (by decide))) (@pss_nil _))) (by intro _ ; rfl)) (@pss_one _ _ _ (@ps_ret _ _ _ _ (@pe_op _ _ _ _ _ _ _ _ (@op_cat _) (@pe_lst _ _ _ _ (@pa_cons _ _ _ _ _ (@qv _ 1 _ _ (by walk_at "w")) (@pa_nil _) (by rfl))) (@pe_lc _ _ _ ("number") _ _ _ ([]) _ ([]) _ _ _ rfl (@pi_list _ _ _ _ (@qv _ 2 _ _ (by walk_at "w"))) (fun _ _ _ _ _ => (@pifs_nil _)) (fun _ _ _ _ _ => (@pe_callTy _ _ _ _ _ _ _ _ _ (@call_int_text _) rfl T.z_int PyProof.Rows.boot_int (@pa_cons _ _ _ _ _ (@qv _ 0 _ _ (by walk_at "w")) (@pa_nil _) (by rfl)) (by decide) (by decide) (by rfl) (by rfl))) rfl (by decide +kernel) rfl (by decide +kernel) rfl (fun _ _ h => nomatch h) (has_of rfl) (fun p hp => nomatch hp) (by decide +kernel) (by intro _ ; rfl))))))))), ?_⟩
  have h2 : (Builtin.Str.partsBetween x (Builtin.Str.occurrences x dot 0 x.length (x.length + 1)) dot.length).length ≤ sizeLine := by
    rw [PyProof.Rows.len_partsBetween]
    have := StrLaws.occ_length_le x dot 0 x.length (x.length + 1)
    exact line_ok (by omega)
  have nl := nms_len x
  refine ⟨_, rfl, rfl, x, dot, rfl, rfl, by decide +kernel, line_ok (by omega), h2, fun l hl => ?_⟩
  have s1 := same_new hl (.lst ((Txt.split x dot).map V.str))
  have pe : (Txt.split x dot).map V.str = .str (wd x) :: (nms x).map V.str := by rw [show Txt.split x dot = wd x :: nms x from pcs_eq x]; rfl
  refine ⟨l, .str (wd x), (nms x).map V.str, rfl, SqL.of (by rw [upd_same, pe]), by rw [List.length_map]; omega, fun D hD => ?_⟩
  have s2 := s1.trans (same_new hD (.lst ((nms x).map V.str)))
  have hD2 : upd (upd H l (.lst ((Txt.split x dot).map V.str))) D (.lst ((nms x).map V.str)) D = some (.lst ((nms x).map V.str)) := upd_same
  generalize upd (upd H l (.lst ((Txt.split x dot).map V.str))) D (.lst ((nms x).map V.str)) = H2 at *
  have wl : (wd x).length ≤ 200 := Nat.le_trans (pc_len (x := x) (by rw [pcs_eq]; exact List.mem_cons_self ..)) hx
  have pl : ∀ p ∈ nms x, p.length ≤ 200 := fun p hp => Nat.le_trans (pc_len (x := x) (by rw [pcs_eq]; exact List.mem_cons_of_mem _ hp)) hx
  refine ⟨_, _, rfl, _, _, rfl, rfl, ?_⟩
  refine ⟨_, rfl, wd x, rfl, wl, _, rfl, ?_⟩
  cases g1 : gw (wd x) with
  | false =>
    refine iteT ?_
    refine iteT ⟨rfl, qe (by unfold pok; rw [g1]; rfl) H2 s2⟩
  | true =>
    refine iteF ?_
    refine ⟨_, rfl, _, _, rfl, .inl ⟨_, SqL.of hD2, rfl⟩, _, _, rfl, rfl, _, rfl, ?_⟩
    refine ite2 (fun c => ?_) (fun c => ?_)
    · have c' : ¬ (nms x).length ≤ 5 := by have := of_decide_eq_true c; rw [List.length_map] at this; omega
      exact ⟨rfl, qe (by unfold pok; rw [g1, decide_eq_false c']; rfl) H2 s2⟩
    · have c' : (nms x).length ≤ 5 := by
        have c2 : ¬ ((5 : Int) < (((nms x).map V.str).length : Nat)) := fun z => c (decide_eq_true z)
        rw [List.length_map] at c2
        omega
      refine ⟨_, rfl, D, rfl, ⟨_, SqL.of hD2⟩, for_list (xs := (nms x).map V.str) (fun i σ H3 => H3 = H2 ∧ ((nms x).take i).all gn = true ∧ ∃ v, σ = [some (.str x), some (.str (wd x)), some (.ref D), v]) ⟨rfl, rfl, _, rfl⟩ ?_ ?_ ?_⟩
      · rintro i σ H3 _ ⟨rfl, _⟩
        exact SqL.of hD2
      · rintro i v σ H3 hv ⟨rfl, ha, w, rfl⟩
        rw [List.getElem?_map] at hv
        have ci : i < (nms x).length := by
          cases z : (nms x)[i]? with
          | none => rw [z] at hv; cases hv
          | some y => exact (List.getElem?_eq_some_iff.mp z).1
        rw [List.getElem?_eq_getElem ci] at hv
        cases hv
        refine ⟨_, rfl, (nms x)[i], rfl, pl _ (List.getElem_mem ci), _, rfl, ?_⟩
        cases g2 : gn (nms x)[i] with
        | false =>
          refine iteT ⟨rfl, qe ?_ H3 s2⟩
          unfold pok
          have z : (nms x).all gn = false := by
            cases e : (nms x).all gn with
            | false => rfl
            | true =>
              have := List.all_eq_true.mp e _ (List.getElem_mem ci)
              rw [g2] at this
              cases this
          rw [z, Bool.and_false]
        | true =>
          refine iteF ⟨rfl, ?_, _, rfl⟩
          rw [List.take_succ, List.getElem?_eq_getElem ci, List.all_append, ha]
          simp [g2]
      · rintro σ H3 ⟨rfl, ha, w, rfl⟩
        rw [List.length_map, List.take_length] at ha
        have pk : pok x = true := by unfold pok; rw [g1, decide_eq_true c', ha]; rfl
        refine ⟨_, rfl, (by show 1 ≤ sizeLine; decide), fun b1 hb1 => ?_⟩
        have s3 := same_new hb1 (.lst [V.str (wd x)])
        have hb1' : upd H3 b1 (.lst [V.str (wd x)]) b1 = some (.lst [V.str (wd x)]) := upd_same
        have hD3 := s3 _ _ hD2
        generalize upd H3 b1 (.lst [V.str (wd x)]) = H4 at *
        refine ⟨_, rfl, D, rfl, ⟨_, SqL.of hD3⟩, fun E1 hE1 => ⟨fun i m H5 => i ≤ (nms x).length ∧ m = (nms x).length - i ∧ Same H4 H5 ∧ H5 E1 = some (.lst (((nms x).take i).map fun p => V.int (iv p))), ⟨(nms x).length, Nat.zero_le _, rfl, same_new hE1 _, upd_same⟩, ?_⟩⟩
        rintro i m H5 ⟨hi, rfl, s5, hE5⟩
        by_cases ci : i < (nms x).length
        · refine .inr ⟨⟨_, .str (nms x)[i], s5.seq (SqL.of hD3), by simp [ci]⟩, fun v H' ⟨e, ev⟩ => ?_⟩
          subst e
          have ev' := ev _ (s5.seq (SqL.of hD3))
          rw [List.getElem?_map, List.getElem?_eq_getElem ci] at ev'
          cases ev'
          refine tAll_T ?_
          have g3 := List.all_eq_true.mp ha _ (List.getElem_mem ci)
          refine ⟨_, rfl, (nms x)[i], _, rfl, (iv_gn g3).1, by have := pl _ (List.getElem_mem ci); omega, _, (nms x).length - (i + 1), hE5, small1000 (by rw [List.length_map, List.length_take]; omega), by omega, ci, rfl, same_put1 s5 hE1, ?_⟩
          rw [upd_same, ← take_next ci, List.map_append]
          rfl
        · have e : i = (nms x).length := by omega
          subst e
          rw [List.take_length] at hE5
          refine .inl ⟨⟨_, s5.seq (SqL.of hD3), by rw [List.length_map]; exact Nat.le_refl _⟩, ?_⟩
          refine ⟨b1, E1, _, _, rfl, rfl, s5 _ _ hb1', hE5, Nat.le_of_lt (small1000 (by rw [List.length_map]; show 1 + (nms x).length ≤ 1000; omega)), fun R hR => ?_⟩
          have s6 := (s2.trans s3).trans s5
          exact q pk R _ (s6.trans (same_new hR _)) (s6.free hR) upd_same
theorem ok_shortened {f : Addr} {fd : FuncData} (F : Fun K "shortened" "shortened" s_shortened f fd) (T : Txt K g mg)  : FnOk P w0 K mg base CX0 1 f fd ["name"] (sp_shortened K g) := by
  refine F.ok sc_shortened (fun vs H Q E h => ?_) (fun cdv A outer s H vs Q E hr h => ?_)
  · obtain ⟨x, rfl, _⟩ := h
    rfl
  obtain ⟨x, rfl, hx, q⟩ := h
  refine ⟨_, (
(@pss_one _ _ _ (@ps_ret _ _ _ _ (@pe_ix _ _ _ _ _ _ _ (@ix_tup _) (@pe_bm _ _ _ _ _ _ _ _ _ _ _ _ PySem.F.plainAttrs_str PySem.F.slot_str_rpartition PySem.F.type_str_rpartition (@mt_rpart _) (@qv _ 0 _ _ (by walk_at "w")) (@pa_cons _ _ _ _ _ (@pe_str _ _ _ _) (@pa_nil _) (by rfl)) (by rfl) (by rfl) (by rfl) (by rfl) (by rfl)) (@pe_int _ _ _ _) (fun _ _ => rfl))))), ?_⟩
  refine ⟨_, rfl, rfl, x, dot, rfl, rfl, by decide +kernel, line_ok (by omega), fun l hl => ?_⟩
  have s1 := same_new hl
  cases e : Builtin.Str.lastOccurrence x dot 0 x.length with
  | some i =>
    have u : up x = Builtin.Str.strSub x 0 i := by unfold up; rw [e]
    refine ⟨l, _, _, _, rfl, rfl, SqT.of upd_same, rfl, ?_⟩
    rw [← u]
    exact q _ (s1 _)
  | none =>
    have u : up x = Str.empty := by unfold up; rw [e]
    refine ⟨l, _, _, _, rfl, rfl, SqT.of upd_same, rfl, ?_⟩
    rw [← u]
    exact q _ (s1 _)
theorem ok_Lives_nearest {f : Addr} {fd : FuncData} (F : Fun K "nearest" "Lives.nearest" s_Lives_nearest f fd) (T : Txt K g mg) (D_parts : Dx P w0 K mg base 3 "parts" ["name"] (sp_parts K g)) (D_shortened : Dn P w0 K mg base 1 "shortened" ["name"] (sp_shortened K g)) : FnOk P w0 K mg base (CXR P w0 base) 4 f fd ["self", "name"] (sp_Lives_nearest K g) := by
  refine F.okX sc_Lives_nearest (fun vs H Q E h => ?_) (fun cdv A outer s H vs Q E hr h => ?_)
  · obtain ⟨b, bs, ds, R, n, rfl, _⟩ := h
    rfl
  obtain ⟨b, bs, ds, R, n, rfl, L, hx, q1, q⟩ := h
  refine ⟨_, (
(@pss_cons _ _ _ _ _ (@ps_expr _ _ _ _ (@pe_fnX _ _ _ _ _ _ _ _ _ _ _ passR D_parts (hr.mono (by decide)) (@pa_cons _ _ _ _ _ (@qv _ 1 _ _ (by walk_at "w")) (@pa_nil _) (by rfl)) (by rfl) (by decide) (by rfl) (by rfl)) (by rfl)) (@pss_cons _ _ _ _ _ (@ps_set _ _ (2) _ _ _ _ sc_Lives_nearest.nd rfl (Or.inl rfl) (@qv _ 1 _ _ (by walk_at "w")) (by rfl) (by walk_at "u")) (@pss_cons _ _ _ _ _ (@ps_while _ _ _ _ _ _ PassesOwn.leaving (@PW.pt _ _ _ (@pw_and _ _ _ _ _ _ _ (@pt_truth _ _ _ (@qv _ 2 _ _ (by walk_at "w")) (fun _ => rfl)) (@pw_and1 _ _ _ _ (@pt_cmp _ _ _ _ _ _ (@pc_dnotin _ _ _ _ _ (hu_of hr) (@qv _ 2 _ _ (by walk_at "w")) (@pe_fld _ _ _ _ _ (@qv _ 0 _ _ (by walk_at "w")) rfl)) (by walk_at "n"))))) (@pss_one _ _ _ (@ps_set _ _ (2) _ _ _ _ sc_Lives_nearest.nd rfl (Or.inl rfl) (@pe_fn _ _ _ _ _ _ _ _ _ _ D_shortened (hr.mono (by decide)) (@pa_cons _ _ _ _ _ (@qv _ 2 _ _ (by walk_at "w")) (@pa_nil _) (by rfl)) (by rfl) (by decide) (by rfl) (by rfl)) (by rfl) (by walk_at "u")))) (@pss_one _ _ _ (@ps_ret _ _ _ _ (@qv _ 2 _ _ (by walk_at "w")))))))), ?_⟩
  refine ⟨_, rfl, n, rfl, hx, q1, fun hp l H1 s1 _ _ => ?_⟩
  refine ⟨_, rfl, fun mm σ H2 => ∃ z : Str, mm = z.length ∧ σ = [some (.ref b), some (.str n), some (.str z)] ∧ z.length ≤ 200 ∧ nr bs z = nr bs n ∧ Same H H2, ⟨_, n, rfl, rfl, hx, rfl, s1⟩, ?_⟩
  rintro mm σ H2 ⟨z, rfl, rfl, hz, hnr, s2⟩
  have L2 := L.same s2
  obtain ⟨d1, d2, d3, ws, B, k1, k2, eR⟩ := id L2.ex
  obtain ⟨dx, hb⟩ := B.obj
  by_cases h0 : z.length = 0
  · refine ⟨_, rfl, false, ⟨line_ok (by omega), by rw [h0]; rfl⟩, iteF ?_⟩
    refine iteF ⟨_, rfl, ?_⟩
    have e : nr bs n = z := by rw [← hnr, len0 h0, nr_nil]
    rw [← e]
    exact q hp H2 s2
  · refine ⟨_, rfl, true, ⟨line_ok (by omega), ?_⟩, iteT ?_⟩
    · have h1 : ((z.length : Nat) : Int) ≠ 0 := by omega
      exact (bne_iff_ne.mpr h1).symm
    refine ⟨_, rfl, _, rfl, b, _, dx, _, _, rfl, hb, T.cl_Lives, T.n_Lives_births, rfl, d1, _, rfl, B.births z, _, rfl, ?_⟩
    rw [valV_has]
    cases hh : has bs z with
    | true =>
      refine iteF ⟨_, rfl, ?_⟩
      have e : nr bs n = z := by rw [← hnr, nr_has h0 hh]
      rw [← e]
      exact q hp H2 s2
    | false =>
      have hu := up_len h0
      refine iteT ⟨fun σ' H' => σ' = [some (.ref b), some (.str n), some (.str (up z))] ∧ Same H H', fun σ' H' ⟨e1, e2⟩ => ⟨(up z).length, hu, up z, rfl, e1, by omega, by rw [← hnr, nr_up h0 hh], e2⟩, ?_⟩
      exact ⟨_, rfl, z, rfl, hz, fun H3 s3 => ⟨rfl, s2.trans s3⟩⟩
theorem ok_may_grow {f : Addr} {fd : FuncData} (F : Fun K "may_grow" "may_grow" s_may_grow f fd) (T : Txt K g mg) (D_Lives_alive : Dm P w0 K mg base CX0 g.Lives 1 "alive" ["self", "name"] (sp_Lives_alive K g)) (D_Lives_nearest : Dm P w0 K mg base (CXR P w0 base) g.Lives 4 "nearest" ["self", "name"] (sp_Lives_nearest K g)) : FnOk P w0 K mg base CX0 5 f fd ["world", "name"] (sp_may_grow K g) := by
  refine F.ok sc_may_grow (fun vs H Q E h => ?_) (fun cdv A outer s H vs Q E hr h => ?_)
  · obtain ⟨w, S, R, n, rfl, _⟩ := h
    rfl
  obtain ⟨w, S, R, n, rfl, W, hp, q⟩ := h
  refine ⟨_, (
(@pss_one _ _ _ (@ps_ret _ _ _ _ (@pe_mt _ _ _ _ _ _ _ _ _ _ _ _ _ _ _ _ pass0 D_Lives_alive (hr.mono (by decide)) (@pe_fld _ _ _ _ _ (@qv _ 0 _ _ (by walk_at "w")) rfl) (@pa_cons _ _ _ _ _ (@pe_mt _ _ _ _ _ _ _ _ _ _ _ _ _ _ _ _ passF D_Lives_nearest (hr.mono (by decide)) (@pe_fld _ _ _ _ _ (@qv _ 0 _ _ (by walk_at "w")) rfl) (@pa_cons _ _ _ _ _ (@qv _ 1 _ _ (by walk_at "w")) (@pa_nil _) (by rfl)) (by rfl) (by rfl) (by rfl)) (@pa_nil _) (by rfl)) (by rfl) (by rfl) (by rfl))))), ?_⟩
  obtain ⟨dx, b, hd, RL, hw, L, hh, eR, n1, n2⟩ := W.ex
  obtain ⟨dy, y1, y2, y3, hb⟩ := L.obj
  refine ⟨_, rfl, w, _, dx, _, _, rfl, hw, T.cl_World, T.n_World_lives, rfl, b, dy, _, rfl, hb, rfl, _, rfl, w, _, dx, _, _, rfl, hw, T.cl_World, T.n_World_lives, rfl, b, dy, _, rfl, hb, rfl, _, rfl, b, S.bs, S.ds, RL, n, rfl, L, by have := pok_len hp; omega, (fun e => by rw [hp] at e; cases e), fun _ H' s => ?_⟩
  exact ⟨b, S.bs, S.ds, RL, _, rfl, L.same s, q H' s⟩
theorem ok_want_word {f : Addr} {fd : FuncData} (F : Fun K "want_word" "want_word" s_want_word f fd) (T : Txt K g mg) (D_good_word : Dn P w0 K mg base 2 "good_word" ["word"] (sp_good_word K g)) : FnOk P w0 K mg base (CXR P w0 base) 3 f fd ["word"] (sp_want_word K g) := by
  refine F.okX sc_want_word (fun vs H Q E h => ?_) (fun cdv A outer s H vs Q E hr h => ?_)
  · obtain ⟨x, rfl, _⟩ := h
    rfl
  obtain ⟨x, rfl, hx, qe, q⟩ := h
  refine ⟨_, (
(@pss_one _ _ _ (@ps_if _ _ _ _ _ _ _ _ (@pt_not _ _ _ _ (@pt_val _ _ _ (@pe_fn _ _ _ _ _ _ _ _ _ _ D_good_word (hr.mono (by decide)) (@pa_cons _ _ _ _ _ (@qv _ 0 _ _ (by walk_at "w")) (@pa_nil _) (by rfl)) (by rfl) (by decide) (by rfl) (by rfl)) (by intro _ ; rfl))) (@pss_one _ _ _ (@ps_raise _ _ _ _ _ _ _ _ _ _ _ _ _ _ _ _ _ _ _ _ _ _ T.x_NoText.x T.m_NoText (@pe_str _ _ _ _) (by rfl) (by rfl) (by decide))) (@pss_nil _)))), ?_⟩
  refine ⟨_, rfl, x, rfl, hx, _, rfl, ?_⟩
  cases hg : gw x with
  | false => exact iteT ⟨rfl, qe hg⟩
  | true => exact iteF (q hg)
theorem ok_Lives___init__ {f : Addr} {fd : FuncData} (F : Fun K "__init__" "Lives.__init__" s_Lives___init__ f fd) (T : Txt K g mg)  : FnOk P w0 K mg base CX0 1 f fd ["self"] (sp_Lives___init__ K g) := by
  refine F.ok sc_Lives___init__ (fun vs H Q E h => ?_) (fun cdv A outer s H vs Q E hr h => ?_)
  · obtain ⟨b, dx, rfl, _⟩ := h
    rfl
  obtain ⟨b, dx, rfl, hb, q⟩ := h
  refine ⟨_, (
(@pss_cons _ _ _ _ _ (@ps_fld _ _ _ _ _ _ _ _ (@qv _ 0 _ _ (by walk_at "w")) (@pe_dnewK _ _) rfl) (@pss_cons _ _ _ _ _ (@ps_fld _ _ _ _ _ _ _ _ (@qv _ 0 _ _ (by walk_at "w")) (@pe_dnewK _ _) rfl) (@pss_one _ _ _ (@ps_fld _ _ _ _ _ _ _ _ (@qv _ 0 _ _ (by walk_at "w")) (@pe_dnewK _ _) rfl))))), ?_⟩
  intro d1 h1
  have n1 : b ≠ d1 := ne_of_none hb h1
  refine ⟨_, rfl, b, _, dx, _, rfl, (by rw [upd_ne n1]; exact hb), T.cl_Lives, T.n_Lives_births, by decide, ?_⟩
  intro d2 h2
  have z2 : d2 ≠ b := fun e => by rw [e, upd_same] at h2; cases h2
  rw [upd_ne z2] at h2
  have z21 : d2 ≠ d1 := fun e => by rw [e, upd_same] at h2; cases h2
  rw [upd_ne z21] at h2
  refine ⟨_, rfl, b, _, dx, _, rfl, (by rw [upd_ne (Ne.symm z2), upd_same]), T.cl_Lives, T.n_Lives_deaths, (by show 1 < 1000; decide), ?_⟩
  intro d3 h3
  have z3 : d3 ≠ b := fun e => by rw [e, upd_same] at h3; cases h3
  rw [upd_ne z3] at h3
  have z32 : d3 ≠ d2 := fun e => by rw [e, upd_same] at h3; cases h3
  rw [upd_ne z32, upd_ne z3] at h3
  have z31 : d3 ≠ d1 := fun e => by rw [e, upd_same] at h3; cases h3
  rw [upd_ne z31] at h3
  refine ⟨_, rfl, b, _, dx, _, rfl, (by rw [upd_ne (Ne.symm z3), upd_same]), T.cl_Lives, T.n_Lives_broods, (by show 2 < 1000; decide), ?_⟩
  refine q (foot b d1 d2 d3 []) _ ⟨fun a o na e => ?_, fun a e => ?_⟩ (fun a ha => ?_) ⟨⟨d1, d2, d3, [], ⟨⟨dx, upd_same⟩, ?_, ?_, ?_, Ne.symm z21, Ne.symm z31, Ne.symm z32, (fun _ h => nomatch h), .nil⟩, rfl, (fun _ h => nomatch h), rfl⟩, Wf.nil⟩
  · have na : a ≠ b := fun z => na (by simp [z])
    have a1 : a ≠ d1 := ne_of_none e h1
    have a2 : a ≠ d2 := ne_of_none e h2
    have a3 : a ≠ d3 := ne_of_none e h3
    rw [upd_ne na, upd_ne a3, upd_ne na, upd_ne a2, upd_ne na, upd_ne a1]
    exact e
  · by_cases na : a = b
    · rw [na, upd_same] at e; cases e
    · rw [upd_ne na] at e
      by_cases a3 : a = d3
      · rw [a3, upd_same] at e; cases e
      · rw [upd_ne a3, upd_ne na] at e
        by_cases a2 : a = d2
        · rw [a2, upd_same] at e; cases e
        · rw [upd_ne a2, upd_ne na] at e
          by_cases a1 : a = d1
          · rw [a1, upd_same] at e; cases e
          · rw [upd_ne a1] at e
            exact e
  · unfold foot at ha
    simp only [List.mem_cons, List.map_nil, List.not_mem_nil, or_false] at ha
    rcases ha with rfl | rfl | rfl | rfl
    · exact .inl rfl
    · exact .inr h1
    · exact .inr h2
    · exact .inr h3
  · rw [upd_ne (Ne.symm n1), upd_ne (Ne.symm z31), upd_ne (Ne.symm n1), upd_ne (Ne.symm z21), upd_ne (Ne.symm n1), upd_same]
    rfl
  · rw [upd_ne z2, upd_ne (Ne.symm z32), upd_ne z2, upd_same]
    rfl
  · rw [upd_ne z3, upd_same]
    rfl
theorem ok_Lives_enter {f : Addr} {fd : FuncData} (F : Fun K "enter" "Lives.enter" s_Lives_enter f fd) (T : Txt K g mg)  : FnOk P w0 K mg base CX0 1 f fd ["self", "name", "year"] (sp_Lives_enter K g) := by
  refine F.ok sc_Lives_enter (fun vs H Q E h => ?_) (fun cdv A outer s H vs Q E hr h => ?_)
  · obtain ⟨b, d1, d2, d3, bs, ds, ws, n, y, rfl, _⟩ := h
    rfl
  obtain ⟨b, d1, d2, d3, bs, ds, ws, n, y, rfl, B, hn, hw, l1, l2, q⟩ := h
  refine ⟨_, (
(@pss_cons _ _ _ _ _ (@ps_dput _ _ _ _ _ _ _ _ _ (hu_of hr) (@pe_fld _ _ _ _ _ (@qv _ 0 _ _ (by walk_at "w")) rfl) (@qv _ 1 _ _ (by walk_at "w")) (@qv _ 2 _ _ (by walk_at "w")) rfl) (@pss_one _ _ _ (@ps_dput _ _ _ _ _ _ _ _ _ (hu_of hr) (@pe_fld _ _ _ _ _ (@qv _ 0 _ _ (by walk_at "w")) rfl) (@qv _ 1 _ _ (by walk_at "w")) (@pe_lst _ _ _ _ (@pa_nil _)) rfl)))), ?_⟩
  obtain ⟨dx, hb⟩ := B.obj
  obtain ⟨nb1, nb2, nb3⟩ := B.bne
  have v0 : valV (yrs bs) (Sum.inr n : Key) = none := by
    have z := valV_has bs n
    rw [hn] at z
    cases e : valV (yrs bs) (Sum.inr n : Key) with
    | none => rfl
    | some v => rw [e] at z; cases z
  refine ⟨_, rfl, _, rfl, b, _, dx, _, _, rfl, hb, T.cl_Lives, T.n_Lives_births, rfl, _, rfl, d1, _, rfl, DPut.k (k := Sum.inr n) B.h1 (small1000 (by unfold yrs; rw [List.length_map]; omega)), ?_⟩
  rw [putK_new _ v0]
  have e1 : yrs bs ++ [((Sum.inr n : Key), V.int y)] = yrs (bs ++ [(n, y)]) := by unfold yrs; rw [List.map_append]; rfl
  rw [e1]
  refine ⟨Nat.zero_le _, fun l hl => ?_⟩
  obtain ⟨B2, kp⟩ := B.entered (n := n) (y := y) hl rfl rfl
  have hl0 : H l = none := by
    have z : d1 ≠ l := fun e => by rw [← e, upd_same] at hl; cases hl
    rw [upd_ne (Ne.symm z)] at hl
    exact hl
  have nlb : b ≠ l := fun e => by rw [e, hl0] at hb; cases hb
  have nl3 : d3 ≠ l := fun e => by have := B.h3; rw [e, hl0] at this; cases this
  refine ⟨_, rfl, b, _, dx, _, _, rfl, (by rw [upd_ne nlb, upd_ne nb1]; exact hb), T.cl_Lives, T.n_Lives_broods, rfl, _, rfl, d3, _, rfl, DPut.k (k := Sum.inr n) (by rw [upd_ne nl3, upd_ne (Ne.symm B.n13)]; exact B.h3) (small1000 (by unfold brs; rw [List.length_map]; omega)), ?_⟩
  rw [putK_new _ hw]
  have e3 : brs ws ++ [((Sum.inr n : Key), V.ref l)] = brs (ws ++ [(n, l, 0)]) := by unfold brs; rw [List.map_append]; rfl
  rw [e3]
  exact q l _ hl0 kp B2
theorem ok_Lives_want_alive {f : Addr} {fd : FuncData} (F : Fun K "want_alive" "Lives.want_alive" s_Lives_want_alive f fd) (T : Txt K g mg) (D_Lives_want_known : Dm P w0 K mg base (CXR P w0 base) g.Lives 2 "want_known" ["self", "name"] (sp_Lives_want_known K g)) (D_Lives_alive : Dm P w0 K mg base CX0 g.Lives 1 "alive" ["self", "name"] (sp_Lives_alive K g)) : FnOk P w0 K mg base (CXR P w0 base) 3 f fd ["self", "name"] (sp_Lives_want_alive K g) := by
  refine F.okX sc_Lives_want_alive (fun vs H Q E h => ?_) (fun cdv A outer s H vs Q E hr h => ?_)
  · obtain ⟨b, bs, ds, R, n, rfl, _⟩ := h
    rfl
  obtain ⟨b, bs, ds, R, n, rfl, L, q1, q2, q⟩ := h
  refine ⟨_, (
(@pss_cons _ _ _ _ _ (@ps_expr _ _ _ _ (@pe_mt _ _ _ _ _ _ _ _ _ _ _ _ _ _ _ _ passR D_Lives_want_known (hr.mono (by decide)) (@qv _ 0 _ _ (by walk_at "w")) (@pa_cons _ _ _ _ _ (@qv _ 1 _ _ (by walk_at "w")) (@pa_nil _) (by rfl)) (by rfl) (by rfl) (by rfl)) (by rfl)) (@pss_one _ _ _ (@ps_if _ _ _ _ _ _ _ _ (@pt_not _ _ _ _ (@pt_val _ _ _ (@pe_mt _ _ _ _ _ _ _ _ _ _ _ _ _ _ _ _ pass0 D_Lives_alive (hr.mono (by decide)) (@qv _ 0 _ _ (by walk_at "w")) (@pa_cons _ _ _ _ _ (@qv _ 1 _ _ (by walk_at "w")) (@pa_nil _) (by rfl)) (by rfl) (by rfl) (by rfl)) (by intro _ ; rfl))) (@pss_one _ _ _ (@ps_raise _ _ _ _ _ _ _ _ _ _ _ _ _ _ _ _ _ _ _ _ _ _ T.x_Gone.x T.m_Gone (@pe_str _ _ _ _) (by rfl) (by rfl) (by decide))) (@pss_nil _))))), ?_⟩
  obtain ⟨d1, d2, d3, ws, B, k1, k2, eR⟩ := id L.ex
  obtain ⟨dx, hb⟩ := B.obj
  refine ⟨_, rfl, b, dx, _, rfl, hb, rfl, _, rfl, b, bs, ds, R, n, rfl, L, q1, fun hn => ?_⟩
  refine ⟨_, rfl, b, dx, _, rfl, hb, rfl, _, rfl, b, bs, ds, R, n, rfl, L, _, rfl, ?_⟩
  unfold al
  rw [hn]
  cases e : has ds n with
  | false => exact iteF (q hn e)
  | true => exact iteT ⟨rfl, q2 hn e⟩
theorem ok_Lives_arrive {f : Addr} {fd : FuncData} (F : Fun K "arrive" "Lives.arrive" s_Lives_arrive f fd) (T : Txt K g mg) (D_want_word : Dx P w0 K mg base 3 "want_word" ["word"] (sp_want_word K g)) (D_Lives_known : Dm P w0 K mg base CX0 g.Lives 1 "known" ["self", "name"] (sp_Lives_known K g)) (D_Lives_enter : Dm P w0 K mg base CX0 g.Lives 1 "enter" ["self", "name", "year"] (sp_Lives_enter K g)) : FnOk P w0 K mg base (CXR P w0 base) 4 f fd ["self", "word", "born"] (sp_Lives_arrive K g) := by
  refine F.okX sc_Lives_arrive (fun vs H Q E h => ?_) (fun cdv A outer s H vs Q E hr h => ?_)
  · obtain ⟨b, bs, ds, R, n, y, rfl, _⟩ := h
    rfl
  obtain ⟨b, bs, ds, R, n, y, rfl, L, hx, hl, q1, q2, q⟩ := h
  refine ⟨_, (
(@pss_cons _ _ _ _ _ (@ps_expr _ _ _ _ (@pe_fnX _ _ _ _ _ _ _ _ _ _ _ passR D_want_word (hr.mono (by decide)) (@pa_cons _ _ _ _ _ (@qv _ 1 _ _ (by walk_at "w")) (@pa_nil _) (by rfl)) (by rfl) (by decide) (by rfl) (by rfl)) (by rfl)) (@pss_cons _ _ _ _ _ (@ps_if _ _ _ _ _ _ _ _ (@pt_val _ _ _ (@pe_mt _ _ _ _ _ _ _ _ _ _ _ _ _ _ _ _ pass0 D_Lives_known (hr.mono (by decide)) (@qv _ 0 _ _ (by walk_at "w")) (@pa_cons _ _ _ _ _ (@qv _ 1 _ _ (by walk_at "w")) (@pa_nil _) (by rfl)) (by rfl) (by rfl) (by rfl)) (by intro _ ; rfl)) (@pss_one _ _ _ (@ps_raise _ _ _ _ _ _ _ _ _ _ _ _ _ _ _ _ _ _ _ _ _ _ T.x_Taken.x T.m_Taken (@pe_str _ _ _ _) (by rfl) (by rfl) (by decide))) (@pss_nil _)) (@pss_one _ _ _ (@ps_expr _ _ _ _ (@pe_mt _ _ _ _ _ _ _ _ _ _ _ _ _ _ _ _ pass0 D_Lives_enter (hr.mono (by decide)) (@qv _ 0 _ _ (by walk_at "w")) (@pa_cons _ _ _ _ _ (@qv _ 1 _ _ (by walk_at "w")) (@pa_cons _ _ _ _ _ (@qv _ 2 _ _ (by walk_at "w")) (@pa_nil _) (by rfl)) (by rfl)) (by rfl) (by rfl) (by rfl)) (by rfl)))))), ?_⟩
  obtain ⟨d1, d2, d3, ws, B, k1, k2, eR⟩ := id L.ex
  obtain ⟨dx, hb⟩ := B.obj
  have wl : ws.length = bs.length := by rw [← List.length_map (f := fun p => p.1), k1, List.length_map]
  refine ⟨_, rfl, n, rfl, hx, q1, fun hg => ?_⟩
  refine ⟨_, rfl, b, dx, _, rfl, hb, rfl, _, rfl, b, bs, ds, R, n, rfl, L, _, rfl, ?_⟩
  cases hn : has bs n with
  | true => exact iteT ⟨rfl, q2 hg hn⟩
  | false =>
    refine iteF ?_
    refine ⟨_, rfl, b, dx, _, rfl, hb, rfl, _, rfl, _, rfl, b, d1, d2, d3, bs, ds, ws, n, y, rfl, B, hn, no_bro k1 hn, by omega, by omega, fun l H' hl0 kp B2 => ?_⟩
    have c := counts_word (l := l) (y := y) L.wf k1 k2 hg hn
    subst eR
    exact q hg hn _ H' (kp.wide (fun a ha => by simp only [List.mem_cons, List.not_mem_nil, or_false] at ha; rcases ha with rfl | rfl; exact foot_in.2.1; exact foot_in.2.2.2.1)) (foot_grow rfl hl0) ⟨⟨d1, d2, d3, _, B2, c.1, c.2, rfl⟩, L.wf.arrive hg hn (by omega)⟩
theorem ok_Lives_birth {f : Addr} {fd : FuncData} (F : Fun K "birth" "Lives.birth" s_Lives_birth f fd) (T : Txt K g mg) (D_Lives_want_alive : Dm P w0 K mg base (CXR P w0 base) g.Lives 3 "want_alive" ["self", "name"] (sp_Lives_want_alive K g)) (D_Lives_enter : Dm P w0 K mg base CX0 g.Lives 1 "enter" ["self", "name", "year"] (sp_Lives_enter K g)) : FnOk P w0 K mg base (CXR P w0 base) 4 f fd ["self", "name", "year"] (sp_Lives_birth K g) := by
  refine F.okX sc_Lives_birth (fun vs H Q E h => ?_) (fun cdv A outer s H vs Q E hr h => ?_)
  · obtain ⟨b, bs, ds, R, n, y, rfl, _⟩ := h
    rfl
  obtain ⟨b, bs, ds, R, n, y, rfl, L, hl, h99, q1, q2, q3, q⟩ := h
  refine ⟨_, (
(@pss_cons _ _ _ _ _ (@ps_expr _ _ _ _ (@pe_mt _ _ _ _ _ _ _ _ _ _ _ _ _ _ _ _ passR D_Lives_want_alive (hr.mono (by decide)) (@qv _ 0 _ _ (by walk_at "w")) (@pa_cons _ _ _ _ _ (@qv _ 1 _ _ (by walk_at "w")) (@pa_nil _) (by rfl)) (by rfl) (by rfl) (by rfl)) (by rfl)) (@pss_cons _ _ _ _ _ (@ps_if _ _ _ _ _ _ _ _ (@pt_cmpR _ _ _ _ _ _ _ _ (@op_ge _) (@pe_bm _ _ _ _ _ _ _ _ _ _ _ _ PySem.F.plainAttrs_str PySem.F.slot_str_count PySem.F.type_str_count (@mt_count _) (@qv _ 1 _ _ (by walk_at "w")) (@pa_cons _ _ _ _ _ (@pe_str _ _ _ _) (@pa_nil _) (by rfl)) (by rfl) (by rfl) (by rfl) (by rfl) (by rfl)) (@pe_glob _ _ (.int 5) _ _ rfl T.m_MOST_NUMBERS ⟨_, rfl⟩ (by decide)) (nomark _)) (@pss_one _ _ _ (@ps_raise _ _ _ _ _ _ _ _ _ _ _ _ _ _ _ _ _ _ _ _ _ _ T.x_TooDeep.x T.m_TooDeep (@pe_str _ _ _ _) (by rfl) (by rfl) (by decide))) (@pss_nil _)) (@pss_cons _ _ _ _ _ (@ps_set _ _ (3) _ _ _ _ sc_Lives_birth.nd rfl (Or.inl rfl) (@pe_fs _ _ _ _ _ _ _ _ _ _ _ (@qv _ 1 _ _ (by walk_at "w")) (@pe_op _ _ _ _ _ _ _ _ (@op_add _) (@pe_callB _ _ _ _ _ _ _ _ _ (@call_len _) rfl T.z_len PySem.boot_len (@pa_cons _ _ _ _ _ (@pe_dget _ _ _ _ _ _ (hu_of hr) (@pe_fld _ _ _ _ _ (@qv _ 0 _ _ (by walk_at "w")) rfl) (@qv _ 1 _ _ (by walk_at "w")) (fun _ _ => rfl)) (@pa_nil _) (by rfl)) (by decide) (by decide) (by rfl) (by rfl)) (@pe_int _ _ _ _))) (by rfl) (by walk_at "u")) (@pss_cons _ _ _ _ _ (@ps_expr _ _ _ _ (@pe_bm _ _ _ _ _ _ _ _ _ _ _ _ PySem.F.plainAttrs_list PySem.F.slot_list_append PySem.F.type_list_append (@mt_append _) (@pe_dget _ _ _ _ _ _ (hu_of hr) (@pe_fld _ _ _ _ _ (@qv _ 0 _ _ (by walk_at "w")) rfl) (@qv _ 1 _ _ (by walk_at "w")) (fun _ _ => rfl)) (@pa_cons _ _ _ _ _ (@qv _ 3 _ _ (by walk_at "w")) (@pa_nil _) (by rfl)) (by rfl) (by rfl) (by rfl) (by rfl) (by rfl)) (by rfl)) (@pss_cons _ _ _ _ _ (@ps_expr _ _ _ _ (@pe_mt _ _ _ _ _ _ _ _ _ _ _ _ _ _ _ _ pass0 D_Lives_enter (hr.mono (by decide)) (@qv _ 0 _ _ (by walk_at "w")) (@pa_cons _ _ _ _ _ (@qv _ 3 _ _ (by walk_at "w")) (@pa_cons _ _ _ _ _ (@qv _ 2 _ _ (by walk_at "w")) (@pa_nil _) (by rfl)) (by rfl)) (by rfl) (by rfl) (by rfl)) (by rfl)) (@pss_one _ _ _ (@ps_ret _ _ _ _ (@qv _ 3 _ _ (by walk_at "w")))))))))), ?_⟩
  obtain ⟨d1, d2, d3, ws, B, k1, k2, eR⟩ := id L.ex
  obtain ⟨dx, hb⟩ := B.obj
  have wl : ws.length = bs.length := by rw [← List.length_map (f := fun p => p.1), k1, List.length_map]
  refine ⟨_, rfl, b, dx, _, rfl, hb, rfl, _, rfl, b, bs, ds, R, n, rfl, L, q1, q2, fun hn hd => ?_⟩
  refine ⟨_, rfl, rfl, n, dot, rfl, rfl, _, _, rfl, rfl, _, rfl, ite2 (fun z => ?_) (fun z => ?_)⟩
  · exact ⟨rfl, q3 hn hd (by have z' := of_decide_eq_true z; unfold dots; omega)⟩
  have hdot : dots n < 5 := by
    have z' : ¬ ((5 : Int) ≤ (dots n : Nat)) := fun w => z (decide_eq_true w)
    omega
  have hx := pok_len (L.wf.wrt n hn)
  obtain ⟨a, hw⟩ := bro_of k1 k2 hn
  have g0 : DGet H d3 (.str n) (valV (brs ws) (Sum.inr n : Key)) := DGet.k (k := Sum.inr n) B.h3
  rw [valV_brs, hw] at g0
  have ha := B.kids _ (bro_mem hw)
  have kl : (kidV n (nk bs n)).length = nk bs n := by unfold kidV; rw [List.length_map, List.length_range]
  have c0 : (0 : Int) ≤ ((nk bs n : Nat) : Int) + 1 := by omega
  have c1 : ((nk bs n : Nat) : Int) + 1 < 131 := by omega
  have tl := ts_len c0 c1
  have l3 : (n ++ dot).length = n.length + 1 := by rw [slen_app]; rfl
  refine ⟨_, rfl, n, rfl, line_ok (by omega), line_ok (by rw [show (n ++ ("." : Str)).length = n.length + 1 from l3]; omega), ?_⟩
  refine ⟨_, rfl, b, _, dx, _, _, rfl, hb, T.cl_Lives, T.n_Lives_broods, rfl, _, rfl, d3, _, rfl, g0, _, _, rfl, .inl ⟨_, SqL.of ha, rfl⟩, _, _, rfl, rfl, ((nk bs n : Nat) : Int) + 1, (by rw [kl]), log_small c0 c1, line_ok (by rw [slen_app, show (n ++ ("." : Str)).length = n.length + 1 from l3]; omega), ?_⟩
  refine ⟨_, rfl, b, _, dx, _, _, rfl, hb, T.cl_Lives, T.n_Lives_broods, rfl, _, rfl, d3, _, rfl, g0, .inl ⟨rfl, _, SqL.of ha⟩, _, rfl, a, _, _, rfl, rfl, ha, small1000 (by rw [kl]; omega), ?_⟩
  rw [show kidV n (nk bs n) ++ [V.str (n ++ ("." : Str) ++ (toString (((nk bs n : Nat) : Int) + 1) : Str))] = kidV n (nk bs n + 1) from kidV_next n (nk bs n)]
  have hk : (ws.map fun p => p.1).Nodup := by rw [k1]; exact L.wf.nod
  have B2 := B.grown hk (bro_mem hw)
  obtain ⟨dx2, hb2⟩ := B2.obj
  have hn2 := L.wf.no_kid n
  refine ⟨_, rfl, b, dx2, _, rfl, hb2, rfl, _, rfl, _, rfl, b, d1, d2, d3, bs, ds, L2.bump ws n, kid n (nk bs n), y, rfl, B2, hn2, by rw [brs_bump]; exact no_bro k1 hn2, by omega, by unfold L2.bump; rw [List.length_map]; omega, fun l H' hl1 kp B3 => ?_⟩
  have hl0 : H l = none := by
    have z : l ≠ a := fun e => by rw [e, upd_same] at hl1; cases hl1
    rw [upd_ne z] at hl1
    exact hl1
  have c := counts_born (l := l) (y := y) L.wf k1 k2 hn (by omega)
  subst eR
  refine ⟨_, rfl, q hn hd hdot _ H' ?_ (foot_grow (adr_bump ws n) hl0) ⟨⟨d1, d2, d3, _, B3, c.1, c.2, rfl⟩, L.wf.birth hn hdot (by omega) h99⟩⟩
  have k0 : Keep (foot b d1 d2 d3 ws) H (upd H a (.lst (kidV n (nk bs n + 1)))) := keep_upd.wide (fun x hx => by rw [List.mem_singleton.mp hx]; exact foot_in.2.2.2.2 _ (bro_mem hw))
  exact k0.tr kp (fun x hx => by simp only [List.mem_cons, List.not_mem_nil, or_false] at hx; rcases hx with rfl | rfl; exact .inl foot_in.2.1; exact .inl foot_in.2.2.2.1)
theorem ok_Lives_death {f : Addr} {fd : FuncData} (F : Fun K "death" "Lives.death" s_Lives_death f fd) (T : Txt K g mg) (D_Lives_want_alive : Dm P w0 K mg base (CXR P w0 base) g.Lives 3 "want_alive" ["self", "name"] (sp_Lives_want_alive K g)) : FnOk P w0 K mg base (CXR P w0 base) 4 f fd ["self", "name", "year"] (sp_Lives_death K g) := by
  refine F.okX sc_Lives_death (fun vs H Q E h => ?_) (fun cdv A outer s H vs Q E hr h => ?_)
  · obtain ⟨b, bs, ds, R, n, y, rfl, _⟩ := h
    rfl
  obtain ⟨b, bs, ds, R, n, y, rfl, L, hl, q1, q2, q⟩ := h
  refine ⟨_, (
(@pss_cons _ _ _ _ _ (@ps_expr _ _ _ _ (@pe_mt _ _ _ _ _ _ _ _ _ _ _ _ _ _ _ _ passR D_Lives_want_alive (hr.mono (by decide)) (@qv _ 0 _ _ (by walk_at "w")) (@pa_cons _ _ _ _ _ (@qv _ 1 _ _ (by walk_at "w")) (@pa_nil _) (by rfl)) (by rfl) (by rfl) (by rfl)) (by rfl)) (@pss_one _ _ _ (@ps_dput _ _ _ _ _ _ _ _ _ (hu_of hr) (@pe_fld _ _ _ _ _ (@qv _ 0 _ _ (by walk_at "w")) rfl) (@qv _ 1 _ _ (by walk_at "w")) (@qv _ 2 _ _ (by walk_at "w")) rfl)))), ?_⟩
  obtain ⟨d1, d2, d3, ws, B, k1, k2, eR⟩ := id L.ex
  obtain ⟨dx, hb⟩ := B.obj
  refine ⟨_, rfl, b, dx, _, rfl, hb, rfl, _, rfl, b, bs, ds, R, n, rfl, L, q1, q2, fun hn hd => ?_⟩
  refine ⟨_, rfl, _, rfl, b, _, dx, _, _, rfl, hb, T.cl_Lives, T.n_Lives_deaths, rfl, _, rfl, d2, _, rfl, DPut.k (k := Sum.inr n) B.h2 (small1000 (by unfold yrs; rw [List.length_map]; omega)), ?_⟩
  rw [putK_new _ (no_valV hd), yrs_app]
  obtain ⟨B2, kp⟩ := B.died (ds' := ds ++ [(n, y)])
  subst eR
  exact q hn hd _ (kp.wide (fun a ha => by rw [List.mem_singleton.mp ha]; exact foot_in.2.2.1)) ⟨⟨d1, d2, d3, ws, B2, k1, k2, rfl⟩, L.wf.death hn⟩
theorem ok_Lives_born_in {f : Addr} {fd : FuncData} (F : Fun K "born_in" "Lives.born_in" s_Lives_born_in f fd) (T : Txt K g mg) (D_Lives_want_known : Dm P w0 K mg base (CXR P w0 base) g.Lives 2 "want_known" ["self", "name"] (sp_Lives_want_known K g)) : FnOk P w0 K mg base (CXR P w0 base) 3 f fd ["self", "name"] (sp_Lives_born_in K g) := by
  refine F.okX sc_Lives_born_in (fun vs H Q E h => ?_) (fun cdv A outer s H vs Q E hr h => ?_)
  · obtain ⟨b, bs, ds, R, n, rfl, _⟩ := h
    rfl
  obtain ⟨b, bs, ds, R, n, rfl, L, q1, q⟩ := h
  refine ⟨_, (
(@pss_cons _ _ _ _ _ (@ps_expr _ _ _ _ (@pe_mt _ _ _ _ _ _ _ _ _ _ _ _ _ _ _ _ passR D_Lives_want_known (hr.mono (by decide)) (@qv _ 0 _ _ (by walk_at "w")) (@pa_cons _ _ _ _ _ (@qv _ 1 _ _ (by walk_at "w")) (@pa_nil _) (by rfl)) (by rfl) (by rfl) (by rfl)) (by rfl)) (@pss_one _ _ _ (@ps_ret _ _ _ _ (@pe_dget _ _ _ _ _ _ (hu_of hr) (@pe_fld _ _ _ _ _ (@qv _ 0 _ _ (by walk_at "w")) rfl) (@qv _ 1 _ _ (by walk_at "w")) (fun _ _ => rfl)))))), ?_⟩
  obtain ⟨d1, d2, d3, ws, B, k1, k2, eR⟩ := id L.ex
  obtain ⟨dx, hb⟩ := B.obj
  refine ⟨_, rfl, b, dx, _, rfl, hb, rfl, _, rfl, b, bs, ds, R, n, rfl, L, q1, fun hn => ?_⟩
  have hn' := hn
  unfold has at hn'
  cases hy : yr bs n with
  | none => rw [hy] at hn'; cases hn'
  | some y =>
    have g0 := B.births n
    rw [valV_yrs, hy] at g0
    exact ⟨_, rfl, b, _, dx, _, _, rfl, hb, T.cl_Lives, T.n_Lives_births, rfl, _, rfl, d1, _, rfl, g0, q y hy⟩
theorem ok_Lives_names {f : Addr} {fd : FuncData} (F : Fun K "names" "Lives.names" s_Lives_names f fd) (T : Txt K g mg)  : FnOk P w0 K mg base CX0 1 f fd ["self"] (sp_Lives_names K g) := by
  refine F.ok sc_Lives_names (fun vs H Q E h => ?_) (fun cdv A outer s H vs Q E hr h => ?_)
  · obtain ⟨b, bs, ds, R, rfl, _⟩ := h
    rfl
  obtain ⟨b, bs, ds, R, rfl, L, q⟩ := h
  refine ⟨_, (
(@pss_one _ _ _ (@ps_ret _ _ _ _ (@pe_callTy _ _ _ _ _ _ _ _ _ (@call_listD _ rfl) rfl T.z_list PyProof.Rows.boot_list (@pa_cons _ _ _ _ _ (@pe_fld _ _ _ _ _ (@qv _ 0 _ _ (by walk_at "w")) rfl) (@pa_nil _) (by rfl)) (by decide) (by decide) (by rfl) (by rfl))))), ?_⟩
  obtain ⟨d1, d2, d3, ws, B, k1, k2, eR⟩ := id L.ex
  obtain ⟨dx, hb⟩ := B.obj
  refine ⟨_, rfl, b, _, dx, _, _, rfl, hb, T.cl_Lives, T.n_Lives_births, rfl, d1, _, rfl, .inl B.h1, fun l hl => ?_⟩
  have e : (yrs bs).map (fun p => kV p.1) = bs.map fun p => V.str p.1 := by
    unfold yrs
    rw [List.map_map]
    rfl
  rw [e]
  exact q l _ (same_new hl _) hl upd_same
theorem ok_is_class {f : Addr} {fd : FuncData} (F : Fun K "is_class" "is_class" s_is_class f fd) (T : Txt K g mg)  : FnOk P w0 K mg base CX0 1 f fd ["holder"] (sp_is_class K g) := by
  refine F.ok sc_is_class (fun vs H Q E h => ?_) (fun cdv A outer s H vs Q E hr h => ?_)
  · obtain ⟨p, h, rfl, _⟩ := h
    rfl
  obtain ⟨p, h, rfl, hp, q⟩ := h
  refine ⟨_, (
(@pss_one _ _ _ (@ps_ret _ _ _ _ (@pe_cmpR _ _ _ _ _ _ _ _ (@op_eq _) (@pe_ix _ _ _ _ _ _ _ (@ix_tup _) (@qv _ 0 _ _ (by walk_at "w")) (@pe_int _ _ _ _) (fun _ _ => rfl)) (@pe_str _ _ _ _) (nomark _))))), ?_⟩
  cases h with
  | one n =>
    walk_at "go"
    rw [str_dec, decide_eq_false (by decide +kernel)]
    exact q
  | kids n a =>
    walk_at "go"
    rw [decide_eq_true rfl]
    exact q
theorem ok_want_between {f : Addr} {fd : FuncData} (F : Fun K "want_between" "want_between" s_want_between f fd) (T : Txt K g mg)  : FnOk P w0 K mg base (CXR P w0 base) 1 f fd ["number", "low", "high"] (sp_want_between K g) := by
  refine F.okX sc_want_between (fun vs H Q E h => ?_) (fun cdv A outer s H vs Q E hr h => ?_)
  · obtain ⟨n, lo, hi, rfl, _⟩ := h
    rfl
  obtain ⟨n, lo, hi, rfl, q1, q⟩ := h
  refine ⟨_, (
(@pss_one _ _ _ (@ps_if _ _ _ _ _ _ _ _ (@PW.pt _ _ _ (@pw_or _ _ _ _ _ _ _ (@pt_cmpR _ _ _ _ _ _ _ _ (@op_lt _) (@qv _ 0 _ _ (by walk_at "w")) (@qv _ 1 _ _ (by walk_at "w")) (nomark _)) (@pw_or1 _ _ _ _ (@pt_cmpR _ _ _ _ _ _ _ _ (@op_gt _) (@qv _ 0 _ _ (by walk_at "w")) (@qv _ 2 _ _ (by walk_at "w")) (nomark _))))) (@pss_one _ _ _ (@ps_raise _ _ _ _ _ _ _ _ _ _ _ _ _ _ _ _ _ _ _ _ _ _ T.x_OutOfBound.x T.m_OutOfBound (@pe_str _ _ _ _) (by rfl) (by rfl) (by decide))) (@pss_nil _)))), ?_⟩
  refine ⟨_, rfl, _, rfl, _, _, rfl, rfl, _, rfl, ite2 (fun c => iteT ⟨rfl, q1 ?_⟩) (fun c => ?_)⟩
  · have := of_decide_eq_true c; omega
  refine ⟨_, rfl, _, rfl, _, _, rfl, rfl, _, rfl, ite2 (fun c2 => ⟨rfl, q1 ?_⟩) (fun c2 => q ?_)⟩
  · have := of_decide_eq_true c2; omega
  · have z1 : ¬ n < lo := fun z => c (decide_eq_true z)
    have z2 : ¬ hi < n := fun z => c2 (decide_eq_true z)
    omega
theorem ok_World___init__ {f : Addr} {fd : FuncData} (F : Fun K "__init__" "World.__init__" s_World___init__ f fd) (T : Txt K g mg) (D_want_between : Dx P w0 K mg base 1 "want_between" ["number", "low", "high"] (sp_want_between K g)) (K_Lives : Dk P w0 K mg base CX0 g.Lives 1 "Lives" ["self"] (sp_Lives___init__ K g)) : FnOk P w0 K mg base (CXR P w0 base) 3 f fd ["self", "year"] (sp_World___init__ K g) := by
  refine F.okX sc_World___init__ (fun vs H Q E h => ?_) (fun cdv A outer s H vs Q E hr h => ?_)
  · obtain ⟨w, dx, y, rfl, _⟩ := h
    rfl
  obtain ⟨w, dx, y, rfl, hw, q1, q⟩ := h
  refine ⟨_, (
(@pss_cons _ _ _ _ _ (@ps_expr _ _ _ _ (@pe_fnX _ _ _ _ _ _ _ _ _ _ _ passR D_want_between (hr.mono (by decide)) (@pa_cons _ _ _ _ _ (@qv _ 1 _ _ (by walk_at "w")) (@pa_cons _ _ _ _ _ (@pe_int _ _ _ _) (@pa_cons _ _ _ _ _ (@pe_glob _ _ (.int 9999) _ _ rfl T.m_LAST_FIRST_YEAR ⟨_, rfl⟩ (by decide)) (@pa_nil _) (by rfl)) (by rfl)) (by rfl)) (by rfl) (by decide) (by rfl) (by rfl)) (by rfl)) (@pss_cons _ _ _ _ _ (@ps_fld _ _ _ _ _ _ _ _ (@qv _ 0 _ _ (by walk_at "w")) (@qv _ 1 _ _ (by walk_at "w")) rfl) (@pss_cons _ _ _ _ _ (@ps_fld _ _ _ _ _ _ _ _ (@qv _ 0 _ _ (by walk_at "w")) (@pe_mk0 _ _ _ _ _ _ _ _ _ _ pass0 K_Lives (hr.mono (by decide)) rfl (by decide)) rfl) (@pss_one _ _ _ (@ps_fld _ _ _ _ _ _ _ _ (@qv _ 0 _ _ (by walk_at "w")) (@pe_dnewK _ _) rfl)))))), ?_⟩
  refine ⟨_, rfl, y, 0, 9999, rfl, q1, fun hy => ?_⟩
  refine ⟨_, rfl, _, rfl, w, _, dx, _, rfl, hw, T.cl_World, T.n_World_year, by decide, ?_⟩
  intro b dxb nb ndb neb
  have nwb : b ≠ w := fun e => by rw [e, upd_same] at nb; cases nb
  have hb0 : H b = none := by rw [upd_ne nwb] at nb; exact nb
  refine ⟨b, dxb, rfl, upd_same, fun RL H1 kp fr L => ⟨rfl, ?_⟩⟩
  have s1 := made nb ndb kp
  have hw1 := s1 _ _ (upd_same (H := H) (a := w))
  have fRL : ∀ a ∈ RL, upd H w (.ins g.World dx [("year", .int y)]) a = none := fun a ha => (fr a ha).elim (fun e => by rw [e]; exact nb) made_free
  have nwRL : w ∉ RL := fun z => by have := fRL w z; rw [upd_same] at this; cases this
  refine ⟨_, rfl, w, _, dx, _, rfl, hw1, T.cl_World, T.n_World_lives, (by show 1 < 1000; decide), ?_⟩
  intro hd hhd
  have nhw : hd ≠ w := fun e => by rw [e, upd_same] at hhd; cases hhd
  have hhd1 : H1 hd = none := by rw [upd_ne nhw] at hhd; exact hhd
  have nhRL : hd ∉ RL := fun z => by obtain ⟨o, e⟩ := L.live hd z; rw [hhd1] at e; cases e
  refine ⟨_, rfl, w, _, dx, _, rfl, (by rw [upd_ne (Ne.symm nhw), upd_same]), T.cl_World, T.n_World_happened, (by show 2 < 1000; decide), ?_⟩
  have f0 : ∀ a, upd H w (.ins g.World dx [("year", .int y)]) a = none → H a = none := fun a e => by
    have n : a ≠ w := fun z => by rw [z, upd_same] at e; cases e
    rw [upd_ne n] at e; exact e
  have hd0 : H hd = none := f0 hd (s1.free hhd1)
  refine q hy (w :: hd :: RL) _ ⟨fun a o hn e => ?_, fun a e => ?_⟩ (fun a ha => ?_) ⟨dx, b, hd, RL, upd_same, ?_, ?_, rfl, nwRL, nhRL⟩
  · have na : a ≠ w := fun z => hn (by simp [z])
    have nh : a ≠ hd := ne_of_none e hd0
    rw [upd_ne na, upd_ne nh, upd_ne na]
    exact s1 _ _ (by rw [upd_ne na]; exact e)
  · have na : a ≠ w := fun z => by rw [z, upd_same] at e; cases e
    rw [upd_ne na] at e
    have nh : a ≠ hd := fun z => by rw [z, upd_same] at e; cases e
    rw [upd_ne nh, upd_ne na] at e
    exact f0 a (s1.free e)
  · rcases List.mem_cons.mp ha with rfl | ha
    · exact .inl rfl
    rcases List.mem_cons.mp ha with rfl | ha
    · exact .inr hd0
    exact .inr (f0 a (fRL a ha))
  · refine L.mv fun a ha o e => ?_
    have na : a ≠ w := fun z => nwRL (z ▸ ha)
    have nh : a ≠ hd := fun z => nhRL (z ▸ ha)
    rw [upd_ne na, upd_ne nh, upd_ne na]
    exact e
  · rw [upd_ne nhw, upd_same]
    rfl
theorem ok_World_pass_years {f : Addr} {fd : FuncData} (F : Fun K "pass_years" "World.pass_years" s_World_pass_years f fd) (T : Txt K g mg) (D_want_between : Dx P w0 K mg base 1 "want_between" ["number", "low", "high"] (sp_want_between K g)) : FnOk P w0 K mg base (CXR P w0 base) 2 f fd ["self", "many"] (sp_World_pass_years K g) := by
  refine F.okX sc_World_pass_years (fun vs H Q E h => ?_) (fun cdv A outer s H vs Q E hr h => ?_)
  · obtain ⟨w, S, R, k, rfl, _⟩ := h
    rfl
  obtain ⟨w, S, R, k, rfl, W, q1, q⟩ := h
  refine ⟨_, (
(@pss_cons _ _ _ _ _ (@ps_expr _ _ _ _ (@pe_fnX _ _ _ _ _ _ _ _ _ _ _ passR D_want_between (hr.mono (by decide)) (@pa_cons _ _ _ _ _ (@qv _ 1 _ _ (by walk_at "w")) (@pa_cons _ _ _ _ _ (@pe_int _ _ _ _) (@pa_cons _ _ _ _ _ (@pe_glob _ _ (.int 60) _ _ rfl T.m_MOST_YEARS ⟨_, rfl⟩ (by decide)) (@pa_nil _) (by rfl)) (by rfl)) (by rfl)) (by rfl) (by decide) (by rfl) (by rfl)) (by rfl)) (@pss_one _ _ _ (@ps_fldaug _ _ _ _ _ _ _ _ _ _ (@qv _ 0 _ _ (by walk_at "w")) (@qv _ 1 _ _ (by walk_at "w")) (@in_add _))))), ?_⟩
  obtain ⟨dx, b, hd, RL, hw, L, hh, eR, n1, n2⟩ := W.ex
  obtain ⟨dy, y1, y2, y3, hb⟩ := L.obj
  refine ⟨_, rfl, k, 1, 60, rfl, q1, fun hk => ?_⟩
  refine ⟨_, rfl, w, _, dx, _, _, rfl, hw, T.cl_World, T.n_World_year, rfl, _, rfl, _, _, rfl, rfl, dx, _, hw, (by show 3 < 1000; decide), ?_⟩
  have nwh : hd ≠ w := ne_kind hh hw (fun z => by cases z)
  subst eR
  exact q hk _ (keep_upd.wide (fun a ha => by rw [List.mem_singleton.mp ha]; simp)) ⟨dx, b, hd, RL, upd_same, L.mv (fun a ha o e => by rw [upd_ne (show a ≠ w from fun z => n1 (by rw [← z]; exact ha))]; exact e), by rw [upd_ne nwh]; exact hh, rfl, n1, n2⟩
theorem ok_World_arrive {f : Addr} {fd : FuncData} (F : Fun K "arrive" "World.arrive" s_World_arrive f fd) (T : Txt K g mg) (D_want_between : Dx P w0 K mg base 1 "want_between" ["number", "low", "high"] (sp_want_between K g)) (D_Lives_arrive : Dm P w0 K mg base (CXR P w0 base) g.Lives 4 "arrive" ["self", "word", "born"] (sp_Lives_arrive K g)) : FnOk P w0 K mg base (CXR P w0 base) 5 f fd ["self", "word", "age"] (sp_World_arrive K g) := by
  refine F.okX sc_World_arrive (fun vs H Q E h => ?_) (fun cdv A outer s H vs Q E hr h => ?_)
  · obtain ⟨w, S, R, n, a, rfl, _⟩ := h
    rfl
  obtain ⟨w, S, R, n, a, rfl, W, hx, hl, q0, q1, q2, q⟩ := h
  refine ⟨_, (
(@pss_cons _ _ _ _ _ (@ps_expr _ _ _ _ (@pe_fnX _ _ _ _ _ _ _ _ _ _ _ passR D_want_between (hr.mono (by decide)) (@pa_cons _ _ _ _ _ (@qv _ 2 _ _ (by walk_at "w")) (@pa_cons _ _ _ _ _ (@pe_int _ _ _ _) (@pa_cons _ _ _ _ _ (@pe_glob _ _ (.int 120) _ _ rfl T.m_OLDEST ⟨_, rfl⟩ (by decide)) (@pa_nil _) (by rfl)) (by rfl)) (by rfl)) (by rfl) (by decide) (by rfl) (by rfl)) (by rfl)) (@pss_one _ _ _ (@ps_expr _ _ _ _ (@pe_mt _ _ _ _ _ _ _ _ _ _ _ _ _ _ _ _ passR D_Lives_arrive (hr.mono (by decide)) (@pe_fld _ _ _ _ _ (@qv _ 0 _ _ (by walk_at "w")) rfl) (@pa_cons _ _ _ _ _ (@qv _ 1 _ _ (by walk_at "w")) (@pa_cons _ _ _ _ _ (@pe_op _ _ _ _ _ _ _ _ (@op_sub _) (@pe_fld _ _ _ _ _ (@qv _ 0 _ _ (by walk_at "w")) rfl) (@qv _ 2 _ _ (by walk_at "w"))) (@pa_nil _) (by rfl)) (by rfl)) (by rfl) (by rfl) (by rfl)) (by rfl))))), ?_⟩
  obtain ⟨dx, b, hd, RL, hw, L, hh, eR, n1, n2⟩ := W.ex
  obtain ⟨dy, y1, y2, y3, hb⟩ := L.obj
  refine ⟨_, rfl, a, 0, 120, rfl, q0, fun ha => ?_⟩
  refine ⟨_, rfl, w, _, dx, _, _, rfl, hw, T.cl_World, T.n_World_lives, rfl, b, dy, _, rfl, hb, rfl, _, rfl, _, rfl, w, _, dx, _, _, rfl, hw, T.cl_World, T.n_World_year, rfl, _, rfl, _, _, rfl, rfl, b, S.bs, S.ds, RL, n, _, rfl, L, hx, hl, q1 ha, q2 ha, fun e1 e2 R' H' kp gr L' => ?_⟩
  subst eR
  obtain ⟨W', k', g'⟩ := WorldAt.book (S := S) hw hh n1 n2 kp gr L'
  exact q ha e1 e2 _ H' k' g' W'
theorem ok_World_birth {f : Addr} {fd : FuncData} (F : Fun K "birth" "World.birth" s_World_birth f fd) (T : Txt K g mg) (D_Lives_birth : Dm P w0 K mg base (CXR P w0 base) g.Lives 4 "birth" ["self", "name", "year"] (sp_Lives_birth K g)) : FnOk P w0 K mg base (CXR P w0 base) 5 f fd ["self", "name"] (sp_World_birth K g) := by
  refine F.okX sc_World_birth (fun vs H Q E h => ?_) (fun cdv A outer s H vs Q E hr h => ?_)
  · obtain ⟨w, S, R, n, rfl, _⟩ := h
    rfl
  obtain ⟨w, S, R, n, rfl, W, hl, h99, q0, q1, q2, q⟩ := h
  refine ⟨_, (
(@pss_one _ _ _ (@ps_ret _ _ _ _ (@pe_mt _ _ _ _ _ _ _ _ _ _ _ _ _ _ _ _ passR D_Lives_birth (hr.mono (by decide)) (@pe_fld _ _ _ _ _ (@qv _ 0 _ _ (by walk_at "w")) rfl) (@pa_cons _ _ _ _ _ (@qv _ 1 _ _ (by walk_at "w")) (@pa_cons _ _ _ _ _ (@pe_fld _ _ _ _ _ (@qv _ 0 _ _ (by walk_at "w")) rfl) (@pa_nil _) (by rfl)) (by rfl)) (by rfl) (by rfl) (by rfl))))), ?_⟩
  obtain ⟨dx, b, hd, RL, hw, L, hh, eR, n1, n2⟩ := W.ex
  obtain ⟨dy, y1, y2, y3, hb⟩ := L.obj
  refine ⟨_, rfl, w, _, dx, _, _, rfl, hw, T.cl_World, T.n_World_lives, rfl, b, dy, _, rfl, hb, rfl, _, rfl, _, rfl, w, _, dx, _, _, rfl, hw, T.cl_World, T.n_World_year, rfl, b, S.bs, S.ds, RL, n, _, rfl, L, hl, h99, q0, q1, q2, fun e1 e2 e3 R' H' kp gr L' => ?_⟩
  subst eR
  obtain ⟨W', k', g'⟩ := WorldAt.book (S := S) hw hh n1 n2 kp gr L'
  exact q e1 e2 e3 _ H' k' g' W'
theorem ok_World_death {f : Addr} {fd : FuncData} (F : Fun K "death" "World.death" s_World_death f fd) (T : Txt K g mg) (D_Lives_death : Dm P w0 K mg base (CXR P w0 base) g.Lives 4 "death" ["self", "name", "year"] (sp_Lives_death K g)) : FnOk P w0 K mg base (CXR P w0 base) 5 f fd ["self", "name"] (sp_World_death K g) := by
  refine F.okX sc_World_death (fun vs H Q E h => ?_) (fun cdv A outer s H vs Q E hr h => ?_)
  · obtain ⟨w, S, R, n, rfl, _⟩ := h
    rfl
  obtain ⟨w, S, R, n, rfl, W, hl, q0, q1, q⟩ := h
  refine ⟨_, (
(@pss_one _ _ _ (@ps_expr _ _ _ _ (@pe_mt _ _ _ _ _ _ _ _ _ _ _ _ _ _ _ _ passR D_Lives_death (hr.mono (by decide)) (@pe_fld _ _ _ _ _ (@qv _ 0 _ _ (by walk_at "w")) rfl) (@pa_cons _ _ _ _ _ (@qv _ 1 _ _ (by walk_at "w")) (@pa_cons _ _ _ _ _ (@pe_fld _ _ _ _ _ (@qv _ 0 _ _ (by walk_at "w")) rfl) (@pa_nil _) (by rfl)) (by rfl)) (by rfl) (by rfl) (by rfl)) (by rfl)))), ?_⟩
  obtain ⟨dx, b, hd, RL, hw, L, hh, eR, n1, n2⟩ := W.ex
  obtain ⟨dy, y1, y2, y3, hb⟩ := L.obj
  refine ⟨_, rfl, w, _, dx, _, _, rfl, hw, T.cl_World, T.n_World_lives, rfl, b, dy, _, rfl, hb, rfl, _, rfl, _, rfl, w, _, dx, _, _, rfl, hw, T.cl_World, T.n_World_year, rfl, b, S.bs, S.ds, RL, n, _, rfl, L, hl, q0, q1, fun e1 e2 H' kp L' => ?_⟩
  subst eR
  obtain ⟨W', k', g'⟩ := WorldAt.book (S := S) hw hh n1 n2 kp (Grow.refl _ _) L'
  exact q e1 e2 H' k' W'
theorem ok_World_comes {f : Addr} {fd : FuncData} (F : Fun K "comes" "World.comes" s_World_comes f fd) (T : Txt K g mg) (D_want_word : Dx P w0 K mg base 3 "want_word" ["word"] (sp_want_word K g)) : FnOk P w0 K mg base (CXR P w0 base) 4 f fd ["self", "word"] (sp_World_comes K g) := by
  refine F.okX sc_World_comes (fun vs H Q E h => ?_) (fun cdv A outer s H vs Q E hr h => ?_)
  · obtain ⟨w, S, R, n, rfl, _⟩ := h
    rfl
  obtain ⟨w, S, R, n, rfl, W, hx, hl, q0, q1, q⟩ := h
  refine ⟨_, (
(@pss_cons _ _ _ _ _ (@ps_expr _ _ _ _ (@pe_fnX _ _ _ _ _ _ _ _ _ _ _ passR D_want_word (hr.mono (by decide)) (@pa_cons _ _ _ _ _ (@qv _ 1 _ _ (by walk_at "w")) (@pa_nil _) (by rfl)) (by rfl) (by decide) (by rfl) (by rfl)) (by rfl)) (@pss_cons _ _ _ _ _ (@ps_if _ _ _ _ _ _ _ _ (@pt_cmp _ _ _ _ _ _ (@pc_din _ _ _ _ _ (hu_of hr) (@qv _ 1 _ _ (by walk_at "w")) (@pe_fld _ _ _ _ _ (@qv _ 0 _ _ (by walk_at "w")) rfl)) (by walk_at "n")) (@pss_one _ _ _ (@ps_raise _ _ _ _ _ _ _ _ _ _ _ _ _ _ _ _ _ _ _ _ _ _ T.x_Taken.x T.m_Taken (@pe_str _ _ _ _) (by rfl) (by rfl) (by decide))) (@pss_nil _)) (@pss_one _ _ _ (@ps_dput _ _ _ _ _ _ _ _ _ (hu_of hr) (@pe_fld _ _ _ _ _ (@qv _ 0 _ _ (by walk_at "w")) rfl) (@qv _ 1 _ _ (by walk_at "w")) (@pe_fld _ _ _ _ _ (@qv _ 0 _ _ (by walk_at "w")) rfl) rfl))))), ?_⟩
  obtain ⟨dx, b, hd, RL, hw, L, hh, eR, n1, n2⟩ := W.ex
  obtain ⟨dy, y1, y2, y3, hb⟩ := L.obj
  refine ⟨_, rfl, n, rfl, hx, q0, fun hg => ?_⟩
  refine ⟨_, rfl, _, rfl, w, _, dx, _, _, rfl, hw, T.cl_World, T.n_World_happened, rfl, hd, _, rfl, DGet.k (k := Sum.inr n) hh, _, rfl, ?_⟩
  rw [valV_has]
  cases hc : has S.cs n with
  | true => exact iteT ⟨rfl, q1 hg hc⟩
  | false =>
    refine iteF ⟨_, rfl, w, _, dx, _, _, rfl, hw, T.cl_World, T.n_World_year, rfl, _, rfl, w, _, dx, _, _, rfl, hw, T.cl_World, T.n_World_happened, rfl, _, rfl, hd, _, rfl, DPut.k (k := Sum.inr n) hh (small1000 (by unfold yrs; rw [List.length_map]; omega)), ?_⟩
    rw [putK_new _ (no_valV hc), yrs_app]
    have nwh : w ≠ hd := ne_kind hw hh (fun z => by cases z)
    subst eR
    exact q hg hc _ (keep_upd.wide (fun a ha => by rw [List.mem_singleton.mp ha]; simp)) ⟨dx, b, hd, RL, by rw [upd_ne nwh]; exact hw, L.mv (fun a ha o e => by rw [upd_ne (show a ≠ hd from fun z => n2 (by rw [← z]; exact ha))]; exact e), upd_same, rfl, n1, n2⟩
theorem ok_class_end {f : Addr} {fd : FuncData} (F : Fun K "class_end" "class_end" s_class_end f fd) (T : Txt K g mg) (D_left_out : Dn P w0 K mg base 5 "left_out" ["world", "name"] (sp_left_out K g)) (D_may_grow : Dn P w0 K mg base 5 "may_grow" ["world", "name"] (sp_may_grow K g)) (D_has_seat : Dn P w0 K mg base 6 "has_seat" ["world", "name", "age", "out"] (sp_has_seat K g)) (D_Lives_born_in : Dm P w0 K mg base (CXR P w0 base) g.Lives 3 "born_in" ["self", "name"] (sp_Lives_born_in K g)) (D_waiting : Dn P w0 K mg base 6 "waiting" ["world", "name", "age", "out"] (sp_waiting K g)) : FnOk P w0 K mg base CX0 7 f fd ["world", "name", "age"] (sp_class_end K g) := by
  refine F.ok sc_class_end (fun vs H Q E h => ?_) (fun cdv A outer s H vs Q E hr h => ?_)
  · obtain ⟨w, S, R, n, a, rfl, _⟩ := h
    rfl
  obtain ⟨w, S, R, n, a, rfl, W, hlen, on, h0, h1, q⟩ := h
  refine ⟨_, (
(@pss_cons _ _ _ _ _ (@ps_set _ _ (3) _ _ _ _ sc_class_end.nd rfl (Or.inl rfl) (@pe_fn _ _ _ _ _ _ _ _ _ _ D_left_out (hr.mono (by decide)) (@pa_cons _ _ _ _ _ (@qv _ 0 _ _ (by walk_at "w")) (@pa_cons _ _ _ _ _ (@qv _ 1 _ _ (by walk_at "w")) (@pa_nil _) (by rfl)) (by rfl)) (by rfl) (by decide) (by rfl) (by rfl)) (by rfl) (by walk_at "u")) (@pss_cons _ _ _ _ _ (@ps_if _ _ _ _ _ _ _ _ (@PW.pt _ _ _ (@pw_or _ _ _ _ _ _ _ (@pt_val _ _ _ (@pe_fn _ _ _ _ _ _ _ _ _ _ D_may_grow (hr.mono (by decide)) (@pa_cons _ _ _ _ _ (@qv _ 0 _ _ (by walk_at "w")) (@pa_cons _ _ _ _ _ (@qv _ 1 _ _ (by walk_at "w")) (@pa_nil _) (by rfl)) (by rfl)) (by rfl) (by decide) (by rfl) (by rfl)) (by intro _ ; rfl)) (@pw_or1 _ _ _ _ (@pt_val _ _ _ (@pe_fn _ _ _ _ _ _ _ _ _ _ D_has_seat (hr.mono (by decide)) (@pa_cons _ _ _ _ _ (@qv _ 0 _ _ (by walk_at "w")) (@pa_cons _ _ _ _ _ (@qv _ 1 _ _ (by walk_at "w")) (@pa_cons _ _ _ _ _ (@qv _ 2 _ _ (by walk_at "w")) (@pa_cons _ _ _ _ _ (@qv _ 3 _ _ (by walk_at "w")) (@pa_nil _) (by rfl)) (by rfl)) (by rfl)) (by rfl)) (by rfl) (by decide) (by rfl) (by rfl)) (by intro _ ; rfl))))) (@pss_one _ _ _ (@ps_ret _ _ _ _ (@pe_fld _ _ _ _ _ (@qv _ 0 _ _ (by walk_at "w")) rfl))) (@pss_nil _)) (@pss_cons _ _ _ _ _ (@ps_setLC _ (4) _ _ _ _ _ ("child") _ _ _ ([("world", s.heap.objs.size + 1)]) _ ([("world", 0)]) _ _ _ sc_class_end.nd rfl (Or.inl rfl) rfl (@pi_list _ _ _ _ (@pe_fn _ _ _ _ _ _ _ _ _ _ D_waiting (hr.mono (by decide)) (@pa_cons _ _ _ _ _ (@qv _ 0 _ _ (by walk_at "w")) (@pa_cons _ _ _ _ _ (@qv _ 1 _ _ (by walk_at "w")) (@pa_cons _ _ _ _ _ (@qv _ 2 _ _ (by walk_at "w")) (@pa_cons _ _ _ _ _ (@qv _ 3 _ _ (by walk_at "w")) (@pa_nil _) (by rfl)) (by rfl)) (by rfl)) (by rfl)) (by rfl) (by decide) (by rfl) (by rfl))) (fun _ _ _ _ _ => (@pifs_nil _)) (fun _ _ _ _ _ => (@pe_mt _ _ _ _ _ _ _ _ _ _ _ _ _ _ _ _ passF D_Lives_born_in (hr.mono (by decide)) (show PE _ _ (tFld K (tVar 1) "lives") from (@pe_fld _ _ _ _ _ (@qv _ 1 _ _ (by walk_at "w")) rfl)) (@pa_cons _ _ _ _ _ (@qv _ 0 _ _ (by walk_at "w")) (@pa_nil _) (by rfl)) (by rfl) (by rfl) (by rfl))) rfl (by decide +kernel) rfl (by decide +kernel) rfl (fun _ _ h => h) (has_of rfl) (fun p hp => by rw [List.mem_singleton.mp hp]; exact ⟨rfl, rfl, by first | exact .inl rfl | exact .inr rfl⟩) (by decide +kernel) (by intro _ ; rfl) (by rfl) (by walk_at "u")) (@pss_one _ _ _ (@ps_ret _ _ _ _ (@pe_ifExp _ _ _ _ _ _ _ _ (@pt_truth _ _ _ (@qv _ 4 _ _ (by walk_at "w")) (fun _ => rfl)) (@pe_op _ _ _ _ _ _ _ _ (@op_add _) (@pe_callB _ _ _ _ _ _ _ _ _ (@call_min1 _ rfl) rfl T.z_min PyProof.Rows.boot_min (@pa_cons _ _ _ _ _ (@qv _ 4 _ _ (by walk_at "w")) (@pa_nil _) (by rfl)) (by decide) (by decide) (by rfl) (by rfl)) (@qv _ 2 _ _ (by walk_at "w"))) (@pe_fld _ _ _ _ _ (@qv _ 0 _ _ (by walk_at "w")) rfl)))))))), ?_⟩
  have wf := W.wf
  have hl9 : S.bs.length ≤ 900 := by omega
  have pn := on.1
  walk_at "go"
  intro o H1 s1 fo ho
  have W1 := W.same s1
  have hoS := SqL.of (K := K) ho
  walk_at "go"
  intro H2 s2
  have W2 := W1.same s2
  have hoS2 := s2.seq hoS
  walk_at "go"
  have s12 := s1.trans s2
  cases hal : al S.bs S.ds (nr S.bs n) with
  | true =>
    obtain ⟨dx, b, hd, RL, hw, L, hh, eR, n1, n2⟩ := W2.ex
    walk_at "go"
    exact q S.y _ ⟨fun _ => rfl, fun z => by rw [hal] at z; cases z⟩ s12
  | false =>
    walk_at "go"
    intro H3 s3
    have s13 := s12.trans s3
    have W3 := W2.same s3
    have hoS3 := s3.seq hoS2
    cases hse : hasSeat S n a (outL S n) with
    | true =>
      obtain ⟨dx, b, hd, RL, hw, L, hh, eR, n1, n2⟩ := W3.ex
      walk_at "go"
      exact q S.y _ ⟨fun _ => rfl, fun z => by rw [hal, hse] at z; cases z⟩ s13
    | false =>
      refine ⟨_, rfl, iteF ?_⟩
      unfold tNext
      dsimp only
      unfold tSeq tAsg
      dsimp only
      refine lcS (ss := waitL S n a (outL S n)) (fun l1 H4 => Same H3 H4 ∧ H4 l1 = some (.lst ((waitL S n a (outL S n)).map V.str)) ∧ H3 l1 = none) (fun _ => true) (fun c => .int (bornS S c)) ?_ (fun a H1 h => SqL.of h.2.1) (by have := List.length_filter_le (fun c => !decide (a ≤ ageS S c) && !has S.ds c) (memL S n (outL S n)); have := memL_len wf (n := n) (os := outL S n); show (List.filter _ _).length ≤ _; omega) ?_ ?_ ?_
      · intro R0 r
        walk_at "go"
        exact fun l H' s f h => r l H' ⟨s, h, f⟩
      · exact fun a0 H1 x H2 _ hx s R0 r => r H2 (Same.refl _)
      · rintro a0 H4 x H5 ⟨s4, h4, _⟩ hx _ s R0 r
        have hk := kidsOf_has wf (waitL_sub hx)
        obtain ⟨dx, b, hd, RL, hw, L, hh, eR, n1, n2⟩ := (W3.same (s4.trans s)).ex
        obtain ⟨dy, y1, y2, y3, hb⟩ := L.obj
        walk_at "go"
        refine ⟨(fun z => by rw [hk] at z; cases z), fun y hy => ?_⟩
        rw [← born_yr hy]
        exact r H5 (Same.refl _)
      · rintro a0 H4 D H5 ⟨s4, h4, _⟩ hD s h
        have s15 := s13.trans (s4.trans s)
        obtain ⟨dx, b, hd, RL, hw, L, hh, eR, n1, n2⟩ := (W3.same (s4.trans s)).ex
        have h' : H5 D = some (.lst (((waitL S n a (outL S n)).map (bornS S)).map V.int)) := by rw [h, List.filter_eq_self.mpr (fun _ _ => rfl), List.map_map]; rfl
        walk_at "go"
        cases hwa : waitL S n a (outL S n) with
        | nil =>
          walk_at "go"
          exact q S.y _ ⟨fun _ => rfl, fun _ z => absurd hwa z⟩ s15
        | cons x0 r0 =>
          have ne : (waitL S n a (outL S n)).map (bornS S) ≠ [] := by rw [hwa]; exact List.cons_ne_nil _ _
          have hb' := SqL.of (K := K) h'
          walk_at "go"
          intro M hM hle
          walk_at "go"
          exact q _ _ ⟨(fun z => by rw [hal, hse, hwa] at z; rcases z with z | z <;> cases z), fun _ _ => ⟨M, hM, hle, rfl⟩⟩ s15
theorem ok_first_end {f : Addr} {fd : FuncData} (F : Fun K "first_end" "first_end" s_first_end f fd) (T : Txt K g mg) (D_is_class : Dn P w0 K mg base 1 "is_class" ["holder"] (sp_is_class K g)) (D_Lives_born_in : Dm P w0 K mg base (CXR P w0 base) g.Lives 3 "born_in" ["self", "name"] (sp_Lives_born_in K g)) (D_class_end : Dn P w0 K mg base 7 "class_end" ["world", "name", "age"] (sp_class_end K g)) (D_Lives_alive : Dm P w0 K mg base CX0 g.Lives 1 "alive" ["self", "name"] (sp_Lives_alive K g)) : FnOk P w0 K mg base CX0 8 f fd ["world", "holder", "atoms"] (sp_first_end K g) := by
  refine F.ok sc_first_end (fun vs H Q E h => ?_) (fun cdv A outer s H vs Q E hr h => ?_)
  · obtain ⟨w, S, R, p, l, h, ts, ps, rfl, _⟩ := h
    rfl
  obtain ⟨w, S, R, p, l, h, ts, ps, rfl, W, hlen, hp, A0, oh, ok, tl, q⟩ := h
  refine ⟨_, (
(@pss_cons _ _ _ _ _ (@ps_set _ _ (3) _ _ _ _ sc_first_end.nd rfl (Or.inr rfl) (@pe_fld _ _ _ _ _ (@qv _ 0 _ _ (by walk_at "w")) rfl) (by rfl) (by walk_at "u")) (@pss_cons _ _ _ _ _ (@ps_setLC _ (4) _ _ _ _ _ ("atom") _ _ _ ([("lives", s.heap.objs.size + 1)]) _ ([("lives", 3)]) _ _ _ sc_first_end.nd rfl (Or.inl rfl) rfl (@pi_list _ _ _ _ (@qv _ 2 _ _ (by walk_at "w"))) (fun _ _ _ _ _ => (@pifs_one _ _ _ (@PW.pt _ _ _ (@pw_and _ _ _ _ _ _ _ (@pt_cmpR _ _ _ _ _ _ _ _ (@op_eq _) (@pe_ix _ _ _ _ _ _ _ (show IxR _ (rIxT K) from (@ix_tup _)) (@qv _ 0 _ _ (by walk_at "w")) (@pe_int _ _ _ _) (fun _ _ => rfl)) (@pe_str _ _ _ _) (nomark _)) (@pw_and1 _ _ _ _ (@pt_val _ _ _ (@pe_mt _ _ _ _ _ _ _ _ _ _ _ _ _ _ _ _ pass0 D_Lives_alive (hr.mono (by decide)) (@qv _ 1 _ _ (by walk_at "w")) (@pa_cons _ _ _ _ _ (@pe_ix _ _ _ _ _ _ _ (show IxR _ (rIxT K) from (@ix_tup _)) (@qv _ 0 _ _ (by walk_at "w")) (@pe_int _ _ _ _) (fun _ _ => rfl)) (@pa_nil _) (by rfl)) (by rfl) (by rfl) (by rfl)) (by intro _ ; rfl))))))) (fun _ _ _ _ _ => (@pe_op _ _ _ _ _ _ _ _ (@op_add _) (@pe_mt _ _ _ _ _ _ _ _ _ _ _ _ _ _ _ _ passF D_Lives_born_in (hr.mono (by decide)) (@qv _ 1 _ _ (by walk_at "w")) (@pa_cons _ _ _ _ _ (@pe_ix _ _ _ _ _ _ _ (show IxR _ (rIxT K) from (@ix_tup _)) (@qv _ 0 _ _ (by walk_at "w")) (@pe_int _ _ _ _) (fun _ _ => rfl)) (@pa_nil _) (by rfl)) (by rfl) (by rfl) (by rfl)) (@pe_ix _ _ _ _ _ _ _ (show IxR _ (rIxT K) from (@ix_tup _)) (@qv _ 0 _ _ (by walk_at "w")) (@pe_int _ _ _ _) (fun _ _ => rfl)))) rfl (by decide +kernel) rfl (by decide +kernel) rfl (fun _ _ h => h) (has_of rfl) (fun p hp => by rw [List.mem_singleton.mp hp]; exact ⟨rfl, rfl, by first | exact .inl rfl | exact .inr rfl⟩) (by decide +kernel) (by intro _ ; rfl) (by rfl) (by walk_at "u")) (@pss_cons _ _ _ _ _ (@ps_if _ _ _ _ _ _ _ _ (@pt_val _ _ _ (@pe_fn _ _ _ _ _ _ _ _ _ _ D_is_class (hr.mono (by decide)) (@pa_cons _ _ _ _ _ (@qv _ 1 _ _ (by walk_at "w")) (@pa_nil _) (by rfl)) (by rfl) (by decide) (by rfl) (by rfl)) (by intro _ ; rfl)) (@pss_one _ _ _ (@ps_expr _ _ _ _ (@pe_bm _ _ _ _ _ _ _ _ _ _ _ _ PySem.F.plainAttrs_list PySem.F.slot_list_append PySem.F.type_list_append (@mt_append _) (@qv _ 4 _ _ (by walk_at "w")) (@pa_cons _ _ _ _ _ (@pe_fn _ _ _ _ _ _ _ _ _ _ D_class_end (hr.mono (by decide)) (@pa_cons _ _ _ _ _ (@qv _ 0 _ _ (by walk_at "w")) (@pa_cons _ _ _ _ _ (@pe_ix _ _ _ _ _ _ _ (@ix_tup _) (@qv _ 1 _ _ (by walk_at "w")) (@pe_int _ _ _ _) (fun _ _ => rfl)) (@pa_cons _ _ _ _ _ (@pe_ix _ _ _ _ _ _ _ (@ix_tup _) (@qv _ 1 _ _ (by walk_at "w")) (@pe_int _ _ _ _) (fun _ _ => rfl)) (@pa_nil _) (by rfl)) (by rfl)) (by rfl)) (by rfl) (by decide) (by rfl) (by rfl)) (@pa_nil _) (by rfl)) (by rfl) (by rfl) (by rfl) (by rfl) (by rfl)) (by rfl))) (@pss_nil _)) (@pss_one _ _ _ (@ps_ret _ _ _ _ (@pe_callB _ _ _ _ _ _ _ _ _ (@call_max1 _ rfl) rfl T.z_max PyProof.Rows.boot_max (@pa_cons _ _ _ _ _ (@pe_op _ _ _ _ _ _ _ _ (@op_cat _) (@pe_lst _ _ _ _ (@pa_cons _ _ _ _ _ (@pe_fld _ _ _ _ _ (@qv _ 0 _ _ (by walk_at "w")) rfl) (@pa_nil _) (by rfl))) (@qv _ 4 _ _ (by walk_at "w"))) (@pa_nil _) (by rfl)) (by decide) (by decide) (by rfl) (by rfl)))))))), ?_⟩
  have wf := W.wf
  obtain ⟨dx, b, hd, RL, hw, L, hh, eR, n1, n2⟩ := W.ex
  obtain ⟨dy, y1, y2, y3, hb⟩ := L.obj
  refine ⟨_, rfl, w, _, dx, _, _, rfl, hw, T.cl_World, T.n_World_lives, rfl, ?_⟩
  unfold gName
  dsimp only
  unfold tSeq tAsg
  dsimp only
  refine lcLvT (xs := ps.map V.ref) (fun a H1 => a = l ∧ H1 = H) ?_ ?_ (by rw [List.length_map, A0.len]; omega) (fun i => (ts[i]?.map (isAg S)).getD false) (fun i => .int ((ts[i]?.map (agY S)).getD 0)) ?_ ?_ ?_
  · exact fun R0 r => ⟨_, rfl, r l H ⟨rfl, rfl⟩⟩
  · rintro a H1 ⟨rfl, rfl⟩
    exact SqL.of A0.lst
  · rintro a H1 i x H2 ⟨rfl, rfl⟩ hx s R0 r
    obtain ⟨p2, t, rfl, ht, hp2⟩ := (A0.same s).at' hx
    rw [ht] at r
    have LL := L.same s
    have hb2 := s _ _ hb
    cases t with
    | age n a =>
      walk_at "go"
      exact r H2 (Same.refl _)
    | born n =>
      walk_at "go"
      rw [str_dec, decide_eq_false (by decide +kernel)]
      exact iteF (r H2 (Same.refl _))
    | dead n =>
      walk_at "go"
      rw [str_dec, decide_eq_false (by decide +kernel)]
      exact iteF (r H2 (Same.refl _))
    | year n =>
      walk_at "go"
      rw [str_dec, decide_eq_false (by decide +kernel)]
      exact iteF (r H2 (Same.refl _))
    | comes n =>
      walk_at "go"
      rw [str_dec, decide_eq_false (by decide +kernel)]
      exact iteF (r H2 (Same.refl _))
  · rintro a H1 i x H2 ⟨rfl, rfl⟩ hx hf s R0 r
    obtain ⟨p2, t, rfl, ht, hp2⟩ := (A0.same s).at' hx
    rw [ht] at r hf
    have LL := L.same s
    have hb2 := s _ _ hb
    cases t with
    | age n a =>
      have hk : has S.bs n = true := by
        have z : al S.bs S.ds n = true := hf
        unfold al at z
        rw [Bool.and_eq_true] at z
        exact z.1
      walk_at "go"
      refine ⟨(fun z => by rw [hk] at z; cases z), fun y hy => ?_⟩
      have z := r H2 (Same.refl _)
      rw [show ((some (Atm.age n a)).map (agY S)).getD 0 = y + a from by show bornS S n + a = _; rw [born_yr hy]] at z
      walk_at "go"
      exact z
    | _ => cases hf
  rintro a1 H1 D H2 ⟨rfl, rfl⟩ hD s2 h2
  rw [List.length_map, A0.len, ag_of] at h2
  have W2 := W.same s2
  have hp2 := s2 _ _ hp
  have hw2 := s2 _ _ hw
  have al := agL_len S ts
  cases h with
  | one n =>
    walk_at "go"
    intro l5 hl5
    have s5 := same_new hl5 (.lst [V.int S.y])
    have h5 := s5 _ _ h2
    refine ⟨_, rfl, l5, D, _, _, rfl, rfl, upd_same, h5, line_ok (by rw [List.length_map]; show 1 + _ ≤ 500; omega), fun l6 hl6 => ?_⟩
    have s6 := same_new hl6 (.lst ([V.int S.y] ++ (agL S ts).map V.int))
    refine ⟨l6, S.y :: agL S ts, rfl, SqL.of upd_same, by simp, fun M hm hl => q M _ ⟨S.y, rfl, List.mem_cons_of_mem _ hm, fun x hx => ?_⟩ ((s2.trans s5).trans s6)⟩
    rcases List.mem_cons.mp hx with rfl | hx
    · exact hl _ (by simp)
    · exact hl x hx
  | kids n a =>
    obtain ⟨on, h0, h1⟩ := oh
    walk_at "go"
    intro e H3 he s3
    have h3 := s3 _ _ h2
    have lS : ((agL S ts).map V.int).length < sizeLine := small1000 (by rw [List.length_map]; omega)
    have nwD : w ≠ D := fun z => by rw [z, hD] at hw; cases hw
    have hw4 : upd H3 D (.lst ((agL S ts).map V.int ++ [V.int e])) w = H1 w := by rw [upd_ne nwD, s3 _ _ hw2, hw]
    rw [hw] at hw4
    have h4 : upd H3 D (.lst ((agL S ts).map V.int ++ [V.int e])) D = some (.lst ((agL S ts).map V.int ++ [V.int e])) := upd_same
    have s4 : Same H1 (upd H3 D (.lst ((agL S ts).map V.int ++ [V.int e]))) := same_put1 (s2.trans s3) hD
    walk_at "go"
    intro l5 hl5
    have s5 := same_new hl5 (.lst [V.int S.y])
    have h5 := s5 _ _ h4
    refine ⟨_, rfl, l5, D, _, _, rfl, rfl, upd_same, h5, line_ok (by rw [List.length_append, List.length_map]; show 1 + (_ + 1) ≤ 500; omega), fun l6 hl6 => ?_⟩
    have s6 := same_new hl6 (.lst ([V.int S.y] ++ ((agL S ts).map V.int ++ [V.int e])))
    refine ⟨l6, S.y :: (agL S ts ++ [e]), rfl, SqL.of (by rw [upd_same, List.map_cons, List.map_append]; rfl), by simp, fun M hm hl => q M _ ⟨e, he, ?_, fun x hx => hl x ?_⟩ ((s4.trans s5).trans s6)⟩
    · simp only [List.mem_cons, List.mem_append, List.mem_singleton] at hm ⊢
      rcases hm with z | z | z
      · exact .inl z
      · exact .inr (.inr z)
      · rcases z with z | z
        · exact .inr (.inl z)
        · cases z
    · simp only [List.mem_cons, List.mem_append, List.mem_singleton] at hx ⊢
      rcases hx with z | z | z
      · exact .inl z
      · exact .inr (.inr (.inl z))
      · exact .inr (.inl z)
theorem ok_law_num {f : Addr} {fd : FuncData} (F : Fun K "_law_num" "_law_num" s_law_num f fd) (T : Txt K g mg)  : FnOk P w0 K mg base CX0 1 f fd ["_law_found"] (sp_law_num K g) := by
  refine F.ok sc_law_num (fun vs H Q E h => ?_) (fun cdv A outer s H vs Q E hr h => ?_)
  · obtain ⟨i, rfl, _⟩ := h
    rfl
  obtain ⟨i, rfl, q⟩ := h
  refine ⟨_, (
(@pss_one _ _ _ (@ps_ret _ _ _ _ (@pe_and _ _ _ _ _ _ _ (@pe_callB _ _ _ _ _ _ _ _ _ (@call_isi _) rfl T.z_isinstance PyProof.Rows.boot_isinstance (@pa_cons _ _ _ _ _ (@qv _ 0 _ _ (by walk_at "w")) (@pa_cons _ _ _ _ _ (@pe_bltn _ _ (V.ty "int") _ _ rfl T.z_int PyProof.Rows.boot_int rfl (by decide) (by decide)) (@pa_nil _) (by rfl)) (by rfl)) (by decide) (by decide) (by rfl) (by rfl)) (@pe_one _ _ _ _ _ (@pe_not _ _ _ _ (@pe_callB _ _ _ _ _ _ _ _ _ (@call_isi _) rfl T.z_isinstance PyProof.Rows.boot_isinstance (@pa_cons _ _ _ _ _ (@qv _ 0 _ _ (by walk_at "w")) (@pa_cons _ _ _ _ _ (@pe_bltn _ _ (V.ty "bool") _ _ rfl T.z_bool PyProof.Rows.boot_bool rfl (by decide) (by decide)) (@pa_nil _) (by rfl)) (by rfl)) (by decide) (by decide) (by rfl) (by rfl)))))))), ?_⟩
  refine ⟨_, rfl, _, _, _, _, rfl, .int _, kit_ii, _, rfl, iteT ?_⟩
  exact ⟨_, rfl, _, _, _, _, rfl, .int _, kit_ib, _, rfl, q⟩
theorem ok_law_cell_at {f : Addr} {fd : FuncData} (F : Fun K "_law_cell_at" "_law_cell_at" s_law_cell_at f fd) (T : Txt K g mg)  : FnOk P w0 K mg base CX0 1 f fd ["_law_script", "_law_k"] (sp_law_cell_at K g) := by
  refine F.ok sc_law_cell_at (fun vs H Q E h => ?_) (fun cdv A outer s H vs Q E hr h => ?_)
  · obtain ⟨a, ns, k, rfl, _⟩ := h
    rfl
  obtain ⟨a, ns, k, rfl, hS, h0, q⟩ := h
  refine ⟨_, (
(@pss_cons _ _ _ _ _ (@ps_if _ _ _ _ _ _ _ _ (@pt_cmpR _ _ _ _ _ _ _ _ (@op_lt _) (@qv _ 1 _ _ (by walk_at "w")) (@pe_callB _ _ _ _ _ _ _ _ _ (@call_len _) rfl T.z_len PySem.boot_len (@pa_cons _ _ _ _ _ (@qv _ 0 _ _ (by walk_at "w")) (@pa_nil _) (by rfl)) (by decide) (by decide) (by rfl) (by rfl)) (nomark _)) (@pss_one _ _ _ (@ps_ret _ _ _ _ (@pe_ix _ _ _ _ _ _ _ (@ix_list _) (@qv _ 0 _ _ (by walk_at "w")) (@qv _ 1 _ _ (by walk_at "w")) (fun _ _ => rfl)))) (@pss_nil _)) (@pss_one _ _ _ (@ps_ret _ _ _ _ (@pe_int _ _ _ _))))), ?_⟩
  have hl : (ns.map V.int).length = ns.length := List.length_map _
  refine ⟨_, rfl, _, rfl, _, _, rfl, .inl ⟨_, hS, rfl⟩, _, _, rfl, rfl, _, rfl, ?_⟩
  refine ite2 (fun c => ?_) (fun c => ?_)
  · have c' : k < (((ns.map V.int).length : Nat) : Int) := of_decide_eq_true c
    rw [hl] at c'
    have hk : k.toNat < ns.length := by omega
    have e : atI (ns.map V.int) ((k.toNat : Nat) : Int) = some (.int ns[k.toNat]) := atI_nat (by rw [List.getElem?_map, List.getElem?_eq_getElem hk] <;> rfl)
    rw [show ((k.toNat : Nat) : Int) = k by omega] at e
    exact ⟨_, rfl, _, rfl, a, _, _, _, rfl, rfl, hS, e, q _⟩
  · exact q 0
theorem ok_law_rich {f : Addr} {fd : FuncData} (F : Fun K "_law_rich" "_law_rich" s_law_rich f fd) (T : Txt K g mg)  : FnOk P w0 K mg base CX0 1 f fd ["_law_cell", "_law_place"] (sp_law_rich K g) := by
  refine F.ok sc_law_rich (fun vs H Q E h => ?_) (fun cdv A outer s H vs Q E hr h => ?_)
  · obtain ⟨c, p, rfl, _⟩ := h
    rfl
  obtain ⟨c, p, rfl, q⟩ := h
  refine ⟨_, (
(@pss_cons _ _ _ _ _ (@ps_if _ _ _ _ _ _ _ _ (@pt_cmpR _ _ _ _ _ _ _ _ (@op_ge _) (@qv _ 0 _ _ (by walk_at "w")) (@pe_op _ _ _ _ _ _ _ _ (@op_pow _) (@pe_int _ _ _ _) (@pe_int _ _ _ _)) (nomark _)) (@pss_one _ _ _ (@ps_ret _ _ _ _ (@qv _ 0 _ _ (by walk_at "w")))) (@pss_nil _)) (@pss_cons _ _ _ _ _ (@ps_set _ _ (2) _ _ _ _ sc_law_rich.nd rfl (Or.inl rfl) (@pe_op _ _ _ _ _ _ _ _ (@op_mod _) (@pe_op _ _ _ _ _ _ _ _ (@op_add _) (@pe_op _ _ _ _ _ _ _ _ (@op_add _) (@pe_op _ _ _ _ _ _ _ _ (@op_mul _) (@qv _ 0 _ _ (by walk_at "w")) (@pe_int _ _ _ _)) (@pe_op _ _ _ _ _ _ _ _ (@op_mul _) (@qv _ 1 _ _ (by walk_at "w")) (@pe_int _ _ _ _))) (@pe_int _ _ _ _)) (@pe_int _ _ _ _)) (by rfl) (by walk_at "u")) (@pss_cons _ _ _ _ _ (@ps_set _ _ (3) _ _ _ _ sc_law_rich.nd rfl (Or.inl rfl) (@pe_op _ _ _ _ _ _ _ _ (@op_mod _) (@pe_op _ _ _ _ _ _ _ _ (@op_add _) (@pe_op _ _ _ _ _ _ _ _ (@op_add _) (@pe_op _ _ _ _ _ _ _ _ (@op_mul _) (@qv _ 2 _ _ (by walk_at "w")) (@qv _ 2 _ _ (by walk_at "w"))) (@pe_op _ _ _ _ _ _ _ _ (@op_mul _) (@qv _ 0 _ _ (by walk_at "w")) (@pe_int _ _ _ _))) (@pe_op _ _ _ _ _ _ _ _ (@op_mul _) (@qv _ 1 _ _ (by walk_at "w")) (@pe_int _ _ _ _))) (@pe_int _ _ _ _)) (by rfl) (by walk_at "u")) (@pss_one _ _ _ (@ps_ret _ _ _ _ (@pe_op _ _ _ _ _ _ _ _ (@op_add _) (@pe_op _ _ _ _ _ _ _ _ (@op_mul _) (@qv _ 2 _ _ (by walk_at "w")) (@pe_int _ _ _ _)) (@qv _ 3 _ _ (by walk_at "w"))))))))), ?_⟩
  refine ⟨_, rfl, _, _, rfl, rfl, ⟨by decide, by decide, by decide⟩, _, _, rfl, rfl, _, rfl, ?_⟩
  refine ite2 (fun _ => ?_) (fun _ => ?_)
  · exact ⟨_, rfl, q _⟩
  · have small : ∀ z : Int, (-(2 ^ 64) < z % 2147483647 ∧ z % 2147483647 < 2 ^ 64) := fun z => ⟨by omega, by omega⟩
    refine ⟨_, rfl, _, _, rfl, rfl, .inr ⟨by decide, by decide⟩, _, rfl, _, _, rfl, rfl, .inr ⟨by decide, by decide⟩, _, _, rfl, rfl, _, _, rfl, rfl, _, _, rfl, rfl, (by show (0 : Int) < 2147483647; decide), ?_⟩
    refine ⟨_, rfl, _, rfl, _, _, rfl, rfl, .inl (small _), _, rfl, _, _, rfl, rfl, .inr ⟨by decide, by decide⟩, _, _, rfl, rfl, _, rfl, _, _, rfl, rfl, .inr ⟨by decide, by decide⟩, _, _, rfl, rfl, _, _, rfl, rfl, (by show (0 : Int) < 2147483629; decide), ?_⟩
    exact ⟨_, rfl, _, _, rfl, rfl, .inr ⟨by decide, by decide⟩, _, rfl, _, _, rfl, rfl, q _⟩
theorem ok_law_word {f : Addr} {fd : FuncData} (F : Fun K "_law_word" "_law_word" s_law_word f fd) (T : Txt K g mg)  : FnOk P w0 K mg base CX0 1 f fd ["_law_n"] (sp_law_word K g) := by
  refine F.ok sc_law_word (fun vs H Q E h => ?_) (fun cdv A outer s H vs Q E hr h => ?_)
  · obtain ⟨n, rfl, _⟩ := h
    rfl
  obtain ⟨n, rfl, q⟩ := h
  refine ⟨_, (
(@pss_cons _ _ _ _ _ (@ps_set _ _ (1) _ _ _ _ sc_law_word.nd rfl (Or.inl rfl) (@pe_op _ _ _ _ _ _ _ _ (@op_add _) (@pe_int _ _ _ _) (@pe_op _ _ _ _ _ _ _ _ (@op_mod _) (@qv _ 0 _ _ (by walk_at "w")) (@pe_int _ _ _ _))) (by rfl) (by walk_at "u")) (@pss_cons _ _ _ _ _ (@ps_set _ _ (0) _ _ _ _ sc_law_word.nd rfl (Or.inl rfl) (@pe_op _ _ _ _ _ _ _ _ (@op_fdiv _) (@qv _ 0 _ _ (by walk_at "w")) (@pe_int _ _ _ _)) (by rfl) (by walk_at "u")) (@pss_cons _ _ _ _ _ (@ps_set _ _ (2) _ _ _ _ sc_law_word.nd rfl (Or.inl rfl) (@pe_str _ _ _ _) (by rfl) (by walk_at "u")) (@pss_cons _ _ _ _ _ (@ps_for _ _ _ _ _ _ _ _ PassesOwn.never rfl (@pi_range1 _ _ _ _ _ _ rfl T.z_range (@pa_cons _ _ _ _ _ (@qv _ 1 _ _ (by walk_at "w")) (@pa_nil _) (by rfl)) (by rfl)) (@pg_name _ _ (3) _ sc_law_word.nd rfl (Or.inl rfl) (by walk_at "u")) (@pss_cons _ _ _ _ _ (@ps_set _ _ (2) _ _ _ _ sc_law_word.nd rfl (Or.inl rfl) (@pe_op _ _ _ _ _ _ _ _ (@op_add_str _) (@qv _ 2 _ _ (by walk_at "w")) (@pe_ix _ _ _ _ _ _ _ (@ix_str _) (@pe_str _ _ _ _) (@pe_op _ _ _ _ _ _ _ _ (@op_mod _) (@qv _ 0 _ _ (by walk_at "w")) (@pe_int _ _ _ _)) (fun _ _ => rfl))) (by rfl) (by walk_at "u")) (@pss_one _ _ _ (@ps_set _ _ (0) _ _ _ _ sc_law_word.nd rfl (Or.inl rfl) (@pe_op _ _ _ _ _ _ _ _ (@op_fdiv _) (@qv _ 0 _ _ (by walk_at "w")) (@pe_int _ _ _ _)) (by rfl) (by walk_at "u")))) (by intro _ ; rfl)) (@pss_cons _ _ _ _ _ (@ps_if _ _ _ _ _ _ _ _ (@PW.pt _ _ _ (@pw_or _ _ _ _ _ _ _ (@pt_cmpR _ _ _ _ _ _ _ _ (@op_eq _) (@qv _ 2 _ _ (by walk_at "w")) (@pe_str _ _ _ _) (nomark _)) (@pw_or1 _ _ _ _ (@pt_cmpR _ _ _ _ _ _ _ _ (@op_eq _) (@qv _ 2 _ _ (by walk_at "w")) (@pe_str _ _ _ _) (nomark _))))) (@pss_one _ _ _ (@ps_ret _ _ _ _ (@pe_slice _ _ _ _ _ _ _ _ _ _ (@sl_str _) (@qv _ 2 _ _ (by walk_at "w")) (@po_none _) (@po_some _ _ _ (@pe_int _ _ _ _))))) (@pss_nil _)) (@pss_one _ _ _ (@ps_ret _ _ _ _ (@qv _ 2 _ _ (by walk_at "w")))))))))), ?_⟩
  refine ⟨_, rfl, _, _, rfl, rfl, (by show (0 : Int) < 8; decide), _, _, rfl, rfl, ?_⟩
  refine ⟨_, rfl, _, _, rfl, rfl, ⟨by decide, by decide⟩, ?_⟩
  have b1 := Int.emod_lt_of_pos n (show (0 : Int) < 8 by decide)
  have b0 := Int.emod_nonneg n (show (8 : Int) ≠ 0 by decide)
  refine ⟨_, rfl, 1 + n % 8, rfl, by omega, by omega, for_range (n := (1 + n % 8).toNat) (fun i σ H2 => H2 = H ∧ ∃ (n' : Int) (z : Str) (v : Option V), σ = [some (.int n'), some (.int (1 + n % 8)), some (.str z), v] ∧ z.length = i ∧ z.cps.toList.all (inR 97 122) = true) ⟨rfl, _, _, _, rfl, rfl, by decide +kernel⟩ ?_ ?_⟩
  · rintro i σ H2 hi ⟨rfl, n', z, v, rfl, hz, hk⟩
    obtain ⟨c, hc, hc2⟩ := abc_in (Int.emod_nonneg n' (show (26 : Int) ≠ 0 by decide)) (Int.emod_lt_of_pos n' (show (0 : Int) < 26 by decide))
    refine ⟨_, rfl, _, rfl, _, _, rfl, rfl, (by show (0 : Int) < 26; decide), abc, _, c, rfl, rfl, by decide +kernel, hc, z, _, rfl, rfl, ?_, ?_⟩
    · have : (⟨#[c]⟩ : Str).length = 1 := rfl
      have := small1000 (n := 9) (by decide)
      omega
    · refine ⟨_, rfl, _, _, rfl, rfl, ⟨by decide, by decide⟩, rfl, _, _, _, rfl, ?_, ?_⟩
      · rw [slen_app, hz]
        rfl
      · rw [cps_app, List.all_append, hk]
        simp [hc2]
  · rintro σ H2 ⟨rfl, n', z, v, rfl, hz, hk⟩
    have hz8 : z.length ≤ 8 := by omega
    have hz1 : 1 ≤ z.length := by omega
    have cut : gw (Txt.slice z none (some 3)) = true → tRet (tSl (fun x lo hi H Q => ∃ z, x = .str z ∧ z.length ≤ sizeLine ∧ Q (.str (Txt.slice z lo hi)) H) (tVar 2) tNoPart (tPart (tC (.int 3)))) { nx := fun _ H' => Q .non H', rt := Q } [some (.int n'), some (.int (1 + n % 8)), some (.str z), v] H2 :=
      fun hg => ⟨_, rfl, _, rfl, z, rfl, Nat.le_of_lt (small1000 (by omega)), q _ hg⟩
    refine ⟨_, rfl, rfl, _, rfl, ?_⟩
    refine ite2 (fun c => iteT (cut ?_)) (fun c1 => ?_)
    · have e : z = "crown" := by injection (of_decide_eq_true c)
      rw [e]; decide +kernel
    refine ⟨_, rfl, rfl, _, rfl, ?_⟩
    refine ite2 (fun c => cut ?_) (fun c2 => ?_)
    · have e : z = "kids" := by injection (of_decide_eq_true c)
      rw [e]; decide +kernel
    refine ⟨_, rfl, q z ?_⟩
    unfold gw
    rw [decide_eq_true hz1, decide_eq_true hz8, hk, decide_eq_false (fun e => c1 (by rw [e]; rfl)), decide_eq_false (fun e => c2 (by rw [e]; rfl))]
    rfl
theorem ok_law_model {f : Addr} {fd : FuncData} (F : Fun K "_law_model" "_law_model" s_law_model f fd) (T : Txt K g mg)  : FnOk P w0 K mg base CX0 1 f fd ["_law_year"] (sp_law_model K g) := by
  refine F.ok sc_law_model (fun vs H Q E h => ?_) (fun cdv A outer s H vs Q E hr h => ?_)
  · obtain ⟨y, rfl, _⟩ := h
    rfl
  obtain ⟨y, rfl, q⟩ := h
  refine ⟨_, (
(@pss_one _ _ _ (@ps_ret _ _ _ _ (@pe_tup _ _ _ _ _ (@pa_cons _ _ _ _ _ (@pe_lst _ _ _ _ (@pa_cons _ _ _ _ _ (@qv _ 0 _ _ (by walk_at "w")) (@pa_nil _) (by rfl))) (@pa_cons _ _ _ _ _ (@pe_dnewK _ _) (@pa_cons _ _ _ _ _ (@pe_dnewK _ _) (@pa_cons _ _ _ _ _ (@pe_dnewK _ _) (@pa_nil _) (by rfl)) (by rfl)) (by rfl)) (by rfl)))))), ?_⟩
  refine ⟨_, rfl, (by show 1 ≤ sizeLine; decide), fun c hc => ?_⟩
  intro e1 h1 e2 h2 e3 h3
  refine ⟨(by show 4 ≤ sizeLine; decide), fun m hm => ?_⟩
  have s1 := same_new hc (.lst [V.int y])
  have s2 := same_new h1 (.dK [])
  have s3 := same_new h2 (.dK [])
  have s4 := same_new h3 (.dK [])
  have s5 := same_new hm (.tup [V.ref c, V.ref e1, V.ref e2, V.ref e3])
  have t2 := s1.trans s2
  have t3 := t2.trans s3
  have t4 := t3.trans s4
  have u1 : upd (upd H c (.lst [V.int y])) e1 (.dK []) e1 = some (.dK []) := upd_same
  have v1 := s3 _ _ u1
  have u2 : upd (upd (upd H c (.lst [V.int y])) e1 (.dK [])) e2 (.dK []) e2 = some (.dK []) := upd_same
  have v2 := s4 _ _ u2
  refine q m (mfoot m c e1 e2 e3) _ (t4.trans s5) (fun a ha => ?_) ⟨c, e1, e2, e3,
    ⟨upd_same, s5 _ _ (s4 _ _ (s3 _ _ (s2 _ _ upd_same))), s5 _ _ (s4 _ _ v1), s5 _ _ v2, s5 _ _ upd_same, ne_of_none u1 h2, ne_of_none v1 h3, ne_of_none u2 h3⟩, rfl⟩
  unfold mfoot at ha
  simp only [List.mem_cons, List.not_mem_nil, or_false] at ha
  rcases ha with rfl | rfl | rfl | rfl | rfl
  · exact t4.free hm
  · exact hc
  · exact s1.free h1
  · exact t2.free h2
  · exact t3.free h3
theorem ok_law_kids {f : Addr} {fd : FuncData} (F : Fun K "_law_kids" "_law_kids" s_law_kids f fd) (T : Txt K g mg)  : FnOk P w0 K mg base CX0 1 f fd ["_law_model_here", "_law_name"] (sp_law_kids K g) := by
  refine F.ok sc_law_kids (fun vs H Q E h => ?_) (fun cdv A outer s H vs Q E hr h => ?_)
  · obtain ⟨m, S, R, n, rfl, _⟩ := h
    rfl
  obtain ⟨m, S, R, n, rfl, MM, W, hx, hk, q⟩ := h
  obtain ⟨c, e1, e2, e3, M, eR⟩ := MdlAt.ex MM
  have h1 : ∀ i, i < nk S.bs n → has S.bs (kid n i) = true := fun i hi => (W.cnt n i (by omega)).mpr hi
  have h2 := W.no_kid n
  generalize nk S.bs n = k at *
  refine ⟨_, (
(@pss_cons _ _ _ _ _ (@ps_set _ _ (2) _ _ _ _ sc_law_kids.nd rfl (Or.inl rfl) (@pe_lst _ _ _ _ (@pa_nil _)) (by rfl) (by walk_at "u")) (@pss_cons _ _ _ _ _ (@ps_while _ _ _ _ _ _ PassesOwn.never (@pt_cmp _ _ _ _ _ _ (@pc_din _ _ _ _ _ (hu_of hr) (@pe_op _ _ _ _ _ _ _ _ (@op_add_str _) (@pe_op _ _ _ _ _ _ _ _ (@op_add_str _) (@qv _ 1 _ _ (by walk_at "w")) (@pe_str _ _ _ _)) (@pe_callTy _ _ _ _ _ _ _ _ _ (@call_str_int _) rfl T.z_str PyProof.Rows.boot_str (@pa_cons _ _ _ _ _ (@pe_op _ _ _ _ _ _ _ _ (@op_add _) (@pe_callB _ _ _ _ _ _ _ _ _ (@call_len _) rfl T.z_len PySem.boot_len (@pa_cons _ _ _ _ _ (@qv _ 2 _ _ (by walk_at "w")) (@pa_nil _) (by rfl)) (by decide) (by decide) (by rfl) (by rfl)) (@pe_int _ _ _ _)) (@pa_nil _) (by rfl)) (by decide) (by decide) (by rfl) (by rfl))) (@pe_ix _ _ _ _ _ _ _ (@ix_tup _) (@qv _ 0 _ _ (by walk_at "w")) (@pe_int _ _ _ _) (fun _ _ => rfl))) (by walk_at "n")) (@pss_one _ _ _ (@ps_expr _ _ _ _ (@pe_bm _ _ _ _ _ _ _ _ _ _ _ _ PySem.F.plainAttrs_list PySem.F.slot_list_append PySem.F.type_list_append (@mt_append _) (@qv _ 2 _ _ (by walk_at "w")) (@pa_cons _ _ _ _ _ (@pe_op _ _ _ _ _ _ _ _ (@op_add_str _) (@pe_op _ _ _ _ _ _ _ _ (@op_add_str _) (@qv _ 1 _ _ (by walk_at "w")) (@pe_str _ _ _ _)) (@pe_callTy _ _ _ _ _ _ _ _ _ (@call_str_int _) rfl T.z_str PyProof.Rows.boot_str (@pa_cons _ _ _ _ _ (@pe_op _ _ _ _ _ _ _ _ (@op_add _) (@pe_callB _ _ _ _ _ _ _ _ _ (@call_len _) rfl T.z_len PySem.boot_len (@pa_cons _ _ _ _ _ (@qv _ 2 _ _ (by walk_at "w")) (@pa_nil _) (by rfl)) (by decide) (by decide) (by rfl) (by rfl)) (@pe_int _ _ _ _)) (@pa_nil _) (by rfl)) (by decide) (by decide) (by rfl) (by rfl))) (@pa_nil _) (by rfl)) (by rfl) (by rfl) (by rfl) (by rfl) (by rfl)) (by rfl)))) (@pss_one _ _ _ (@ps_ret _ _ _ _ (@qv _ 2 _ _ (by walk_at "w"))))))), ?_⟩
  refine ⟨Nat.zero_le _, fun l hl => ?_⟩
  have nm : m ≠ l := ne_of_none M.tup hl
  have n1 : e1 ≠ l := ne_of_none M.h1 hl
  refine ⟨fun mm σ H2 => ∃ i, i ≤ k ∧ mm = k - i ∧ σ = [some (.ref m), some (.str n), some (.ref l)] ∧ H2 = upd H l (.lst (kidV n i)), ⟨k, 0, Nat.zero_le _, rfl, rfl, rfl⟩, ?_⟩
  rintro mm σ H2 ⟨i, hi, rfl, rfl, rfl⟩
  have kl : (kidV n i).length = i := by unfold kidV; rw [List.length_map, List.length_range]
  have c0 : (0 : Int) ≤ (((kidV n i).length : Nat) : Int) + 1 := by omega
  have c1 : (((kidV n i).length : Nat) : Int) + 1 < 131 := by omega
  have tl := ts_len c0 c1
  have l3 : (n ++ ("." : Str)).length = n.length + 1 := by rw [len_app]; rfl
  have ke : n ++ ("." : Str) ++ (toString ((((kidV n i).length : Nat) : Int) + 1) : Str) = kid n i := by rw [kl]; rfl
  have g : DGet (upd H l (.lst (kidV n i))) e1 (.str (kid n i)) (valV (yrs S.bs) (Sum.inr (kid n i) : Key)) := DGet.k (k := Sum.inr (kid n i)) (by rw [upd_ne n1]; exact M.h1)
  refine ⟨_, rfl, n, _, rfl, rfl, line_ok (by show n.length + 1 ≤ 500; omega), _, rfl, _, _, rfl, .inl ⟨_, SqL.of upd_same, rfl⟩, _, _, rfl, rfl, _, rfl, log_small c0 c1, _, _, rfl, rfl, line_ok (by rw [l3]; omega), ?_⟩
  rw [ke]
  refine ⟨_, rfl, m, _, _, _, rfl, rfl, SqT.of (by rw [upd_ne nm]; exact M.tup), rfl, e1, _, rfl, g, _, rfl, ?_⟩
  rw [valV_has]
  by_cases ci : i < k
  · rw [h1 i ci]
    refine iteT ⟨fun σ H2 => σ = [some (.ref m), some (.str n), some (.ref l)] ∧ H2 = upd H l (.lst (kidV n (i + 1))), fun σ' H' ⟨a1, a2⟩ => ⟨k - (i + 1), by omega, i + 1, ci, rfl, a1, a2⟩, ?_⟩
    refine ⟨_, rfl, .inl ⟨rfl, _, SqL.of upd_same⟩, _, rfl, n, _, rfl, rfl, line_ok (by show n.length + 1 ≤ 500; omega), _, rfl, _, _, rfl, .inl ⟨_, SqL.of upd_same, rfl⟩, _, _, rfl, rfl, _, rfl, log_small c0 c1, _, _, rfl, rfl, line_ok (by rw [l3]; omega), l, _, _, rfl, rfl, upd_same, small1000 (by rw [kl]; omega), rfl, ?_⟩
    rw [ke, upd_upd, kidV_next]
  · have e : i = k := by omega
    subst e
    rw [h2]
    exact iteF ⟨_, rfl, q l _ (same_new hl _) hl upd_same⟩
theorem ok_law_living {f : Addr} {fd : FuncData} (F : Fun K "_law_living" "_law_living" s_law_living f fd) (T : Txt K g mg)  : FnOk P w0 K mg base CX0 1 f fd ["_law_model_here"] (sp_law_living K g) := by
  refine F.ok sc_law_living (fun vs H Q E h => ?_) (fun cdv A outer s H vs Q E hr h => ?_)
  · obtain ⟨m, S, R, rfl, _⟩ := h
    rfl
  obtain ⟨m, S, R, rfl, MM, hlen, q⟩ := h
  obtain ⟨c, d1, d2, d3, B, eR⟩ := MdlAt.ex MM
  obtain ⟨y, bs, ds, cs⟩ := S
  simp only at B hlen q
  refine ⟨_, (
(@pss_one _ _ _ (@ps_ret _ _ _ _ (@pe_thaw _ _ _ (d1) (yrs bs) (@pe_lc _ _ _ ("_law_name") _ _ _ ([("_law_model_here", s.heap.objs.size + 1)]) _ ([("_law_model_here", 0)]) _ _ _ rfl (@pi_dict _ _ _ _ (@pe_ix _ _ _ _ _ _ _ (@ix_tup _) (@qv _ 0 _ _ (by walk_at "w")) (@pe_int _ _ _ _) (fun _ _ => rfl))) (fun _ _ _ _ _ => (@pifs_one _ _ _ (@pt_cmp _ _ _ _ _ _ (@pc_dnotin _ _ _ _ _ (hu_of hr) (@qv _ 0 _ _ (by walk_at "w")) (@pe_ix _ _ _ _ _ _ _ (show IxR _ (rIxT K) from (@ix_tup _)) (@qv _ 1 _ _ (by walk_at "w")) (@pe_int _ _ _ _) (fun _ _ => rfl))) (by walk_at "n")))) (fun _ _ _ _ _ => (@qv _ 0 _ _ (by walk_at "w"))) rfl (by decide +kernel) rfl (by decide +kernel) rfl (fun _ _ h => h) (has_of rfl) (fun p hp => by rw [List.mem_singleton.mp hp]; exact ⟨rfl, rfl, by first | exact .inl rfl | exact .inr rfl⟩) (by decide +kernel) (by intro _ ; rfl)))))), ?_⟩
  have hb := B.tup
  have nb1 : m ≠ d1 := ne_kind hb B.h1 (fun z => by cases z)
  have yl : (yrs bs).length = bs.length := by unfold yrs; rw [List.length_map]
  refine ⟨B.h1, _, rfl, m, _, _, _, rfl, rfl, SqT.of hb, rfl, d1, _, rfl, B.h1, fun o D hD => ⟨fun i k H2 => i ≤ bs.length ∧ k = bs.length - i ∧ H2 = upd (upd H d1 (.frz o (.dK (yrs bs)))) D (.lst (((bs.take i).filter fun p => !has ds p.1).map fun p => V.str p.1)), ⟨bs.length, Nat.zero_le _, rfl, rfl⟩, ?_⟩⟩
  have n1 : D ≠ d1 := fun e => by rw [e, upd_same] at hD; cases hD
  have hD0 : H D = none := by rw [upd_ne n1] at hD; exact hD
  have nb : m ≠ D := ne_of_none hb hD0
  have n2 : d2 ≠ D := ne_of_none B.h2 hD0
  rintro i k H2 ⟨hi, rfl, rfl⟩
  by_cases ci : i < bs.length
  · refine .inr ⟨⟨by rw [upd_ne (Ne.symm n1), upd_same], by rw [yl]; exact ci⟩, fun x H' ⟨e, kk, v, ek, ex⟩ => ?_⟩
    subst e
    have ek' : (yrs bs)[i]? = some ((Sum.inr (bs[i]).1 : Key), V.int (bs[i]).2) := by unfold yrs; rw [List.getElem?_map, List.getElem?_eq_getElem ci]; rfl
    rw [ek'] at ek
    cases ek
    subst ex
    have g : DGet (upd (upd H d1 (.frz o (.dK (yrs bs)))) D (.lst (((bs.take i).filter fun p => !has ds p.1).map fun p => V.str p.1))) d2 (.str (bs[i]).1) (valV (yrs ds) (Sum.inr (bs[i]).1 : Key)) := DGet.k (k := Sum.inr (bs[i]).1) (by rw [upd_ne n2, upd_ne (Ne.symm B.n12)]; exact B.h2)
    refine ⟨_, rfl, _, rfl, m, _, _, _, rfl, rfl, SqT.of (by rw [upd_ne nb, upd_ne nb1]; exact hb), rfl, d2, _, rfl, g, _, rfl, ?_⟩
    rw [valV_has]
    have tk : bs.take (i + 1) = bs.take i ++ [bs[i]] := (take_next ci).symm
    cases e : has ds (bs[i]).1 with
    | true =>
      refine iteF ⟨bs.length - (i + 1), by omega, ci, rfl, ?_⟩
      rw [tk, List.filter_append]
      simp [e]
    | false =>
      refine iteT ⟨_, rfl, _, bs.length - (i + 1), upd_same, small1000 ?_, by omega, ci, rfl, ?_⟩
      · rw [List.length_map]
        exact Nat.le_trans (List.length_filter_le _ _) (by rw [List.length_take]; omega)
      · rw [upd_upd, tk, List.filter_append, List.map_append]
        simp [e]
        rfl
  · have e : i = bs.length := by omega
    subst e
    refine .inl ⟨⟨by rw [upd_ne (Ne.symm n1), upd_same], by rw [yl]; exact Nat.le_refl _⟩, o, by rw [upd_ne (Ne.symm n1), upd_same], ?_⟩
    rw [List.take_length]
    have eq : upd (upd (upd H d1 (.frz o (.dK (yrs bs)))) D (.lst ((bs.filter fun p => !has ds p.1).map fun p => V.str p.1))) d1 (.dK (yrs bs)) = upd H D (.lst ((bs.filter fun p => !has ds p.1).map fun p => V.str p.1)) := by
      funext a
      by_cases ha : a = d1
      · rw [ha, upd_same, upd_ne (Ne.symm n1), B.h1]
      · rw [upd_ne ha]
        by_cases hA : a = D
        · rw [hA, upd_same, upd_same]
        · rw [upd_ne hA, upd_ne ha, upd_ne hA]
    rw [eq]
    exact q D _ (same_new hD0 _) hD0 upd_same
theorem ok_law_play {f : Addr} {fd : FuncData} (F : Fun K "_law_play" "_law_play" s_law_play f fd) (T : Txt K g mg) (D_law_kids : Dn P w0 K mg base 1 "_law_kids" ["_law_model_here", "_law_name"] (sp_law_kids K g)) : FnOk P w0 K mg base CX0 2 f fd ["_law_model_here", "_law_deed"] (sp_law_play K g) := by
  refine F.ok sc_law_play (fun vs H Q E h => ?_) (fun cdv A outer s H vs Q E hr h => ?_)
  · obtain ⟨m, S, R, p, d, far, k, rfl, _⟩ := h
    rfl
  obtain ⟨m, S, R, p, d, far, k, rfl, M, hp, O, hk98, hg, q⟩ := h
  obtain ⟨c, e1, e2, e3, B, eR⟩ := MdlAt.ex M
  refine ⟨_, (
(@pss_cons _ _ _ _ _ (@ps_asg _ _ _ _ _ _ (@qv _ 0 _ _ (by walk_at "w")) (@pg_tup _ _ _ _ _ _ rfl (@pgs_cons _ _ _ _ _ (@pg_name _ _ (2) _ sc_law_play.nd rfl (Or.inl rfl) (by walk_at "u")) (@pgs_cons _ _ _ _ _ (@pg_name _ _ (3) _ sc_law_play.nd rfl (Or.inl rfl) (by walk_at "u")) (@pgs_cons _ _ _ _ _ (@pg_name _ _ (4) _ sc_law_play.nd rfl (Or.inl rfl) (by walk_at "u")) (@pgs_cons _ _ _ _ _ (@pg_name _ _ (5) _ sc_law_play.nd rfl (Or.inl rfl) (by walk_at "u")) (@pgs_nil _) (by rfl)) (by rfl)) (by rfl)) (by rfl)) (by rfl) (by rfl)) (by rfl) (by rfl) (by rfl)) (@pss_cons _ _ _ _ _ (@ps_if _ _ _ _ _ _ _ _ (@pt_cmpR _ _ _ _ _ _ _ _ (@op_eq _) (@pe_ix _ _ _ _ _ _ _ (@ix_tup _) (@qv _ 1 _ _ (by walk_at "w")) (@pe_int _ _ _ _) (fun _ _ => rfl)) (@pe_str _ _ _ _) (nomark _)) (@pss_one _ _ _ (@ps_asg _ _ _ _ _ _ (@pe_op _ _ _ _ _ _ _ _ (@op_add _) (@pe_ix _ _ _ _ _ _ _ (@ix_list _) (@qv _ 2 _ _ (by walk_at "w")) (@pe_int _ _ _ _) (fun _ _ => rfl)) (@pe_ix _ _ _ _ _ _ _ (@ix_tup _) (@qv _ 1 _ _ (by walk_at "w")) (@pe_int _ _ _ _) (fun _ _ => rfl))) (@pg_sub _ _ _ _ _ _ _ (@qv _ 2 _ _ (by walk_at "w")) (@pe_int _ _ _ _) (@set_list _) (by intro _ ; rfl)) (by rfl) (by rfl) (by rfl))) (@pss_nil _)) (@pss_cons _ _ _ _ _ (@ps_if _ _ _ _ _ _ _ _ (@pt_cmpR _ _ _ _ _ _ _ _ (@op_eq _) (@pe_ix _ _ _ _ _ _ _ (@ix_tup _) (@qv _ 1 _ _ (by walk_at "w")) (@pe_int _ _ _ _) (fun _ _ => rfl)) (@pe_str _ _ _ _) (nomark _)) (@pss_one _ _ _ (@ps_dput _ _ _ _ _ _ _ _ _ (hu_of hr) (@qv _ 3 _ _ (by walk_at "w")) (@pe_ix _ _ _ _ _ _ _ (@ix_tup _) (@qv _ 1 _ _ (by walk_at "w")) (@pe_int _ _ _ _) (fun _ _ => rfl)) (@pe_op _ _ _ _ _ _ _ _ (@op_sub _) (@pe_ix _ _ _ _ _ _ _ (@ix_list _) (@qv _ 2 _ _ (by walk_at "w")) (@pe_int _ _ _ _) (fun _ _ => rfl)) (@pe_ix _ _ _ _ _ _ _ (@ix_tup _) (@qv _ 1 _ _ (by walk_at "w")) (@pe_int _ _ _ _) (fun _ _ => rfl))) rfl)) (@pss_nil _)) (@pss_cons _ _ _ _ _ (@ps_if _ _ _ _ _ _ _ _ (@pt_cmpR _ _ _ _ _ _ _ _ (@op_eq _) (@pe_ix _ _ _ _ _ _ _ (@ix_tup _) (@qv _ 1 _ _ (by walk_at "w")) (@pe_int _ _ _ _) (fun _ _ => rfl)) (@pe_str _ _ _ _) (nomark _)) (@pss_one _ _ _ (@ps_dput _ _ _ _ _ _ _ _ _ (hu_of hr) (@qv _ 3 _ _ (by walk_at "w")) (@pe_op _ _ _ _ _ _ _ _ (@op_add_str _) (@pe_op _ _ _ _ _ _ _ _ (@op_add_str _) (@pe_ix _ _ _ _ _ _ _ (@ix_tup _) (@qv _ 1 _ _ (by walk_at "w")) (@pe_int _ _ _ _) (fun _ _ => rfl)) (@pe_str _ _ _ _)) (@pe_callTy _ _ _ _ _ _ _ _ _ (@call_str_int _) rfl T.z_str PyProof.Rows.boot_str (@pa_cons _ _ _ _ _ (@pe_op _ _ _ _ _ _ _ _ (@op_add _) (@pe_callB _ _ _ _ _ _ _ _ _ (@call_len _) rfl T.z_len PySem.boot_len (@pa_cons _ _ _ _ _ (@pe_fn _ _ _ _ _ _ _ _ _ _ D_law_kids (hr.mono (by decide)) (@pa_cons _ _ _ _ _ (@qv _ 0 _ _ (by walk_at "w")) (@pa_cons _ _ _ _ _ (@pe_ix _ _ _ _ _ _ _ (@ix_tup _) (@qv _ 1 _ _ (by walk_at "w")) (@pe_int _ _ _ _) (fun _ _ => rfl)) (@pa_nil _) (by rfl)) (by rfl)) (by rfl) (by decide) (by rfl) (by rfl)) (@pa_nil _) (by rfl)) (by decide) (by decide) (by rfl) (by rfl)) (@pe_int _ _ _ _)) (@pa_nil _) (by rfl)) (by decide) (by decide) (by rfl) (by rfl))) (@pe_ix _ _ _ _ _ _ _ (@ix_list _) (@qv _ 2 _ _ (by walk_at "w")) (@pe_int _ _ _ _) (fun _ _ => rfl)) rfl)) (@pss_nil _)) (@pss_cons _ _ _ _ _ (@ps_if _ _ _ _ _ _ _ _ (@pt_cmpR _ _ _ _ _ _ _ _ (@op_eq _) (@pe_ix _ _ _ _ _ _ _ (@ix_tup _) (@qv _ 1 _ _ (by walk_at "w")) (@pe_int _ _ _ _) (fun _ _ => rfl)) (@pe_str _ _ _ _) (nomark _)) (@pss_one _ _ _ (@ps_dput _ _ _ _ _ _ _ _ _ (hu_of hr) (@qv _ 4 _ _ (by walk_at "w")) (@pe_ix _ _ _ _ _ _ _ (@ix_tup _) (@qv _ 1 _ _ (by walk_at "w")) (@pe_int _ _ _ _) (fun _ _ => rfl)) (@pe_ix _ _ _ _ _ _ _ (@ix_list _) (@qv _ 2 _ _ (by walk_at "w")) (@pe_int _ _ _ _) (fun _ _ => rfl)) rfl)) (@pss_nil _)) (@pss_one _ _ _ (@ps_if _ _ _ _ _ _ _ _ (@pt_cmpR _ _ _ _ _ _ _ _ (@op_eq _) (@pe_ix _ _ _ _ _ _ _ (@ix_tup _) (@qv _ 1 _ _ (by walk_at "w")) (@pe_int _ _ _ _) (fun _ _ => rfl)) (@pe_str _ _ _ _) (nomark _)) (@pss_one _ _ _ (@ps_dput _ _ _ _ _ _ _ _ _ (hu_of hr) (@qv _ 5 _ _ (by walk_at "w")) (@pe_ix _ _ _ _ _ _ _ (@ix_tup _) (@qv _ 1 _ _ (by walk_at "w")) (@pe_int _ _ _ _) (fun _ _ => rfl)) (@pe_ix _ _ _ _ _ _ _ (@ix_list _) (@qv _ 2 _ _ (by walk_at "w")) (@pe_int _ _ _ _) (fun _ _ => rfl)) rfl)) (@pss_nil _))))))))), ?_⟩
  refine ⟨_, rfl, m, _, rfl, SqT.of B.tup, rfl, _, _, rfl, _, _, rfl, _, _, rfl, _, _, rfl, rfl, ?_⟩
  cases d with
  | arrive ww aa =>
    refine ⟨_, rfl, p, _, _, _, rfl, rfl, SqT.of hp, rfl, rfl, _, rfl, ifNe (by decide +kernel) ?_⟩
    refine ⟨_, rfl, p, _, _, _, rfl, rfl, SqT.of hp, rfl, rfl, _, rfl, ifEq ?_⟩
    refine ⟨_, rfl, c, _, _, _, rfl, rfl, SqL.of B.clk, rfl, _, rfl, p, _, _, _, rfl, rfl, SqT.of hp, rfl, _, _, rfl, rfl, _, rfl, _, rfl, p, _, _, _, rfl, rfl, SqT.of hp, rfl, e1, _, rfl, DPut.k (k := Sum.inr ww) B.h1 (small1000 (by unfold yrs; rw [List.length_map]; have := O.lb; omega)), ?_⟩
    rw [putK_new _ (no_valV hg.2.1), yrs_app]
    obtain ⟨hp, hk, fin⟩ := B.put1 eR hp (bs' := S.bs ++ [(ww, S.y - aa)])
    refine ⟨_, rfl, p, _, _, _, rfl, rfl, SqT.of hp, rfl, rfl, _, rfl, ifNe (by decide +kernel) ?_⟩
    refine ⟨_, rfl, p, _, _, _, rfl, rfl, SqT.of hp, rfl, rfl, _, rfl, ifNe (by decide +kernel) ?_⟩
    refine ⟨_, rfl, p, _, _, _, rfl, rfl, SqT.of hp, rfl, rfl, _, rfl, ifNe (by decide +kernel) ?_⟩
    exact q _ hk fin
  | birth nn =>
    refine ⟨_, rfl, p, _, _, _, rfl, rfl, SqT.of hp, rfl, rfl, _, rfl, ifNe (by decide +kernel) ?_⟩
    refine ⟨_, rfl, p, _, _, _, rfl, rfl, SqT.of hp, rfl, rfl, _, rfl, ifNe (by decide +kernel) ?_⟩
    refine ⟨_, rfl, p, _, _, _, rfl, rfl, SqT.of hp, rfl, rfl, _, rfl, ifEq ?_⟩
    have hx := pok_len (O.wf.wrt nn hg.1)
    have hf := O.wf.few nn
    have hlb := O.lb
    refine ⟨_, rfl, c, _, _, _, rfl, rfl, SqL.of B.clk, rfl, _, rfl, _, rfl, p, _, _, _, rfl, rfl, SqT.of hp, rfl, nn, _, rfl, rfl, line_ok (by show nn.length + 1 ≤ 500; omega), _, rfl, _, rfl, p, _, _, _, rfl, rfl, SqT.of hp, rfl, m, S, R, nn, rfl, M, O.wf, by omega, by omega, fun l H1 s1 hl1 hl2 => ?_⟩
    have B := B.keep s1
    have hp := s1 _ _ hp
    have M := M.same s1
    have kl : (kidV nn (nk S.bs nn)).length = nk S.bs nn := by unfold kidV; rw [List.length_map, List.length_range]
    have c0 : (0 : Int) ≤ ((nk S.bs nn : Nat) : Int) + 1 := by omega
    have c1 : ((nk S.bs nn : Nat) : Int) + 1 < 131 := by omega
    have tl := ts_len c0 c1
    refine ⟨_, _, rfl, .inl ⟨_, SqL.of hl2, rfl⟩, _, _, rfl, rfl, ?_⟩
    rw [kl]
    refine ⟨_, rfl, log_small c0 c1, _, _, rfl, rfl, line_ok (by rw [show (nn ++ ("." : Str)).length = nn.length + 1 from slen_app _ _]; omega), e1, _, rfl, DPut.k (k := Sum.inr (kid nn (nk S.bs nn))) B.h1 (small1000 (by unfold yrs; rw [List.length_map]; omega)), ?_⟩
    rw [putK_new _ (no_valV (O.wf.no_kid nn)), yrs_app]
    obtain ⟨hp, hk1, fin⟩ := B.put1 eR hp (bs' := S.bs ++ [(kid nn (nk S.bs nn), S.y)])
    have hk := s1.kp.wide (Y := R) (fun _ h => nomatch h) |>.tr hk1 (fun a ha => .inl ha)
    refine ⟨_, rfl, p, _, _, _, rfl, rfl, SqT.of hp, rfl, rfl, _, rfl, ifNe (by decide +kernel) ?_⟩
    refine ⟨_, rfl, p, _, _, _, rfl, rfl, SqT.of hp, rfl, rfl, _, rfl, ifNe (by decide +kernel) ?_⟩
    exact q _ hk fin
  | death nn =>
    refine ⟨_, rfl, p, _, _, _, rfl, rfl, SqT.of hp, rfl, rfl, _, rfl, ifNe (by decide +kernel) ?_⟩
    refine ⟨_, rfl, p, _, _, _, rfl, rfl, SqT.of hp, rfl, rfl, _, rfl, ifNe (by decide +kernel) ?_⟩
    refine ⟨_, rfl, p, _, _, _, rfl, rfl, SqT.of hp, rfl, rfl, _, rfl, ifNe (by decide +kernel) ?_⟩
    refine ⟨_, rfl, p, _, _, _, rfl, rfl, SqT.of hp, rfl, rfl, _, rfl, ifEq ?_⟩
    refine ⟨_, rfl, c, _, _, _, rfl, rfl, SqL.of B.clk, rfl, _, rfl, _, rfl, p, _, _, _, rfl, rfl, SqT.of hp, rfl, e2, _, rfl, DPut.k (k := Sum.inr nn) B.h2 (small1000 (by unfold yrs; rw [List.length_map]; have := O.ld; omega)), ?_⟩
    rw [putK_new _ (no_valV hg.2), yrs_app]
    obtain ⟨hp, hk, fin⟩ := B.put2 eR hp (ds' := S.ds ++ [(nn, S.y)])
    refine ⟨_, rfl, p, _, _, _, rfl, rfl, SqT.of hp, rfl, rfl, _, rfl, ifNe (by decide +kernel) ?_⟩
    exact q _ hk fin
  | comes ww =>
    refine ⟨_, rfl, p, _, _, _, rfl, rfl, SqT.of hp, rfl, rfl, _, rfl, ifNe (by decide +kernel) ?_⟩
    refine ⟨_, rfl, p, _, _, _, rfl, rfl, SqT.of hp, rfl, rfl, _, rfl, ifNe (by decide +kernel) ?_⟩
    refine ⟨_, rfl, p, _, _, _, rfl, rfl, SqT.of hp, rfl, rfl, _, rfl, ifNe (by decide +kernel) ?_⟩
    refine ⟨_, rfl, p, _, _, _, rfl, rfl, SqT.of hp, rfl, rfl, _, rfl, ifNe (by decide +kernel) ?_⟩
    refine ⟨_, rfl, p, _, _, _, rfl, rfl, SqT.of hp, rfl, rfl, _, rfl, ifEq ?_⟩
    refine ⟨_, rfl, c, _, _, _, rfl, rfl, SqL.of B.clk, rfl, _, rfl, _, rfl, p, _, _, _, rfl, rfl, SqT.of hp, rfl, e3, _, rfl, DPut.k (k := Sum.inr ww) B.h3 (small1000 (by unfold yrs; rw [List.length_map]; have := O.lc; omega)), ?_⟩
    rw [putK_new _ (no_valV hg.2), yrs_app]
    obtain ⟨hp, hk, fin⟩ := B.put3 eR hp (cs' := S.cs ++ [(ww, S.y)])
    exact q _ hk fin
  | years kk =>
    refine ⟨_, rfl, p, _, _, _, rfl, rfl, SqT.of hp, rfl, rfl, _, rfl, ifEq ?_⟩
    refine ⟨_, rfl, c, _, _, _, rfl, rfl, SqL.of B.clk, rfl, _, rfl, p, _, _, _, rfl, rfl, SqT.of hp, rfl, _, _, rfl, rfl, _, rfl, c, _, 0, 0, rfl, rfl, B.clk, rfl, ?_⟩
    have ky := keep_upd (H := H) (a := c) (o := .lst [V.int (S.y + kk)])
    have hp : upd H c (.lst [V.int (S.y + kk)]) p = some (.tup (Deed.years kk).vals) := by rw [upd_ne (ne_kind hp B.clk (fun z => by cases z))]; exact hp
    have fin : MoAt (upd H c (.lst [V.int (S.y + kk)])) m (S.step (.years kk)) R := ⟨c, e1, e2, e3, ⟨by rw [upd_ne (ne_kind B.tup B.clk (fun z => by cases z))]; exact B.tup, upd_same, by rw [upd_ne (ne_kind B.h1 B.clk (fun z => by cases z))]; exact B.h1, by rw [upd_ne (ne_kind B.h2 B.clk (fun z => by cases z))]; exact B.h2, by rw [upd_ne (ne_kind B.h3 B.clk (fun z => by cases z))]; exact B.h3, B.n12, B.n13, B.n23⟩, eR⟩
    have hk : Keep R H (upd H c (.lst [V.int (S.y + kk)])) := ky.wide (fun a ha => by rw [List.mem_singleton.mp ha, eR]; simp [mfoot])
    refine ⟨_, rfl, p, _, _, _, rfl, rfl, SqT.of hp, rfl, rfl, _, rfl, ifNe (by decide +kernel) ?_⟩
    refine ⟨_, rfl, p, _, _, _, rfl, rfl, SqT.of hp, rfl, rfl, _, rfl, ifNe (by decide +kernel) ?_⟩
    refine ⟨_, rfl, p, _, _, _, rfl, rfl, SqT.of hp, rfl, rfl, _, rfl, ifNe (by decide +kernel) ?_⟩
    refine ⟨_, rfl, p, _, _, _, rfl, rfl, SqT.of hp, rfl, rfl, _, rfl, ifNe (by decide +kernel) ?_⟩
    exact q _ hk fin
theorem ok_law_next_deed {f : Addr} {fd : FuncData} (F : Fun K "_law_next_deed" "_law_next_deed" s_law_next_deed f fd) (T : Txt K g mg) (D_law_living : Dn P w0 K mg base 1 "_law_living" ["_law_model_here"] (sp_law_living K g)) (D_law_word : Dn P w0 K mg base 1 "_law_word" ["_law_n"] (sp_law_word K g)) : FnOk P w0 K mg base CX0 2 f fd ["_law_model_here", "_law_n", "_law_far"] (sp_law_next_deed K g) := by
  refine F.ok sc_law_next_deed (fun vs H Q E h => ?_) (fun cdv A outer s H vs Q E hr h => ?_)
  · obtain ⟨m, S, R, n, far, rfl, _⟩ := h
    rfl
  obtain ⟨m, S, R, n, far, rfl, M, hlen, hfar, q⟩ := h
  have rest6 : PSs (cxOf CX0 P w0 K mg base ["_law_model_here", "_law_n", "_law_far", "_law_some", "_law_kind", "_law_word_here", "_law_name"] "_law_next_deed" (defScope s_law_next_deed) f cdv A outer s H E).nox ((defBody s_law_next_deed).drop 6) (fun D σ H1 => ∃ (n' kd : Int) (l : Addr) (v5 v6 : Option V), σ = [some (.ref m), some (.int n'), some (.int far), some (.ref l), some (.int kd), v5, v6] ∧ Same H H1 ∧ H1 l = some (.lst (livV S.bs S.ds)) ∧ (∀ d p H', S.good far d → Same H H' → H p = none → H' p = some (.tup d.vals) → D.rt (.ref p) H')) := by
    refine @PSs_imp _ _ _ _ ((@pss_one _ _ _ (@ps_ret _ _ _ _ (@pe_tup _ _ _ _ _ (@pa_cons _ _ _ _ _ (@pe_str _ _ _ _) (@pa_cons _ _ _ _ _ (@pe_op _ _ _ _ _ _ _ _ (@op_add _) (@pe_int _ _ _ _) (@pe_op _ _ _ _ _ _ _ _ (@op_mod _) (@qv _ 1 _ _ (by walk_at "w")) (@qv _ 2 _ _ (by walk_at "w")))) (@pa_nil _) (by rfl)) (by rfl)))))) ?_
    rintro D σ H1 ⟨n', kd, l, v5, v6, rfl, s1, hl, q⟩
    have z0 := Int.emod_nonneg n' (show far ≠ 0 by omega)
    have z1 := Int.emod_lt_of_pos n' hfar
    refine ⟨_, rfl, _, rfl, _, _, rfl, rfl, hfar, _, _, rfl, rfl, (by show 2 ≤ sizeLine; decide), fun p hp => ?_⟩
    exact q (.years (1 + n' % far)) p _ ⟨by omega, by omega⟩ (s1.trans (same_new hp _)) (s1.free hp) upd_same
  have rest5 : PSs (cxOf CX0 P w0 K mg base ["_law_model_here", "_law_n", "_law_far", "_law_some", "_law_kind", "_law_word_here", "_law_name"] "_law_next_deed" (defScope s_law_next_deed) f cdv A outer s H E).nox ((defBody s_law_next_deed).drop 5) (fun D σ H1 => ∃ (n' kd : Int) (l : Addr) (v5 v6 : Option V), σ = [some (.ref m), some (.int n'), some (.int far), some (.ref l), some (.int kd), v5, v6] ∧ Same H H1 ∧ H1 l = some (.lst (livV S.bs S.ds)) ∧ (∀ d p H', S.good far d → Same H H' → H p = none → H' p = some (.tup d.vals) → D.rt (.ref p) H')) := by
    refine @PSs_imp _ _ _ _ ((@pss_cons _ _ _ _ _ (@ps_if _ _ _ _ _ _ _ _ (@pt_cmpR _ _ _ _ _ _ _ _ (@op_eq _) (@qv _ 4 _ _ (by walk_at "w")) (@pe_int _ _ _ _) (nomark _)) (@pss_cons _ _ _ _ _ (@ps_set _ _ (5) _ _ _ _ sc_law_next_deed.nd rfl (Or.inl rfl) (@pe_ix _ _ _ _ _ _ _ (@ix_list _) (@pe_lst _ _ _ _ (@pa_cons _ _ _ _ _ (@pe_str _ _ _ _) (@pa_cons _ _ _ _ _ (@pe_str _ _ _ _) (@pa_cons _ _ _ _ _ (@pe_str _ _ _ _) (@pa_cons _ _ _ _ _ (@pe_fn _ _ _ _ _ _ _ _ _ _ D_law_word (hr.mono (by decide)) (@pa_cons _ _ _ _ _ (@pe_op _ _ _ _ _ _ _ _ (@op_fdiv _) (@qv _ 1 _ _ (by walk_at "w")) (@pe_int _ _ _ _)) (@pa_nil _) (by rfl)) (by rfl) (by decide) (by rfl) (by rfl)) (@pa_nil _) (by rfl)) (by rfl)) (by rfl)) (by rfl))) (@pe_op _ _ _ _ _ _ _ _ (@op_mod _) (@qv _ 1 _ _ (by walk_at "w")) (@pe_int _ _ _ _)) (fun _ _ => rfl)) (by rfl) (by walk_at "u")) (@pss_one _ _ _ (@ps_if _ _ _ _ _ _ _ _ (@pt_cmp _ _ _ _ _ _ (@pc_dnotin _ _ _ _ _ (hu_of hr) (@qv _ 5 _ _ (by walk_at "w")) (@pe_ix _ _ _ _ _ _ _ (@ix_tup _) (@qv _ 0 _ _ (by walk_at "w")) (@pe_int _ _ _ _) (fun _ _ => rfl))) (by walk_at "n")) (@pss_one _ _ _ (@ps_ret _ _ _ _ (@pe_tup _ _ _ _ _ (@pa_cons _ _ _ _ _ (@pe_str _ _ _ _) (@pa_cons _ _ _ _ _ (@qv _ 5 _ _ (by walk_at "w")) (@pa_nil _) (by rfl)) (by rfl))))) (@pss_nil _)))) (@pss_nil _)) @rest6)) ?_
    rintro D σ H1 ⟨n', kd, l, v5, v6, rfl, s1, hl, q⟩
    obtain ⟨c, e1, e2, e3, B⟩ := (M.same s1).tup_of
    refine ⟨_, rfl, rfl, _, rfl, ite2 (fun _ => ?_) (fun _ => ⟨n', kd, l, v5, v6, rfl, s1, hl, q⟩)⟩
    refine ⟨_, rfl, _, _, rfl, rfl, ⟨by decide, by decide⟩, _, rfl, fun z hz => ⟨(by show 4 ≤ sizeLine; decide), fun pl hpl => ?_⟩⟩
    have z0 := Int.emod_nonneg n' (show (4 : Int) ≠ 0 by omega)
    have z1 := Int.emod_lt_of_pos n' (show (0 : Int) < 4 by omega)
    obtain ⟨y, hy, gy⟩ := pick4 hz z0 z1
    have s2 := same_new hpl (.lst [V.str "war", V.str "flood", V.str "a", V.str z])
    refine ⟨_, rfl, _, _, rfl, rfl, (by show (0 : Int) < 4; decide), pl, _, _, _, rfl, rfl, SqL.of upd_same, hy, ?_⟩
    refine ⟨_, rfl, _, rfl, m, _, _, _, rfl, rfl, SqT.of (s2 _ _ B.tup), rfl, e3, _, rfl, DGet.k (k := Sum.inr y) (s2 _ _ B.h3), _, rfl, ?_⟩
    rw [valV_has]
    cases e : has S.cs y with
    | true => exact iteF ⟨n', kd, l, _, v6, rfl, s1.trans s2, s2 _ _ hl, q⟩
    | false =>
      refine iteT ⟨_, rfl, (by show 2 ≤ sizeLine; decide), fun p hp => ?_⟩
      exact q (.comes y) p _ ⟨gy, e⟩ ((s1.trans s2).trans (same_new hp _)) ((s1.trans s2).free hp) upd_same
  have rest4 : PSs (cxOf CX0 P w0 K mg base ["_law_model_here", "_law_n", "_law_far", "_law_some", "_law_kind", "_law_word_here", "_law_name"] "_law_next_deed" (defScope s_law_next_deed) f cdv A outer s H E).nox ((defBody s_law_next_deed).drop 4) (fun D σ H1 => ∃ (n' kd : Int) (l : Addr) (v5 v6 : Option V), σ = [some (.ref m), some (.int n'), some (.int far), some (.ref l), some (.int kd), v5, v6] ∧ Same H H1 ∧ H1 l = some (.lst (livV S.bs S.ds)) ∧ (∀ d p H', S.good far d → Same H H' → H p = none → H' p = some (.tup d.vals) → D.rt (.ref p) H')) := by
    refine @PSs_imp _ _ _ _ ((@pss_cons _ _ _ _ _ (@ps_if _ _ _ _ _ _ _ _ (@PW.pt _ _ _ (@pw_and _ _ _ _ _ _ _ (@pt_cmpR _ _ _ _ _ _ _ _ (@op_gt _) (@qv _ 4 _ _ (by walk_at "w")) (@pe_int _ _ _ _) (nomark _)) (@pw_and _ _ _ _ _ _ _ (@pt_cmpR _ _ _ _ _ _ _ _ (@op_lt _) (@qv _ 4 _ _ (by walk_at "w")) (@pe_int _ _ _ _) (nomark _)) (@pw_and1 _ _ _ _ (@pt_cmpR _ _ _ _ _ _ _ _ (@op_gt _) (@pe_callB _ _ _ _ _ _ _ _ _ (@call_len _) rfl T.z_len PySem.boot_len (@pa_cons _ _ _ _ _ (@qv _ 3 _ _ (by walk_at "w")) (@pa_nil _) (by rfl)) (by decide) (by decide) (by rfl) (by rfl)) (@pe_int _ _ _ _) (nomark _)))))) (@pss_cons _ _ _ _ _ (@ps_set _ _ (6) _ _ _ _ sc_law_next_deed.nd rfl (Or.inl rfl) (@pe_ix _ _ _ _ _ _ _ (@ix_list _) (@qv _ 3 _ _ (by walk_at "w")) (@pe_op _ _ _ _ _ _ _ _ (@op_mod _) (@qv _ 1 _ _ (by walk_at "w")) (@pe_callB _ _ _ _ _ _ _ _ _ (@call_len _) rfl T.z_len PySem.boot_len (@pa_cons _ _ _ _ _ (@qv _ 3 _ _ (by walk_at "w")) (@pa_nil _) (by rfl)) (by decide) (by decide) (by rfl) (by rfl))) (fun _ _ => rfl)) (by rfl) (by walk_at "u")) (@pss_cons _ _ _ _ _ (@ps_if _ _ _ _ _ _ _ _ (@pt_cmpR _ _ _ _ _ _ _ _ (@op_gt _) (@qv _ 4 _ _ (by walk_at "w")) (@pe_int _ _ _ _) (nomark _)) (@pss_one _ _ _ (@ps_ret _ _ _ _ (@pe_tup _ _ _ _ _ (@pa_cons _ _ _ _ _ (@pe_str _ _ _ _) (@pa_cons _ _ _ _ _ (@qv _ 6 _ _ (by walk_at "w")) (@pa_nil _) (by rfl)) (by rfl))))) (@pss_nil _)) (@pss_one _ _ _ (@ps_if _ _ _ _ _ _ _ _ (@pt_cmpR _ _ _ _ _ _ _ _ (@op_lt _) (@pe_bm _ _ _ _ _ _ _ _ _ _ _ _ PySem.F.plainAttrs_str PySem.F.slot_str_count PySem.F.type_str_count (@mt_count _) (@qv _ 6 _ _ (by walk_at "w")) (@pa_cons _ _ _ _ _ (@pe_str _ _ _ _) (@pa_nil _) (by rfl)) (by rfl) (by rfl) (by rfl) (by rfl) (by rfl)) (@pe_int _ _ _ _) (nomark _)) (@pss_one _ _ _ (@ps_ret _ _ _ _ (@pe_tup _ _ _ _ _ (@pa_cons _ _ _ _ _ (@pe_str _ _ _ _) (@pa_cons _ _ _ _ _ (@qv _ 6 _ _ (by walk_at "w")) (@pa_nil _) (by rfl)) (by rfl))))) (@pss_nil _))))) (@pss_nil _)) @rest5)) ?_
    rintro D σ H1 ⟨n', kd, l, v5, v6, rfl, s1, hl, q⟩
    refine ⟨_, rfl, _, _, rfl, rfl, _, rfl, ite2 (fun c1 => ?_) (fun _ => iteF ⟨n', kd, l, v5, v6, rfl, s1, hl, q⟩)⟩
    refine ⟨_, rfl, _, _, rfl, rfl, _, rfl, ite2 (fun c2 => ?_) (fun _ => iteF ⟨n', kd, l, v5, v6, rfl, s1, hl, q⟩)⟩
    refine ⟨_, rfl, _, _, rfl, .inl ⟨_, SqL.of hl, rfl⟩, _, _, rfl, rfl, _, rfl, ite2 (fun c3 => ?_) (fun _ => ⟨n', kd, l, v5, v6, rfl, s1, hl, q⟩)⟩
    have hpos : (0 : Int) < ((livV S.bs S.ds).length : Nat) := of_decide_eq_true c3
    obtain ⟨v, hv⟩ := atI_in (xs := livV S.bs S.ds) (Int.emod_nonneg n' (show ((livV S.bs S.ds).length : Int) ≠ 0 by omega)) (Int.emod_lt_of_pos n' hpos)
    obtain ⟨nm, rfl, hb, hd⟩ := livV_at hv
    refine ⟨_, rfl, _, rfl, _, rfl, _, _, rfl, .inl ⟨_, SqL.of hl, rfl⟩, _, _, rfl, rfl, hpos, l, _, _, _, rfl, rfl, SqL.of hl, hv, ?_⟩
    refine ⟨_, rfl, _, _, rfl, rfl, _, rfl, ite2 (fun c4 => ?_) (fun _ => ?_)⟩
    · refine ⟨_, rfl, (by show 2 ≤ sizeLine; decide), fun p hp => ?_⟩
      exact q (.death nm) p _ ⟨hb, hd⟩ (s1.trans (same_new hp _)) (s1.free hp) upd_same
    · refine ⟨_, rfl, rfl, nm, dot, rfl, rfl, _, _, rfl, rfl, _, rfl, ite2 (fun c5 => ?_) (fun _ => ⟨n', kd, l, v5, _, rfl, s1, hl, q⟩)⟩
      refine ⟨_, rfl, (by show 2 ≤ sizeLine; decide), fun p hp => ?_⟩
      exact q (.birth nm) p _ ⟨hb, hd, by have z := of_decide_eq_true c5; unfold dots; omega⟩ (s1.trans (same_new hp _)) (s1.free hp) upd_same
  have rest3 : PSs (cxOf CX0 P w0 K mg base ["_law_model_here", "_law_n", "_law_far", "_law_some", "_law_kind", "_law_word_here", "_law_name"] "_law_next_deed" (defScope s_law_next_deed) f cdv A outer s H E).nox ((defBody s_law_next_deed).drop 3) (fun D σ H1 => ∃ (n' kd : Int) (l : Addr) (v5 v6 : Option V), σ = [some (.ref m), some (.int n'), some (.int far), some (.ref l), some (.int kd), v5, v6] ∧ Same H H1 ∧ H1 l = some (.lst (livV S.bs S.ds)) ∧ (∀ d p H', S.good far d → Same H H' → H p = none → H' p = some (.tup d.vals) → D.rt (.ref p) H')) := by
    refine @PSs_imp _ _ _ _ ((@pss_cons _ _ _ _ _ (@ps_if _ _ _ _ _ _ _ _ (@PW.pt _ _ _ (@pw_or _ _ _ _ _ _ _ (@pt_cmpR _ _ _ _ _ _ _ _ (@op_eq _) (@qv _ 4 _ _ (by walk_at "w")) (@pe_int _ _ _ _) (nomark _)) (@pw_or1 _ _ _ _ (@PW.pt _ _ _ (@pw_and _ _ _ _ _ _ _ (@pt_cmpR _ _ _ _ _ _ _ _ (@op_lt _) (@qv _ 4 _ _ (by walk_at "w")) (@pe_int _ _ _ _) (nomark _)) (@pw_and1 _ _ _ _ (@pt_cmpR _ _ _ _ _ _ _ _ (@op_eq _) (@pe_callB _ _ _ _ _ _ _ _ _ (@call_len _) rfl T.z_len PySem.boot_len (@pa_cons _ _ _ _ _ (@qv _ 3 _ _ (by walk_at "w")) (@pa_nil _) (by rfl)) (by decide) (by decide) (by rfl) (by rfl)) (@pe_int _ _ _ _) (nomark _)))))))) (@pss_cons _ _ _ _ _ (@ps_set _ _ (5) _ _ _ _ sc_law_next_deed.nd rfl (Or.inl rfl) (@pe_fn _ _ _ _ _ _ _ _ _ _ D_law_word (hr.mono (by decide)) (@pa_cons _ _ _ _ _ (@pe_op _ _ _ _ _ _ _ _ (@op_fdiv _) (@qv _ 1 _ _ (by walk_at "w")) (@pe_int _ _ _ _)) (@pa_nil _) (by rfl)) (by rfl) (by decide) (by rfl) (by rfl)) (by rfl) (by walk_at "u")) (@pss_one _ _ _ (@ps_if _ _ _ _ _ _ _ _ (@pt_cmp _ _ _ _ _ _ (@pc_dnotin _ _ _ _ _ (hu_of hr) (@qv _ 5 _ _ (by walk_at "w")) (@pe_ix _ _ _ _ _ _ _ (@ix_tup _) (@qv _ 0 _ _ (by walk_at "w")) (@pe_int _ _ _ _) (fun _ _ => rfl))) (by walk_at "n")) (@pss_one _ _ _ (@ps_ret _ _ _ _ (@pe_tup _ _ _ _ _ (@pa_cons _ _ _ _ _ (@pe_str _ _ _ _) (@pa_cons _ _ _ _ _ (@qv _ 5 _ _ (by walk_at "w")) (@pa_cons _ _ _ _ _ (@pe_op _ _ _ _ _ _ _ _ (@op_mod _) (@qv _ 1 _ _ (by walk_at "w")) (@pe_int _ _ _ _)) (@pa_nil _) (by rfl)) (by rfl)) (by rfl))))) (@pss_nil _)))) (@pss_nil _)) @rest4)) ?_
    rintro D σ H1 ⟨n', kd, l, v5, v6, rfl, s1, hl, q⟩
    obtain ⟨c, e1, e2, e3, B⟩ := (M.same s1).tup_of
    refine ⟨_, rfl, rfl, _, rfl, ite2 (fun _ => iteT ?_) (fun _ => ⟨_, rfl, _, _, rfl, rfl, _, rfl, ite2 (fun _ => ⟨_, rfl, _, _, rfl, .inl ⟨_, SqL.of hl, rfl⟩, rfl, _, rfl, ite2 (fun _ => ?_) (fun _ => ?_)⟩) (fun _ => iteF ?_)⟩)⟩
    all_goals try exact ⟨n', kd, l, v5, v6, rfl, s1, hl, q⟩
    all_goals
      refine ⟨_, rfl, _, _, rfl, rfl, ⟨by decide, by decide⟩, _, rfl, fun z hz => ?_⟩
      refine ⟨_, rfl, _, rfl, m, _, _, _, rfl, rfl, SqT.of B.tup, rfl, e1, _, rfl, DGet.k (k := Sum.inr z) B.h1, _, rfl, ?_⟩
      rw [valV_has]
      cases e : has S.bs z with
      | true => exact iteF ⟨n', kd, l, _, v6, rfl, s1, hl, q⟩
      | false =>
        refine iteT ⟨_, rfl, _, rfl, _, _, rfl, rfl, (by show (0 : Int) < 121; decide), (by show 3 ≤ sizeLine; decide), fun p hp => ?_⟩
        have z0 := Int.emod_nonneg n' (show (121 : Int) ≠ 0 by omega)
        have z1 := Int.emod_lt_of_pos n' (show (0 : Int) < 121 by omega)
        exact q (.arrive z (n' % 121)) p _ ⟨hz, e, z0, by omega⟩ (s1.trans (same_new hp _)) (s1.free hp) upd_same
  refine ⟨_, (@pss_cons _ _ _ _ _ (@ps_set _ _ (3) _ _ _ _ sc_law_next_deed.nd rfl (Or.inl rfl) (@pe_fn _ _ _ _ _ _ _ _ _ _ D_law_living (hr.mono (by decide)) (@pa_cons _ _ _ _ _ (@qv _ 0 _ _ (by walk_at "w")) (@pa_nil _) (by rfl)) (by rfl) (by decide) (by rfl) (by rfl)) (by rfl) (by walk_at "u")) (@pss_cons _ _ _ _ _ (@ps_set _ _ (4) _ _ _ _ sc_law_next_deed.nd rfl (Or.inl rfl) (@pe_op _ _ _ _ _ _ _ _ (@op_mod _) (@qv _ 1 _ _ (by walk_at "w")) (@pe_int _ _ _ _)) (by rfl) (by walk_at "u")) (@pss_cons _ _ _ _ _ (@ps_set _ _ (1) _ _ _ _ sc_law_next_deed.nd rfl (Or.inl rfl) (@pe_op _ _ _ _ _ _ _ _ (@op_fdiv _) (@qv _ 1 _ _ (by walk_at "w")) (@pe_int _ _ _ _)) (by rfl) (by walk_at "u")) @rest3))), ?_⟩
  refine ⟨_, rfl, m, S, R, rfl, M, hlen, fun l H1 s1 _ hl => ?_⟩
  exact ⟨_, rfl, _, _, rfl, rfl, (by show (0 : Int) < 9; decide), _, rfl, _, _, rfl, rfl, ⟨by decide, by decide⟩, _, _, l, _, _, rfl, s1, hl, q⟩
theorem ok_law_start {f : Addr} {fd : FuncData} (F : Fun K "_law_start" "_law_start" s_law_start f fd) (T : Txt K g mg) (D_law_word : Dn P w0 K mg base 1 "_law_word" ["_law_n"] (sp_law_word K g)) : FnOk P w0 K mg base CX0 2 f fd ["_law_n"] (sp_law_start K g) := by
  refine F.ok sc_law_start (fun vs H Q E h => ?_) (fun cdv A outer s H vs Q E hr h => ?_)
  · obtain ⟨n, rfl, _⟩ := h
    rfl
  obtain ⟨n, rfl, q⟩ := h
  refine ⟨_, (
(@pss_cons _ _ _ _ _ (@ps_set _ _ (1) _ _ _ _ sc_law_start.nd rfl (Or.inl rfl) (@pe_lst _ _ _ _ (@pa_nil _)) (by rfl) (by walk_at "u")) (@pss_cons _ _ _ _ _ (@ps_set _ _ (2) _ _ _ _ sc_law_start.nd rfl (Or.inl rfl) (@pe_dnewK _ _) (by rfl) (by walk_at "u")) (@pss_cons _ _ _ _ _ (@ps_for _ _ _ _ _ _ _ _ PassesOwn.never rfl (@pi_range1 _ _ _ _ _ _ rfl T.z_range (@pa_cons _ _ _ _ _ (@pe_op _ _ _ _ _ _ _ _ (@op_add _) (@pe_int _ _ _ _) (@pe_op _ _ _ _ _ _ _ _ (@op_mod _) (@qv _ 0 _ _ (by walk_at "w")) (@pe_int _ _ _ _))) (@pa_nil _) (by rfl)) (by rfl)) (@pg_name _ _ (3) _ sc_law_start.nd rfl (Or.inl rfl) (by walk_at "u")) (@pss_cons _ _ _ _ _ (@ps_set _ _ (0) _ _ _ _ sc_law_start.nd rfl (Or.inl rfl) (@pe_op _ _ _ _ _ _ _ _ (@op_add _) (@pe_op _ _ _ _ _ _ _ _ (@op_fdiv _) (@qv _ 0 _ _ (by walk_at "w")) (@pe_int _ _ _ _)) (@pe_op _ _ _ _ _ _ _ _ (@op_mul _) (@qv _ 3 _ _ (by walk_at "w")) (@pe_int _ _ _ _))) (by rfl) (by walk_at "u")) (@pss_cons _ _ _ _ _ (@ps_set _ _ (4) _ _ _ _ sc_law_start.nd rfl (Or.inl rfl) (@pe_fn _ _ _ _ _ _ _ _ _ _ D_law_word (hr.mono (by decide)) (@pa_cons _ _ _ _ _ (@pe_op _ _ _ _ _ _ _ _ (@op_fdiv _) (@qv _ 0 _ _ (by walk_at "w")) (@pe_int _ _ _ _)) (@pa_nil _) (by rfl)) (by rfl) (by decide) (by rfl) (by rfl)) (by rfl) (by walk_at "u")) (@pss_one _ _ _ (@ps_if _ _ _ _ _ _ _ _ (@pt_cmp _ _ _ _ _ _ (@pc_dnotin _ _ _ _ _ (hu_of hr) (@qv _ 4 _ _ (by walk_at "w")) (@qv _ 2 _ _ (by walk_at "w"))) (by walk_at "n")) (@pss_cons _ _ _ _ _ (@ps_dput _ _ _ _ _ _ _ _ _ (hu_of hr) (@qv _ 2 _ _ (by walk_at "w")) (@qv _ 4 _ _ (by walk_at "w")) (@pe_bl _ _ _ _) rfl) (@pss_one _ _ _ (@ps_expr _ _ _ _ (@pe_bm _ _ _ _ _ _ _ _ _ _ _ _ PySem.F.plainAttrs_list PySem.F.slot_list_append PySem.F.type_list_append (@mt_append _) (@qv _ 1 _ _ (by walk_at "w")) (@pa_cons _ _ _ _ _ (@pe_tup _ _ _ _ _ (@pa_cons _ _ _ _ _ (@pe_str _ _ _ _) (@pa_cons _ _ _ _ _ (@qv _ 4 _ _ (by walk_at "w")) (@pa_cons _ _ _ _ _ (@pe_op _ _ _ _ _ _ _ _ (@op_mod _) (@qv _ 0 _ _ (by walk_at "w")) (@pe_int _ _ _ _)) (@pa_nil _) (by rfl)) (by rfl)) (by rfl))) (@pa_nil _) (by rfl)) (by rfl) (by rfl) (by rfl) (by rfl) (by rfl)) (by rfl)))) (@pss_nil _))))) (by intro _ ; rfl)) (@pss_one _ _ _ (@ps_ret _ _ _ _ (@qv _ 1 _ _ (by walk_at "w")))))))), ?_⟩
  refine ⟨Nat.zero_le _, fun l hl => ?_⟩
  intro dw hdw
  have b1 := Int.emod_lt_of_pos n (show (0 : Int) < 3 by decide)
  have b0 := Int.emod_nonneg n (show (3 : Int) ≠ 0 by decide)
  have ndl : l ≠ dw := fun e => by rw [e, upd_same] at hdw; cases hdw
  have hdw0 : H dw = none := by rw [upd_ne (Ne.symm ndl)] at hdw; exact hdw
  refine ⟨_, rfl, _, _, rfl, rfl, (by show (0 : Int) < 3; decide), _, _, rfl, rfl, 1 + n % 3, rfl, by omega, by omega, for_range (n := (1 + n % 3).toNat) (fun i σ H2 => ∃ (n' : Int) (v3 v4 : Option V) (was : List (Str × Int)) (ps : List Addr), σ = [some (.int n'), some (.ref l), some (.ref dw), v3, v4] ∧ Same H H2 ∧ (∀ a ∈ ps, H a = none) ∧ DeedsAt H2 l (was.map arr) ps ∧ H2 dw = some (.dK (trus was)) ∧ was.length ≤ i ∧ First was ∧ (0 < i → was ≠ [])) ?_ ?_ ?_⟩
  · refine ⟨n, none, none, [], [], rfl, (same_new hl _).trans (same_new hdw _), (fun _ h => nomatch h), ⟨?_, rfl, (fun i p d h => by simp at h)⟩, upd_same, Nat.le_refl _, ⟨.nil, Nat.zero_le _, (fun _ h => nomatch h)⟩, fun h => absurd h (Nat.lt_irrefl 0)⟩
    rw [upd_ne ndl, upd_same]
    rfl
  · rintro i σ H2 hi ⟨n', v3, v4, was, ps, rfl, s2, hps, DD, hw, hlw, FF, hne⟩
    have i3 : i < 3 := by omega
    refine ⟨_, rfl, _, _, rfl, rfl, ⟨by decide, by decide⟩, _, rfl, _, _, rfl, rfl, .inr ⟨by decide, by decide⟩, _, _, rfl, rfl, ?_⟩
    refine ⟨_, rfl, _, _, rfl, rfl, ⟨by decide, by decide⟩, _, rfl, fun z hz => ?_⟩
    refine ⟨_, rfl, _, rfl, dw, _, rfl, DGet.k (k := Sum.inr z) hw, _, rfl, ?_⟩
    rw [trus_has]
    by_cases hin : z ∈ was.map (·.1)
    · rw [decide_eq_true hin]
      exact iteF ⟨_, _, _, was, ps, rfl, s2, hps, DD, hw, by omega, FF, fun _ e => by rw [e] at hin; cases hin⟩
    · rw [decide_eq_false hin]
      have vn : valV (trus was) (Sum.inr z : Key) = none := by
        have t := trus_has was z
        rw [decide_eq_false hin] at t
        cases e : valV (trus was) (Sum.inr z : Key) with
        | none => rfl
        | some v => rw [e] at t; cases t
      refine iteT ⟨_, rfl, _, rfl, dw, _, rfl, DPut.k (k := Sum.inr z) hw (small1000 (by unfold trus; rw [List.length_map]; omega)), ?_⟩
      rw [putK_new _ vn]
      have nld : l ≠ dw := ndl
      refine ⟨_, rfl, .inl ⟨rfl, _, SqL.of (by rw [upd_ne nld]; exact DD.lst)⟩, _, rfl, _, rfl, _, _, rfl, rfl, (by show (0 : Int) < 67; decide), (by show 3 ≤ sizeLine; decide), fun p hp => ?_⟩
      have z0 := Int.emod_nonneg (n' / 3 + (0 + (i : Int)) * 104729) (show (67 : Int) ≠ 0 by omega)
      have z1 := Int.emod_lt_of_pos (n' / 3 + (0 + (i : Int)) * 104729) (show (0 : Int) < 67 by omega)
      have npd : p ≠ dw := fun e => by rw [e, upd_same] at hp; cases hp
      have hp2 : H2 p = none := by rw [upd_ne npd] at hp; exact hp
      have npl : p ≠ l := fun e => by rw [e, DD.lst] at hp2; cases hp2
      have lw := DD.lst
      have pl : ps.length ≤ 3 := by rw [DD.len, List.length_map]; exact FF.len
      refine ⟨l, _, _, rfl, rfl, (by rw [upd_ne (Ne.symm npl), upd_ne nld]; exact lw), small1000 (by rw [List.length_map]; omega), ?_⟩
      have tp : ∀ q ∈ ps, q ≠ dw := fun q hq e => by
        obtain ⟨o, ho⟩ := DD.live q (List.mem_cons_of_mem _ hq)
        obtain ⟨j, hj⟩ := List.mem_iff_getElem?.mp hq
        have hj2 : j < (was.map arr).length := by rw [← DD.len]; exact (List.getElem?_eq_some_iff.mp hj).1
        have t := DD.at_ j q _ hj (List.getElem?_eq_getElem hj2)
        rw [e, hw] at t
        cases t
      have D1 : DeedsAt (upd H2 dw (.dK (trus was ++ [((Sum.inr z : Key), V.bl true)]))) l (was.map arr) ps := DD.mv fun a ha o e => by
        rw [upd_ne]
        · exact e
        · rcases List.mem_cons.mp ha with rfl | ha
          · exact nld
          · exact tp a ha
      have D2 := D1.push (d := arr (z, (n' / 3 + (0 + (i : Int)) * 104729) % 67)) (p := p) (same_new hp (.tup (arr (z, (n' / 3 + (0 + (i : Int)) * 104729) % 67)).vals)) upd_same
      refine ⟨_, _, _, was ++ [(z, (n' / 3 + (0 + (i : Int)) * 104729) % 67)], ps ++ [p], rfl, ?_, ?_, ?_, ?_, ?_, ?_, fun _ => by simp⟩
      · exact same_put1 ((same_put1 s2 hdw0).trans (same_new hp _)) hl
      · intro a ha
        rcases List.mem_append.mp ha with ha | ha
        · exact hps a ha
        · rw [List.mem_singleton.mp ha]; exact s2.free hp2
      · rw [List.map_append]; exact D2
      · rw [upd_ne (Ne.symm nld), upd_ne (Ne.symm npd), upd_same]
        unfold trus
        rw [List.map_append]
        rfl
      · rw [List.length_append, List.length_singleton]; omega
      · refine ⟨nod_app FF.nod ((has_no was z).mpr hin), by rw [List.length_append, List.length_singleton]; omega, fun x hx => ?_⟩
        rcases List.mem_append.mp hx with hx | hx
        · exact FF.ok x hx
        · rw [List.mem_singleton.mp hx]; exact ⟨hz, z0, by show _ % 67 ≤ 120; omega⟩
  · rintro σ H2 ⟨n', v3, v4, was, ps, rfl, s2, hps, DD, hw, hlw, FF, hne⟩
    refine ⟨_, rfl, q l was ps H2 s2 (fun a ha => ?_) FF (hne (by omega)) DD⟩
    rcases List.mem_cons.mp ha with rfl | ha
    · exact hl
    · exact hps a ha
theorem ok_law_do {f : Addr} {fd : FuncData} (F : Fun K "_law_do" "_law_do" s_law_do f fd) (T : Txt K g mg) (D_World_comes : Dm P w0 K mg base (CXR P w0 base) g.World 4 "comes" ["self", "word"] (sp_World_comes K g)) (D_World_pass_years : Dm P w0 K mg base (CXR P w0 base) g.World 2 "pass_years" ["self", "many"] (sp_World_pass_years K g)) (D_World_arrive : Dm P w0 K mg base (CXR P w0 base) g.World 5 "arrive" ["self", "word", "age"] (sp_World_arrive K g)) (D_World_birth : Dm P w0 K mg base (CXR P w0 base) g.World 5 "birth" ["self", "name"] (sp_World_birth K g)) (D_World_death : Dm P w0 K mg base (CXR P w0 base) g.World 5 "death" ["self", "name"] (sp_World_death K g)) : FnOk P w0 K mg base CX0 6 f fd ["_law_world", "_law_deed"] (sp_law_do K g) := by
  refine F.ok sc_law_do (fun vs H Q E h => ?_) (fun cdv A outer s H vs Q E hr h => ?_)
  · obtain ⟨w, S, R, p, d, far, k, rfl, _⟩ := h
    rfl
  obtain ⟨w, S, R, p, d, far, k, rfl, W, hp, O, hk, hg, hfar, q⟩ := h
  refine ⟨_, (
(@pss_cons _ _ _ _ _ (@ps_if _ _ _ _ _ _ _ _ (@pt_cmpR _ _ _ _ _ _ _ _ (@op_eq _) (@pe_ix _ _ _ _ _ _ _ (@ix_tup _) (@qv _ 1 _ _ (by walk_at "w")) (@pe_int _ _ _ _) (fun _ _ => rfl)) (@pe_str _ _ _ _) (nomark _)) (@pss_one _ _ _ (@ps_ret _ _ _ _ (@pe_mt _ _ _ _ _ _ _ _ _ _ _ _ _ _ _ _ passF D_World_pass_years (hr.mono (by decide)) (@qv _ 0 _ _ (by walk_at "w")) (@pa_cons _ _ _ _ _ (@pe_ix _ _ _ _ _ _ _ (@ix_tup _) (@qv _ 1 _ _ (by walk_at "w")) (@pe_int _ _ _ _) (fun _ _ => rfl)) (@pa_nil _) (by rfl)) (by rfl) (by rfl) (by rfl)))) (@pss_nil _)) (@pss_cons _ _ _ _ _ (@ps_if _ _ _ _ _ _ _ _ (@pt_cmpR _ _ _ _ _ _ _ _ (@op_eq _) (@pe_ix _ _ _ _ _ _ _ (@ix_tup _) (@qv _ 1 _ _ (by walk_at "w")) (@pe_int _ _ _ _) (fun _ _ => rfl)) (@pe_str _ _ _ _) (nomark _)) (@pss_one _ _ _ (@ps_ret _ _ _ _ (@pe_mt _ _ _ _ _ _ _ _ _ _ _ _ _ _ _ _ passF D_World_arrive (hr.mono (by decide)) (@qv _ 0 _ _ (by walk_at "w")) (@pa_cons _ _ _ _ _ (@pe_ix _ _ _ _ _ _ _ (@ix_tup _) (@qv _ 1 _ _ (by walk_at "w")) (@pe_int _ _ _ _) (fun _ _ => rfl)) (@pa_cons _ _ _ _ _ (@pe_ix _ _ _ _ _ _ _ (@ix_tup _) (@qv _ 1 _ _ (by walk_at "w")) (@pe_int _ _ _ _) (fun _ _ => rfl)) (@pa_nil _) (by rfl)) (by rfl)) (by rfl) (by rfl) (by rfl)))) (@pss_nil _)) (@pss_cons _ _ _ _ _ (@ps_if _ _ _ _ _ _ _ _ (@pt_cmpR _ _ _ _ _ _ _ _ (@op_eq _) (@pe_ix _ _ _ _ _ _ _ (@ix_tup _) (@qv _ 1 _ _ (by walk_at "w")) (@pe_int _ _ _ _) (fun _ _ => rfl)) (@pe_str _ _ _ _) (nomark _)) (@pss_one _ _ _ (@ps_ret _ _ _ _ (@pe_mt _ _ _ _ _ _ _ _ _ _ _ _ _ _ _ _ passF D_World_birth (hr.mono (by decide)) (@qv _ 0 _ _ (by walk_at "w")) (@pa_cons _ _ _ _ _ (@pe_ix _ _ _ _ _ _ _ (@ix_tup _) (@qv _ 1 _ _ (by walk_at "w")) (@pe_int _ _ _ _) (fun _ _ => rfl)) (@pa_nil _) (by rfl)) (by rfl) (by rfl) (by rfl)))) (@pss_nil _)) (@pss_cons _ _ _ _ _ (@ps_if _ _ _ _ _ _ _ _ (@pt_cmpR _ _ _ _ _ _ _ _ (@op_eq _) (@pe_ix _ _ _ _ _ _ _ (@ix_tup _) (@qv _ 1 _ _ (by walk_at "w")) (@pe_int _ _ _ _) (fun _ _ => rfl)) (@pe_str _ _ _ _) (nomark _)) (@pss_one _ _ _ (@ps_ret _ _ _ _ (@pe_mt _ _ _ _ _ _ _ _ _ _ _ _ _ _ _ _ passF D_World_death (hr.mono (by decide)) (@qv _ 0 _ _ (by walk_at "w")) (@pa_cons _ _ _ _ _ (@pe_ix _ _ _ _ _ _ _ (@ix_tup _) (@qv _ 1 _ _ (by walk_at "w")) (@pe_int _ _ _ _) (fun _ _ => rfl)) (@pa_nil _) (by rfl)) (by rfl) (by rfl) (by rfl)))) (@pss_nil _)) (@pss_one _ _ _ (@ps_ret _ _ _ _ (@pe_mt _ _ _ _ _ _ _ _ _ _ _ _ _ _ _ _ passF D_World_comes (hr.mono (by decide)) (@qv _ 0 _ _ (by walk_at "w")) (@pa_cons _ _ _ _ _ (@pe_ix _ _ _ _ _ _ _ (@ix_tup _) (@qv _ 1 _ _ (by walk_at "w")) (@pe_int _ _ _ _) (fun _ _ => rfl)) (@pa_nil _) (by rfl)) (by rfl) (by rfl) (by rfl))))))))), ?_⟩
  have lb := O.lb
  have ld := O.ld
  have lc := O.lc
  obtain ⟨dx, b, hd, RL, hw, L, hh, eR, n1, n2⟩ := W.ex
  cases d with
  | arrive ww aa =>
    refine ⟨_, rfl, p, _, _, _, rfl, rfl, SqT.of hp, rfl, rfl, _, rfl, ifNe (by decide +kernel) ?_⟩
    refine ⟨_, rfl, p, _, _, _, rfl, rfl, SqT.of hp, rfl, rfl, _, rfl, ifEq ?_⟩
    refine ⟨_, rfl, w, dx, _, rfl, hw, rfl, _, rfl, p, _, _, _, rfl, rfl, SqT.of hp, rfl, _, rfl, p, _, _, _, rfl, rfl, SqT.of hp, rfl, w, S, R, ww, aa, rfl, W, by have := (gw_len hg.1).2; omega, by omega, (fun e => absurd hg.2.2 e), (fun _ e => by rw [hg.1] at e; cases e), (fun _ _ e => by rw [hg.2.1] at e; cases e), fun _ _ _ R' H' kp gr W' => ?_⟩
    exact q _ R' H' kp gr W'
  | birth nn =>
    refine ⟨_, rfl, p, _, _, _, rfl, rfl, SqT.of hp, rfl, rfl, _, rfl, ifNe (by decide +kernel) ?_⟩
    refine ⟨_, rfl, p, _, _, _, rfl, rfl, SqT.of hp, rfl, rfl, _, rfl, ifNe (by decide +kernel) ?_⟩
    refine ⟨_, rfl, p, _, _, _, rfl, rfl, SqT.of hp, rfl, rfl, _, rfl, ifEq ?_⟩
    refine ⟨_, rfl, w, dx, _, rfl, hw, rfl, _, rfl, p, _, _, _, rfl, rfl, SqT.of hp, rfl, w, S, R, nn, rfl, W, by omega, by have := O.few nn; omega, (fun e => by rw [hg.1] at e; cases e), (fun _ e => by rw [hg.2.1] at e; cases e), (fun _ _ e => by have := hg.2.2; omega), fun _ _ _ R' H' kp gr W' => ?_⟩
    exact q _ R' H' kp gr W'
  | death nn =>
    refine ⟨_, rfl, p, _, _, _, rfl, rfl, SqT.of hp, rfl, rfl, _, rfl, ifNe (by decide +kernel) ?_⟩
    refine ⟨_, rfl, p, _, _, _, rfl, rfl, SqT.of hp, rfl, rfl, _, rfl, ifNe (by decide +kernel) ?_⟩
    refine ⟨_, rfl, p, _, _, _, rfl, rfl, SqT.of hp, rfl, rfl, _, rfl, ifNe (by decide +kernel) ?_⟩
    refine ⟨_, rfl, p, _, _, _, rfl, rfl, SqT.of hp, rfl, rfl, _, rfl, ifEq ?_⟩
    refine ⟨_, rfl, w, dx, _, rfl, hw, rfl, _, rfl, p, _, _, _, rfl, rfl, SqT.of hp, rfl, w, S, R, nn, rfl, W, by omega, (fun e => by rw [hg.1] at e; cases e), (fun _ e => by rw [hg.2] at e; cases e), fun _ _ H' kp W' => ?_⟩
    exact q _ R H' kp (Grow.refl _ _) W'
  | comes ww =>
    refine ⟨_, rfl, p, _, _, _, rfl, rfl, SqT.of hp, rfl, rfl, _, rfl, ifNe (by decide +kernel) ?_⟩
    refine ⟨_, rfl, p, _, _, _, rfl, rfl, SqT.of hp, rfl, rfl, _, rfl, ifNe (by decide +kernel) ?_⟩
    refine ⟨_, rfl, p, _, _, _, rfl, rfl, SqT.of hp, rfl, rfl, _, rfl, ifNe (by decide +kernel) ?_⟩
    refine ⟨_, rfl, p, _, _, _, rfl, rfl, SqT.of hp, rfl, rfl, _, rfl, ifNe (by decide +kernel) ?_⟩
    refine ⟨_, rfl, w, dx, _, rfl, hw, rfl, _, rfl, p, _, _, _, rfl, rfl, SqT.of hp, rfl, w, S, R, ww, rfl, W, by have := (gw_len hg.1).2; omega, by omega, (fun e => by rw [hg.1] at e; cases e), (fun _ e => by rw [hg.2] at e; cases e), fun _ _ H' kp W' => ?_⟩
    exact q _ R H' kp (Grow.refl _ _) W'
  | years kk =>
    refine ⟨_, rfl, p, _, _, _, rfl, rfl, SqT.of hp, rfl, rfl, _, rfl, ifEq ?_⟩
    refine ⟨_, rfl, w, dx, _, rfl, hw, rfl, _, rfl, p, _, _, _, rfl, rfl, SqT.of hp, rfl, w, S, R, kk, rfl, W, (fun e => absurd ⟨hg.1, by have := hg.2; omega⟩ e), fun _ H' kp W' => ?_⟩
    exact q _ R H' kp (Grow.refl _ _) W'
theorem ok_law_path {f : Addr} {fd : FuncData} (F : Fun K "_law_path" "_law_path" s_law_path f fd) (T : Txt K g mg)  : FnOk P w0 K mg base CX0 1 f fd ["_law_model_here", "_law_n"] (sp_law_path K g) := by
  refine F.ok sc_law_path (fun vs H Q E h => ?_) (fun cdv A outer s H vs Q E hr h => ?_)
  · obtain ⟨m, S, R, n, rfl, _⟩ := h
    rfl
  obtain ⟨m, S, R, n, rfl, M, W, hlen, ⟨w0, hw0, _⟩, q⟩ := h
  refine ⟨_, (
(@pss_cons _ _ _ _ _ (@ps_set _ _ (2) _ _ _ _ sc_law_path.nd rfl (Or.inl rfl) (@pe_callTy _ _ _ _ _ _ _ _ _ (@call_listD _ rfl) rfl T.z_list PyProof.Rows.boot_list (@pa_cons _ _ _ _ _ (@pe_ix _ _ _ _ _ _ _ (@ix_tup _) (@qv _ 0 _ _ (by walk_at "w")) (@pe_int _ _ _ _) (fun _ _ => rfl)) (@pa_nil _) (by rfl)) (by decide) (by decide) (by rfl) (by rfl)) (by rfl) (by walk_at "u")) (@pss_cons _ _ _ _ _ (@ps_set _ _ (3) _ _ _ _ sc_law_path.nd rfl (Or.inl rfl) (@pe_ix _ _ _ _ _ _ _ (@ix_list _) (@qv _ 2 _ _ (by walk_at "w")) (@pe_op _ _ _ _ _ _ _ _ (@op_mod _) (@qv _ 1 _ _ (by walk_at "w")) (@pe_callB _ _ _ _ _ _ _ _ _ (@call_len _) rfl T.z_len PySem.boot_len (@pa_cons _ _ _ _ _ (@qv _ 2 _ _ (by walk_at "w")) (@pa_nil _) (by rfl)) (by decide) (by decide) (by rfl) (by rfl))) (fun _ _ => rfl)) (by rfl) (by walk_at "u")) (@pss_cons _ _ _ _ _ (@ps_set _ _ (1) _ _ _ _ sc_law_path.nd rfl (Or.inl rfl) (@pe_op _ _ _ _ _ _ _ _ (@op_fdiv _) (@qv _ 1 _ _ (by walk_at "w")) (@pe_callB _ _ _ _ _ _ _ _ _ (@call_len _) rfl T.z_len PySem.boot_len (@pa_cons _ _ _ _ _ (@qv _ 2 _ _ (by walk_at "w")) (@pa_nil _) (by rfl)) (by decide) (by decide) (by rfl) (by rfl))) (by rfl) (by walk_at "u")) (@pss_cons _ _ _ _ _ (@ps_for _ _ _ _ _ _ _ _ PassesOwn.never rfl (@pi_range1 _ _ _ _ _ _ rfl T.z_range (@pa_cons _ _ _ _ _ (@pe_ix _ _ _ _ _ _ _ (@ix_list _) (@pe_lst _ _ _ _ (@pa_cons _ _ _ _ _ (@pe_int _ _ _ _) (@pa_cons _ _ _ _ _ (@pe_int _ _ _ _) (@pa_cons _ _ _ _ _ (@pe_int _ _ _ _) (@pa_cons _ _ _ _ _ (@pe_int _ _ _ _) (@pa_cons _ _ _ _ _ (@pe_int _ _ _ _) (@pa_nil _) (by rfl)) (by rfl)) (by rfl)) (by rfl)) (by rfl))) (@pe_op _ _ _ _ _ _ _ _ (@op_mod _) (@qv _ 1 _ _ (by walk_at "w")) (@pe_int _ _ _ _)) (fun _ _ => rfl)) (@pa_nil _) (by rfl)) (by rfl)) (@pg_name _ _ (4) _ sc_law_path.nd rfl (Or.inl rfl) (by walk_at "u")) (@pss_cons _ _ _ _ _ (@ps_set _ _ (1) _ _ _ _ sc_law_path.nd rfl (Or.inl rfl) (@pe_op _ _ _ _ _ _ _ _ (@op_fdiv _) (@qv _ 1 _ _ (by walk_at "w")) (@pe_int _ _ _ _)) (by rfl) (by walk_at "u")) (@pss_one _ _ _ (@ps_if _ _ _ _ _ _ _ _ (@pt_cmpR _ _ _ _ _ _ _ _ (@op_lt _) (@pe_bm _ _ _ _ _ _ _ _ _ _ _ _ PySem.F.plainAttrs_str PySem.F.slot_str_count PySem.F.type_str_count (@mt_count _) (@qv _ 3 _ _ (by walk_at "w")) (@pa_cons _ _ _ _ _ (@pe_str _ _ _ _) (@pa_nil _) (by rfl)) (by rfl) (by rfl) (by rfl) (by rfl) (by rfl)) (@pe_int _ _ _ _) (nomark _)) (@pss_one _ _ _ (@ps_set _ _ (3) _ _ _ _ sc_law_path.nd rfl (Or.inl rfl) (@pe_op _ _ _ _ _ _ _ _ (@op_add_str _) (@pe_op _ _ _ _ _ _ _ _ (@op_add_str _) (@qv _ 3 _ _ (by walk_at "w")) (@pe_str _ _ _ _)) (@pe_callTy _ _ _ _ _ _ _ _ _ (@call_str_int _) rfl T.z_str PyProof.Rows.boot_str (@pa_cons _ _ _ _ _ (@pe_op _ _ _ _ _ _ _ _ (@op_add _) (@pe_int _ _ _ _) (@pe_op _ _ _ _ _ _ _ _ (@op_mod _) (@qv _ 1 _ _ (by walk_at "w")) (@pe_int _ _ _ _))) (@pa_nil _) (by rfl)) (by decide) (by decide) (by rfl) (by rfl))) (by rfl) (by walk_at "u"))) (@pss_nil _)))) (by intro _ ; rfl)) (@pss_one _ _ _ (@ps_ret _ _ _ _ (@qv _ 3 _ _ (by walk_at "w"))))))))), ?_⟩
  obtain ⟨c, e1, e2, e3, B⟩ := M.tup_of
  refine ⟨_, rfl, m, _, _, _, rfl, rfl, SqT.of B.tup, rfl, e1, _, rfl, .inl B.h1, fun l hl => ?_⟩
  rw [keysK]
  have s1 := same_new hl (.lst ((keysL S.bs).map V.str))
  have hl1 : upd H l (.lst ((keysL S.bs).map V.str)) l = some (.lst ((keysL S.bs).map V.str)) := upd_same
  generalize upd H l (.lst ((keysL S.bs).map V.str)) = H1 at s1 hl1 ⊢
  have kl : ((keysL S.bs).map V.str).length = S.bs.length := by unfold keysL; rw [List.length_map, List.length_map]
  have hpos0 : 0 < S.bs.length := by
    have := (has_iff S.bs w0).mp hw0
    cases e : S.bs with
    | nil => rw [e] at this; cases this
    | cons x r => simp
  have hpos : (0 : Int) < (((keysL S.bs).map V.str).length : Nat) := by omega
  obtain ⟨v, hv⟩ := atI_in (xs := (keysL S.bs).map V.str) (Int.emod_nonneg n (show ((((keysL S.bs).map V.str).length : Nat) : Int) ≠ 0 by omega)) (Int.emod_lt_of_pos n hpos)
  obtain ⟨nm, rfl, hnm⟩ : ∃ nm, v = .str nm ∧ has S.bs nm = true := by
    unfold atI at hv
    obtain ⟨j, _, e⟩ := Option.bind_eq_some_iff.mp hv
    exact keys_at e
  refine ⟨_, rfl, _, rfl, _, rfl, _, _, rfl, .inl ⟨_, SqL.of hl1, rfl⟩, _, _, rfl, rfl, hpos, l, _, _, _, rfl, rfl, SqL.of hl1, hv, ?_⟩
  refine ⟨_, rfl, _, rfl, _, _, rfl, .inl ⟨_, SqL.of hl1, rfl⟩, _, _, rfl, rfl, ⟨hpos, by omega⟩, ?_⟩
  refine ⟨(by show 5 ≤ sizeLine; decide), fun l2 hl2 => ?_⟩
  have s2 := same_new hl2 (.lst [V.int 0, .int 1, .int 0, .int 2, .int 1])
  have z0 := Int.emod_nonneg (n / ((((keysL S.bs).map V.str).length : Nat) : Int)) (show (5 : Int) ≠ 0 by decide)
  have z1 := Int.emod_lt_of_pos (n / ((((keysL S.bs).map V.str).length : Nat) : Int)) (show (0 : Int) < 5 by decide)
  obtain ⟨t, ht, ht2⟩ : ∃ t : Nat, atI [V.int 0, .int 1, .int 0, .int 2, .int 1] ((n / ((((keysL S.bs).map V.str).length : Nat) : Int)) % 5) = some (.int (t : Int)) ∧ t ≤ 2 := by
    rcases (show (n / ((((keysL S.bs).map V.str).length : Nat) : Int)) % 5 = 0 ∨ (n / ((((keysL S.bs).map V.str).length : Nat) : Int)) % 5 = 1 ∨ (n / ((((keysL S.bs).map V.str).length : Nat) : Int)) % 5 = 2 ∨ (n / ((((keysL S.bs).map V.str).length : Nat) : Int)) % 5 = 3 ∨ (n / ((((keysL S.bs).map V.str).length : Nat) : Int)) % 5 = 4 by omega) with e | e | e | e | e <;> rw [e]
    · exact ⟨0, rfl, by decide⟩
    · exact ⟨1, rfl, by decide⟩
    · exact ⟨0, rfl, by decide⟩
    · exact ⟨2, rfl, by decide⟩
    · exact ⟨1, rfl, by decide⟩
  refine ⟨_, rfl, _, _, rfl, rfl, (by show (0 : Int) < 5; decide), l2, _, _, _, rfl, rfl, SqL.of upd_same, ht, ?_⟩
  have d5 : ∀ x : Str, pok x = true → dots x ≤ 5 := fun x hx => by
    unfold pok at hx
    simp only [Bool.and_eq_true, decide_eq_true_eq] at hx
    rw [dots_eq]; exact hx.1.2
  have nn : nr S.bs nm ≠ Str.empty := by
    have h0 : nm.length ≠ 0 := fun e => by rw [len0 e, has_emp W] at hnm; cases hnm
    rw [nr_has h0 hnm]
    exact fun e => h0 (by rw [e]; rfl)
  refine ⟨_, rfl, by omega, by omega, for_range (n := (t : Int).toNat) (fun i σ H2 => ∃ (n2 : Int) (z : Str) (v4 : Option V), σ = [some (.ref m), some (.int n2), some (.ref l), some (.str z), v4] ∧ Same H H2 ∧ pok z = true ∧ nr S.bs z ≠ Str.empty) ⟨(n / ((((keysL S.bs).map V.str).length : Nat) : Int)), nm, none, rfl, s1.trans s2, W.wrt nm hnm, nn⟩ ?_ ?_⟩
  · rintro i σ H2 hi ⟨n2, z, v4, rfl, s3, hz, hnz⟩
    refine ⟨_, rfl, _, _, rfl, rfl, ⟨by decide, by decide⟩, ?_⟩
    refine ⟨_, rfl, rfl, z, dot, rfl, rfl, _, _, rfl, rfl, _, rfl, ite2 (fun cc => ?_) (fun _ => ⟨_, z, _, rfl, s3, hz, hnz⟩)⟩
    have hd : dots z < 5 := by have w := of_decide_eq_true cc; unfold dots; omega
    have zl := pok_len hz
    have y0 := Int.emod_nonneg (n2 / 5) (show (3 : Int) ≠ 0 by decide)
    have y1 := Int.emod_lt_of_pos (n2 / 5) (show (0 : Int) < 3 by decide)
    obtain ⟨j, hj, hj3⟩ : ∃ j : Nat, 1 + n2 / 5 % 3 = (j : Int) + 1 ∧ j < 3 := ⟨(n2 / 5 % 3).toNat, by omega, by omega⟩
    have c1 : (0 : Int) ≤ (j : Int) + 1 := by omega
    have c2 : (j : Int) + 1 < 131 := by omega
    have tl := ts_len c1 c2
    refine ⟨_, rfl, z, _, rfl, rfl, line_ok (by show z.length + 1 ≤ 500; omega), _, rfl, _, _, rfl, rfl, (by show (0 : Int) < 3; decide), _, _, rfl, rfl, (j : Int) + 1, (by show [V.int (1 + n2 / 5 % 3)] = _; rw [hj]), log_small c1 c2, _, _, rfl, rfl, line_ok (by rw [show (z ++ ("." : Str)).length = z.length + 1 from slen_app _ _]; omega), ?_⟩
    refine ⟨_, kid z j, _, rfl, s3, pok_kid hz hd (by omega), ?_⟩
    rw [nr_kid]
    split
    · exact fun e => kid_len z j (by rw [e]; rfl)
    · exact hnz
  · rintro σ H2 ⟨n2, z, v4, rfl, s3, hz, hnz⟩
    exact ⟨_, rfl, q z H2 s3 hz hnz⟩
theorem ok_law_need {f : Addr} {fd : FuncData} (F : Fun K "_law_need" "_law_need" s_law_need f fd) (T : Txt K g mg) (D_law_path : Dn P w0 K mg base 1 "_law_path" ["_law_model_here", "_law_n"] (sp_law_path K g)) (D_law_word : Dn P w0 K mg base 1 "_law_word" ["_law_n"] (sp_law_word K g)) : FnOk P w0 K mg base CX0 2 f fd ["_law_model_here", "_law_n"] (sp_law_need K g) := by
  refine F.ok sc_law_need (fun vs H Q E h => ?_) (fun cdv A outer s H vs Q E hr h => ?_)
  · obtain ⟨m, S, R, n, rfl, _⟩ := h
    rfl
  obtain ⟨m, S, R, n, rfl, M, W, hlen, RT, q⟩ := h
  refine ⟨_, (
(@pss_cons _ _ _ _ _ (@ps_set _ _ (2) _ _ _ _ sc_law_need.nd rfl (Or.inl rfl) (@pe_op _ _ _ _ _ _ _ _ (@op_mod _) (@qv _ 1 _ _ (by walk_at "w")) (@pe_int _ _ _ _)) (by rfl) (by walk_at "u")) (@pss_cons _ _ _ _ _ (@ps_set _ _ (1) _ _ _ _ sc_law_need.nd rfl (Or.inl rfl) (@pe_op _ _ _ _ _ _ _ _ (@op_fdiv _) (@qv _ 1 _ _ (by walk_at "w")) (@pe_int _ _ _ _)) (by rfl) (by walk_at "u")) (@pss_cons _ _ _ _ _ (@ps_if _ _ _ _ _ _ _ _ (@pt_cmpR _ _ _ _ _ _ _ _ (@op_eq _) (@qv _ 2 _ _ (by walk_at "w")) (@pe_int _ _ _ _) (nomark _)) (@pss_one _ _ _ (@ps_ret _ _ _ _ (@pe_tup _ _ _ _ _ (@pa_cons _ _ _ _ _ (@pe_str _ _ _ _) (@pa_cons _ _ _ _ _ (@pe_op _ _ _ _ _ _ _ _ (@op_mod _) (@pe_ix _ _ _ _ _ _ _ (@ix_list _) (@pe_lst _ _ _ _ (@pa_cons _ _ _ _ _ (@pe_callB _ _ _ _ _ _ _ _ _ (@call_max2 _ rfl) rfl T.z_max PyProof.Rows.boot_max (@pa_cons _ _ _ _ _ (@pe_int _ _ _ _) (@pa_cons _ _ _ _ _ (@pe_op _ _ _ _ _ _ _ _ (@op_sub _) (@pe_op _ _ _ _ _ _ _ _ (@op_add _) (@pe_ix _ _ _ _ _ _ _ (@ix_list _) (@pe_ix _ _ _ _ _ _ _ (@ix_tup _) (@qv _ 0 _ _ (by walk_at "w")) (@pe_int _ _ _ _) (fun _ _ => rfl)) (@pe_int _ _ _ _) (fun _ _ => rfl)) (@pe_op _ _ _ _ _ _ _ _ (@op_mod _) (@qv _ 1 _ _ (by walk_at "w")) (@pe_int _ _ _ _))) (@pe_int _ _ _ _)) (@pa_nil _) (by rfl)) (by rfl)) (by decide) (by decide) (by rfl) (by rfl)) (@pa_cons _ _ _ _ _ (@pe_op _ _ _ _ _ _ _ _ (@op_fdiv _) (@qv _ 1 _ _ (by walk_at "w")) (@pe_int _ _ _ _)) (@pa_nil _) (by rfl)) (by rfl))) (@pe_op _ _ _ _ _ _ _ _ (@op_mod _) (@pe_op _ _ _ _ _ _ _ _ (@op_fdiv _) (@qv _ 1 _ _ (by walk_at "w")) (@pe_int _ _ _ _)) (@pe_int _ _ _ _)) (fun _ _ => rfl)) (@pe_int _ _ _ _)) (@pa_nil _) (by rfl)) (by rfl))))) (@pss_nil _)) (@pss_cons _ _ _ _ _ (@ps_if _ _ _ _ _ _ _ _ (@pt_cmpR _ _ _ _ _ _ _ _ (@op_eq _) (@qv _ 2 _ _ (by walk_at "w")) (@pe_int _ _ _ _) (nomark _)) (@pss_one _ _ _ (@ps_ret _ _ _ _ (@pe_tup _ _ _ _ _ (@pa_cons _ _ _ _ _ (@pe_str _ _ _ _) (@pa_cons _ _ _ _ _ (@pe_ix _ _ _ _ _ _ _ (@ix_list _) (@pe_lst _ _ _ _ (@pa_cons _ _ _ _ _ (@pe_str _ _ _ _) (@pa_cons _ _ _ _ _ (@pe_str _ _ _ _) (@pa_cons _ _ _ _ _ (@pe_str _ _ _ _) (@pa_cons _ _ _ _ _ (@pe_fn _ _ _ _ _ _ _ _ _ _ D_law_word (hr.mono (by decide)) (@pa_cons _ _ _ _ _ (@pe_op _ _ _ _ _ _ _ _ (@op_fdiv _) (@qv _ 1 _ _ (by walk_at "w")) (@pe_int _ _ _ _)) (@pa_nil _) (by rfl)) (by rfl) (by decide) (by rfl) (by rfl)) (@pa_nil _) (by rfl)) (by rfl)) (by rfl)) (by rfl))) (@pe_op _ _ _ _ _ _ _ _ (@op_mod _) (@qv _ 1 _ _ (by walk_at "w")) (@pe_int _ _ _ _)) (fun _ _ => rfl)) (@pa_nil _) (by rfl)) (by rfl))))) (@pss_nil _)) (@pss_cons _ _ _ _ _ (@ps_set _ _ (3) _ _ _ _ sc_law_need.nd rfl (Or.inl rfl) (@pe_fn _ _ _ _ _ _ _ _ _ _ D_law_path (hr.mono (by decide)) (@pa_cons _ _ _ _ _ (@qv _ 0 _ _ (by walk_at "w")) (@pa_cons _ _ _ _ _ (@pe_op _ _ _ _ _ _ _ _ (@op_fdiv _) (@qv _ 1 _ _ (by walk_at "w")) (@pe_int _ _ _ _)) (@pa_nil _) (by rfl)) (by rfl)) (by rfl) (by decide) (by rfl) (by rfl)) (by rfl) (by walk_at "u")) (@pss_cons _ _ _ _ _ (@ps_if _ _ _ _ _ _ _ _ (@pt_cmpR _ _ _ _ _ _ _ _ (@op_lt _) (@qv _ 2 _ _ (by walk_at "w")) (@pe_int _ _ _ _) (nomark _)) (@pss_one _ _ _ (@ps_ret _ _ _ _ (@pe_tup _ _ _ _ _ (@pa_cons _ _ _ _ _ (@pe_ix _ _ _ _ _ _ _ (@ix_list _) (@pe_lst _ _ _ _ (@pa_cons _ _ _ _ _ (@pe_str _ _ _ _) (@pa_cons _ _ _ _ _ (@pe_str _ _ _ _) (@pa_cons _ _ _ _ _ (@pe_str _ _ _ _) (@pa_nil _) (by rfl)) (by rfl)) (by rfl))) (@pe_op _ _ _ _ _ _ _ _ (@op_sub _) (@qv _ 2 _ _ (by walk_at "w")) (@pe_int _ _ _ _)) (fun _ _ => rfl)) (@pa_cons _ _ _ _ _ (@qv _ 3 _ _ (by walk_at "w")) (@pa_nil _) (by rfl)) (by rfl))))) (@pss_nil _)) (@pss_one _ _ _ (@ps_ret _ _ _ _ (@pe_tup _ _ _ _ _ (@pa_cons _ _ _ _ _ (@pe_str _ _ _ _) (@pa_cons _ _ _ _ _ (@qv _ 3 _ _ (by walk_at "w")) (@pa_cons _ _ _ _ _ (@pe_ix _ _ _ _ _ _ _ (@ix_list _) (@pe_lst _ _ _ _ (@pa_cons _ _ _ _ _ (@pe_op _ _ _ _ _ _ _ _ (@op_mod _) (@qv _ 1 _ _ (by walk_at "w")) (@pe_int _ _ _ _)) (@pa_cons _ _ _ _ _ (@pe_op _ _ _ _ _ _ _ _ (@op_mod _) (@qv _ 1 _ _ (by walk_at "w")) (@pe_int _ _ _ _)) (@pa_nil _) (by rfl)) (by rfl))) (@pe_op _ _ _ _ _ _ _ _ (@op_mod _) (@pe_op _ _ _ _ _ _ _ _ (@op_fdiv _) (@qv _ 1 _ _ (by walk_at "w")) (@pe_int _ _ _ _)) (@pe_int _ _ _ _)) (fun _ _ => rfl)) (@pa_nil _) (by rfl)) (by rfl)) (by rfl)))))))))))), ?_⟩
  obtain ⟨c, e1, e2, e3, B⟩ := M.tup_of
  have htup := B.tup
  have hclk := B.clk
  have b0 := Int.emod_nonneg n (show (8 : Int) ≠ 0 by decide)
  have b1 := Int.emod_lt_of_pos n (show (0 : Int) < 8 by decide)
  walk_at "go"
  refine ite2 (fun c0 => ?_) (fun c0 => ?_)
  · walk_at "go"
    intro l hl
    have s1 := same_new hl (.lst [V.int (if S.y + n / 8 % 97 - 20 > 0 then S.y + n / 8 % 97 - 20 else 0), .int (n / 8 / 97)])
    obtain ⟨v, hv, hv'⟩ := pickI2 (a := V.int (if S.y + n / 8 % 97 - 20 > 0 then S.y + n / 8 % 97 - 20 else 0)) (b := .int (n / 8 / 97)) (n / 8 / 9)
    obtain ⟨y, rfl⟩ : ∃ y : Int, v = .int y := by rcases hv' with e | e <;> exact ⟨_, e⟩
    walk_at "go"
    intro p hp
    have y0 := Int.emod_nonneg y (show (10000 : Int) ≠ 0 by decide)
    have y1 := Int.emod_lt_of_pos y (show (0 : Int) < 10000 by decide)
    exact q (.year (y % 10000)) p _ (s1.trans (same_new hp _)) (s1.free hp) upd_same ⟨y0, y1⟩
  have k0 : n % 8 ≠ 0 := fun e => c0 (decide_eq_true (congrArg V.int e))
  walk_at "go"
  refine ite2 (fun c1 => ?_) (fun c1 => ?_)
  · walk_at "go"
    intro z hz
    walk_at "go"
    intro l hl
    have s1 := same_new hl (.lst [V.str "war", V.str "flood", V.str "a", V.str z])
    have z0 := Int.emod_nonneg (n / 8) (show (4 : Int) ≠ 0 by omega)
    have z1 := Int.emod_lt_of_pos (n / 8) (show (0 : Int) < 4 by omega)
    obtain ⟨y, hy, gy⟩ := pick4 hz z0 z1
    walk_at "go"
    intro p hp
    exact q (.comes y) p _ (s1.trans (same_new hp _)) (s1.free hp) upd_same gy
  have k1 : n % 8 ≠ 1 := fun e => c1 (decide_eq_true (congrArg V.int e))
  walk_at "go"
  intro z H1 s1 hz hnz
  walk_at "go"
  refine ite2 (fun c2 => ?_) (fun c2 => ?_)
  · have k2 : n % 8 < 5 := of_decide_eq_true c2
    walk_at "go"
    intro l hl
    have s2 := same_new hl (.lst [V.str "born", V.str "dead", V.str "dead"])
    obtain ⟨v, hv, hv'⟩ : ∃ v : Str, atI [V.str "born", V.str "dead", V.str "dead"] (n % 8 - 2) = some (.str v) ∧ (v = "born" ∨ v = "dead") := by
      rcases (show n % 8 = 2 ∨ n % 8 = 3 ∨ n % 8 = 4 by omega) with e | e | e <;> rw [e]
      · exact ⟨_, rfl, .inl rfl⟩
      · exact ⟨_, rfl, .inr rfl⟩
      · exact ⟨_, rfl, .inr rfl⟩
    walk_at "go"
    intro p hp
    rcases hv' with rfl | rfl
    · exact q (.born z) p _ ((s1.trans s2).trans (same_new hp _)) ((s1.trans s2).free hp) upd_same ⟨hz, hnz⟩
    · exact q (.dead z) p _ ((s1.trans s2).trans (same_new hp _)) ((s1.trans s2).free hp) upd_same ⟨hz, hnz⟩
  · walk_at "go"
    intro l hl
    have s2 := same_new hl (.lst [V.int (n / 8 % 37), .int (n / 8 % 121)])
    have x0 := Int.emod_nonneg (n / 8) (show (37 : Int) ≠ 0 by decide)
    have x1 := Int.emod_lt_of_pos (n / 8) (show (0 : Int) < 37 by decide)
    have x2 := Int.emod_nonneg (n / 8) (show (121 : Int) ≠ 0 by decide)
    have x3 := Int.emod_lt_of_pos (n / 8) (show (0 : Int) < 121 by decide)
    obtain ⟨v, hv, hv'⟩ := pickI2 (a := V.int (n / 8 % 37)) (b := .int (n / 8 % 121)) (n / 8 / 121)
    obtain ⟨y, rfl, y0, y1⟩ : ∃ y : Int, v = .int y ∧ 0 ≤ y ∧ y ≤ 120 := by
      rcases hv' with e | e
      · exact ⟨_, e, x0, by omega⟩
      · exact ⟨_, e, x2, by omega⟩
    walk_at "go"
    intro p hp
    exact q (.age z y) p _ ((s1.trans s2).trans (same_new hp _)) ((s1.trans s2).free hp) upd_same ⟨⟨hz, hnz⟩, y0, y1⟩
theorem ok_law_needs {f : Addr} {fd : FuncData} (F : Fun K "_law_needs" "_law_needs" s_law_needs f fd) (T : Txt K g mg) (D_law_need : Dn P w0 K mg base 2 "_law_need" ["_law_model_here", "_law_n"] (sp_law_need K g)) (D_law_rich : Dn P w0 K mg base 1 "_law_rich" ["_law_cell", "_law_place"] (sp_law_rich K g)) : FnOk P w0 K mg base CX0 3 f fd ["_law_model_here", "_law_n", "_law_most"] (sp_law_needs K g) := by
  refine F.ok sc_law_needs (fun vs H Q E h => ?_) (fun cdv A outer s H vs Q E hr h => ?_)
  · obtain ⟨m, S, R, n, most, rfl, _⟩ := h
    rfl
  obtain ⟨m, S, R, n, most, rfl, M, W, hlen, RT, h0, h100, q⟩ := h
  refine ⟨_, (
(@pss_one _ _ _ (@ps_ret _ _ _ _ (@pe_lc _ _ _ ("_law_k") _ _ _ ([("_law_n", s.heap.objs.size + 2), ("_law_model_here", s.heap.objs.size + 1)]) _ ([("_law_model_here", 0), ("_law_n", 1)]) _ _ _ rfl (@pi_range1 _ _ _ _ _ _ rfl T.z_range (@pa_cons _ _ _ _ _ (@pe_op _ _ _ _ _ _ _ _ (@op_mod _) (@qv _ 1 _ _ (by walk_at "w")) (@pe_op _ _ _ _ _ _ _ _ (@op_add _) (@qv _ 2 _ _ (by walk_at "w")) (@pe_int _ _ _ _))) (@pa_nil _) (by rfl)) (by rfl)) (fun _ _ _ _ _ => (@pifs_nil _)) (fun _ _ _ _ _ => (@pe_fn _ _ _ _ _ _ _ _ _ _ D_law_need (hr.mono (by decide)) (@pa_cons _ _ _ _ _ (@qv _ 1 _ _ (by walk_at "w")) (@pa_cons _ _ _ _ _ (@pe_fn _ _ _ _ _ _ _ _ _ _ D_law_rich (hr.mono (by decide)) (@pa_cons _ _ _ _ _ (@pe_op _ _ _ _ _ _ _ _ (@op_add _) (@pe_op _ _ _ _ _ _ _ _ (@op_mod _) (@qv _ 2 _ _ (by walk_at "w")) (@pe_int _ _ _ _)) (@pe_op _ _ _ _ _ _ _ _ (@op_mul _) (@pe_int _ _ _ _) (@qv _ 0 _ _ (by walk_at "w")))) (@pa_cons _ _ _ _ _ (@pe_op _ _ _ _ _ _ _ _ (@op_add _) (@qv _ 0 _ _ (by walk_at "w")) (@pe_int _ _ _ _)) (@pa_nil _) (by rfl)) (by rfl)) (by rfl) (by decide) (by rfl) (by rfl)) (@pa_nil _) (by rfl)) (by rfl)) (by rfl) (by decide) (by rfl) (by rfl))) rfl (by decide +kernel) rfl (by decide +kernel) rfl (fun _ _ h => h) (has_of rfl) (fun p hp => by simp only [List.mem_cons, List.not_mem_nil, or_false] at hp; rcases hp with rfl | rfl <;> exact ⟨rfl, rfl, by first | exact .inl rfl | exact .inr rfl⟩) (by decide +kernel) (by intro _ ; rfl))))), ?_⟩
  have hp1 : 0 < most + 1 := by omega
  have b0 := Int.emod_nonneg n (show most + 1 ≠ 0 by omega)
  have b1 := Int.emod_lt_of_pos n hp1
  have b2 : -(2 ^ 62) ≤ n % (most + 1) := by omega
  have b3 : n % (most + 1) < 2 ^ 62 := by omega
  walk_at "go"
  refine lcR (n := (n % (most + 1)).toNat) (by omega) (fun _ => true) (fun _ v H2 => ∃ p t, v = V.ref p ∧ H2 p = some (.tup (Atm.vals t)) ∧ t.ok S ∧ H p = none) atm_mono (fun i H2 hi s R0 r => r H2 (Same.refl _)) (fun i H2 hi _ s R0 r => ?_) (fun D ys H2 hD s h2 hp => ?_)
  · have M2 := M.same s
    walk_at "go"
    intro r1
    walk_at "go"
    intro t p H3 s3 hp ht ok
    exact r _ H3 s3 ⟨p, t, rfl, ht, ok, s.free hp⟩
  · obtain ⟨ts, ps, A, o, fr, hl⟩ := atms_of h2 hp
    rw [fl_all, List.length_range] at hl
    exact q D ts ps H2 s (fun a ha => by rcases List.mem_cons.mp ha with rfl | ha; exact hD; exact fr a ha) A o (by omega)
theorem ok_law_near {f : Addr} {fd : FuncData} (F : Fun K "_law_near" "_law_near" s_law_near f fd) (T : Txt K g mg)  : FnOk P w0 K mg base CX0 1 f fd ["_law_model_here", "_law_name"] (sp_law_near K g) := by
  refine F.ok sc_law_near (fun vs H Q E h => ?_) (fun cdv A outer s H vs Q E hr h => ?_)
  · obtain ⟨m, S, RM, n, rfl, _⟩ := h
    rfl
  obtain ⟨m, S, RM, n, rfl, M, hx, q⟩ := h
  refine ⟨_, (
(@pss_cons _ _ _ _ _ (@ps_while _ _ _ _ _ _ PassesOwn.never (@PW.pt _ _ _ (@pw_and _ _ _ _ _ _ _ (@pt_cmpR _ _ _ _ _ _ _ _ (@op_ne _) (@qv _ 1 _ _ (by walk_at "w")) (@pe_str _ _ _ _) (nomark _)) (@pw_and1 _ _ _ _ (@pt_cmp _ _ _ _ _ _ (@pc_dnotin _ _ _ _ _ (hu_of hr) (@qv _ 1 _ _ (by walk_at "w")) (@pe_ix _ _ _ _ _ _ _ (@ix_tup _) (@qv _ 0 _ _ (by walk_at "w")) (@pe_int _ _ _ _) (fun _ _ => rfl))) (by walk_at "n"))))) (@pss_one _ _ _ (@ps_if _ _ _ _ _ _ _ _ (@pt_cmpR _ _ _ _ _ _ _ _ (@op_in_str _) (@pe_str _ _ _ _) (@qv _ 1 _ _ (by walk_at "w")) rfl) (@pss_one _ _ _ (@ps_set _ _ (1) _ _ _ _ sc_law_near.nd rfl (Or.inl rfl) (@pe_slice _ _ _ _ _ _ _ _ _ _ (@sl_str _) (@qv _ 1 _ _ (by walk_at "w")) (@po_none _) (@po_some _ _ _ (@pe_bm _ _ _ _ _ _ _ _ _ _ _ _ PySem.F.plainAttrs_str PySem.F.slot_str_rfind PySem.F.type_str_rfind (@mt_rfind _) (@qv _ 1 _ _ (by walk_at "w")) (@pa_cons _ _ _ _ _ (@pe_str _ _ _ _) (@pa_nil _) (by rfl)) (by rfl) (by rfl) (by rfl) (by rfl) (by rfl)))) (by rfl) (by walk_at "u"))) (@pss_one _ _ _ (@ps_set _ _ (1) _ _ _ _ sc_law_near.nd rfl (Or.inl rfl) (@pe_str _ _ _ _) (by rfl) (by walk_at "u")))))) (@pss_one _ _ _ (@ps_ret _ _ _ _ (@qv _ 1 _ _ (by walk_at "w")))))), ?_⟩
  obtain ⟨c, e1, e2, e3, B⟩ := M.tup_of
  refine ⟨fun mm σ H2 => ∃ z : Str, mm = z.length ∧ σ = [some (.ref m), some (.str z)] ∧ z.length ≤ 200 ∧ nr S.bs z = nr S.bs n ∧ H2 = H, ⟨_, n, rfl, rfl, hx, rfl, rfl⟩, ?_⟩
  rintro mm σ H2 ⟨z, rfl, rfl, hz, hnr, rfl⟩
  refine ⟨_, rfl, rfl, _, rfl, ?_⟩
  by_cases h0 : z.length = 0
  · have e0 := len0 h0
    rw [show (!decide (V.str z = V.str "")) = false by rw [e0]; decide +kernel]
    refine iteF (iteF ⟨_, rfl, ?_⟩)
    have e : nr S.bs n = z := by rw [← hnr, e0, nr_nil]
    rw [← e]
    exact q
  · rw [show (!decide (V.str z = V.str "")) = true by rw [decide_eq_false (fun e => h0 (by injection e with e; rw [e]; rfl))]; rfl]
    refine iteT ?_
    refine ⟨_, rfl, _, rfl, m, _, _, _, rfl, rfl, SqT.of B.tup, rfl, e1, _, rfl, DGet.k (k := Sum.inr z) B.h1, _, rfl, ?_⟩
    rw [valV_has]
    cases hh : has S.bs z with
    | true =>
      refine iteF ⟨_, rfl, ?_⟩
      have e : nr S.bs n = z := by rw [← hnr, nr_has h0 hh]
      rw [← e]
      exact q
    | false =>
      have hu := up_len h0
      refine iteT ⟨fun σ' H' => σ' = [some (.ref m), some (.str (up z))] ∧ H' = H2, fun σ' H' ⟨e1, e2⟩ => ⟨(up z).length, hu, up z, rfl, e1, by omega, by rw [← hnr, nr_up h0 hh], e2⟩, ?_⟩
      refine ⟨_, rfl, _, _, rfl, rfl, _, rfl, ?_⟩
      rw [in_dot]
      by_cases hd : 46 ∈ z.cps.toList
      · rw [decide_eq_true hd]
        refine iteT ?_
        have hne : nms z ≠ [] := fun e => by
          have e2 : pcs z = [wd z] := by rw [pcs_eq, e]
          have e3 := pcs_join z
          rw [e2] at e3
          have e4 : wd z = z := e3
          exact pcs_free (x := z) (p := wd z) (by rw [e2]; simp) (by rw [e4]; exact hd)
        obtain ⟨i, hi1, hi2⟩ := up_more hne
        refine ⟨_, rfl, _, rfl, rfl, z, dot, rfl, rfl, _, rfl, z, rfl, line_ok (by omega), ?_⟩
        rw [hi1]
        exact ⟨by rw [← hi2]; rfl, rfl⟩
      · rw [decide_eq_false hd]
        refine iteF ⟨?_, rfl⟩
        have e : up z = Str.empty := by
          unfold up
          rcases StrLaws.last_spec z dot with ⟨e, _⟩ | ⟨i, e, w, _⟩
          · rw [e]
          · exact absurd (List.mem_of_getElem? ((at_iff z i).mp w)) hd
        rw [e]
        rfl
theorem ok_law_age {f : Addr} {fd : FuncData} (F : Fun K "_law_age" "_law_age" s_law_age f fd) (T : Txt K g mg)  : FnOk P w0 K mg base CX0 1 f fd ["_law_model_here", "_law_name"] (sp_law_age K g) := by
  refine F.ok sc_law_age (fun vs H Q E h => ?_) (fun cdv A outer s H vs Q E hr h => ?_)
  · obtain ⟨m, S, R, n, y, rfl, _⟩ := h
    rfl
  obtain ⟨m, S, R, n, y, rfl, M, hy, q⟩ := h
  refine ⟨_, (
(@pss_one _ _ _ (@ps_ret _ _ _ _ (@pe_op _ _ _ _ _ _ _ _ (@op_sub _) (@pe_dget2 _ _ _ _ _ _ _ _ _ (hu_of hr) (@pe_ix _ _ _ _ _ _ _ (@ix_tup _) (@qv _ 0 _ _ (by walk_at "w")) (@pe_int _ _ _ _) (fun _ _ => rfl)) (@qv _ 1 _ _ (by walk_at "w")) (@pe_ix _ _ _ _ _ _ _ (@ix_list _) (@pe_ix _ _ _ _ _ _ _ (@ix_tup _) (@qv _ 0 _ _ (by walk_at "w")) (@pe_int _ _ _ _) (fun _ _ => rfl)) (@pe_int _ _ _ _) (fun _ _ => rfl)) ⟨rfl, rfl, rfl, rfl⟩) (@pe_dget _ _ _ _ _ _ (hu_of hr) (@pe_ix _ _ _ _ _ _ _ (@ix_tup _) (@qv _ 0 _ _ (by walk_at "w")) (@pe_int _ _ _ _) (fun _ _ => rfl)) (@qv _ 1 _ _ (by walk_at "w")) (fun _ _ => rfl)))))), ?_⟩
  obtain ⟨c, e1, e2, e3, B⟩ := M.tup_of
  have gb := DGet.k (H := H) (k := (Sum.inr n : Key)) B.h1
  rw [valV_yrs, hy] at gb
  have gd := DGet.k (H := H) (k := (Sum.inr n : Key)) B.h2
  rw [valV_yrs] at gd
  refine ⟨_, rfl, m, _, _, _, rfl, rfl, SqT.of B.tup, rfl, e2, rfl, .inl ⟨_, .inl B.h2⟩, _, rfl, _, rfl, m, _, _, _, rfl, rfl, SqT.of B.tup, rfl, c, _, _, _, rfl, rfl, SqL.of B.clk, rfl, _, gd, _, rfl, m, _, _, _, rfl, rfl, SqT.of B.tup, rfl, _, rfl, e1, _, rfl, gb, (yr S.ds n).getD S.y, y, ?_, rfl, q⟩
  cases yr S.ds n <;> rfl
theorem ok_law_atom {f : Addr} {fd : FuncData} (F : Fun K "_law_atom" "_law_atom" s_law_atom f fd) (T : Txt K g mg) (D_law_age : Dn P w0 K mg base 1 "_law_age" ["_law_model_here", "_law_name"] (sp_law_age K g)) (D_law_near : Dn P w0 K mg base 1 "_law_near" ["_law_model_here", "_law_name"] (sp_law_near K g)) : FnOk P w0 K mg base CX0 2 f fd ["_law_model_here", "_law_atom_here"] (sp_law_atom K g) := by
  refine F.ok sc_law_atom (fun vs H Q E h => ?_) (fun cdv A outer s H vs Q E hr h => ?_)
  · obtain ⟨m, S, R, p, t, rfl, _⟩ := h
    rfl
  obtain ⟨m, S, R, p, t, rfl, M, hp, hb, WF, hn, q⟩ := h
  refine ⟨_, (
(@pss_cons _ _ _ _ _ (@ps_if _ _ _ _ _ _ _ _ (@pt_cmpR _ _ _ _ _ _ _ _ (@op_eq _) (@pe_ix _ _ _ _ _ _ _ (@ix_tup _) (@qv _ 1 _ _ (by walk_at "w")) (@pe_int _ _ _ _) (fun _ _ => rfl)) (@pe_str _ _ _ _) (nomark _)) (@pss_one _ _ _ (@ps_ret _ _ _ _ (@pe_ix _ _ _ _ _ _ _ (@ix_list _) (@pe_lst _ _ _ _ (@pa_cons _ _ _ _ _ (@pe_str _ _ _ _) (@pa_cons _ _ _ _ _ (@pe_str _ _ _ _) (@pa_nil _) (by rfl)) (by rfl))) (@pe_callTy _ _ _ _ _ _ _ _ _ (@call_int1 _) rfl T.z_int PyProof.Rows.boot_int (@pa_cons _ _ _ _ _ (@pe_cmpR _ _ _ _ _ _ _ _ (@op_ge _) (@pe_ix _ _ _ _ _ _ _ (@ix_list _) (@pe_ix _ _ _ _ _ _ _ (@ix_tup _) (@qv _ 0 _ _ (by walk_at "w")) (@pe_int _ _ _ _) (fun _ _ => rfl)) (@pe_int _ _ _ _) (fun _ _ => rfl)) (@pe_ix _ _ _ _ _ _ _ (@ix_tup _) (@qv _ 1 _ _ (by walk_at "w")) (@pe_int _ _ _ _) (fun _ _ => rfl)) (nomark _)) (@pa_nil _) (by rfl)) (by decide) (by decide) (by rfl) (by rfl)) (fun _ _ => rfl)))) (@pss_nil _)) (@pss_cons _ _ _ _ _ (@ps_if _ _ _ _ _ _ _ _ (@pt_cmpR _ _ _ _ _ _ _ _ (@op_eq _) (@pe_ix _ _ _ _ _ _ _ (@ix_tup _) (@qv _ 1 _ _ (by walk_at "w")) (@pe_int _ _ _ _) (fun _ _ => rfl)) (@pe_str _ _ _ _) (nomark _)) (@pss_one _ _ _ (@ps_ret _ _ _ _ (@pe_ix _ _ _ _ _ _ _ (@ix_list _) (@pe_lst _ _ _ _ (@pa_cons _ _ _ _ _ (@pe_str _ _ _ _) (@pa_cons _ _ _ _ _ (@pe_str _ _ _ _) (@pa_nil _) (by rfl)) (by rfl))) (@pe_callTy _ _ _ _ _ _ _ _ _ (@call_int1 _) rfl T.z_int PyProof.Rows.boot_int (@pa_cons _ _ _ _ _ (@pe_cmp _ _ _ _ _ _ (@pc_din _ _ _ _ _ (hu_of hr) (@pe_ix _ _ _ _ _ _ _ (@ix_tup _) (@qv _ 1 _ _ (by walk_at "w")) (@pe_int _ _ _ _) (fun _ _ => rfl)) (@pe_ix _ _ _ _ _ _ _ (@ix_tup _) (@qv _ 0 _ _ (by walk_at "w")) (@pe_int _ _ _ _) (fun _ _ => rfl))) (by walk_at "n")) (@pa_nil _) (by rfl)) (by decide) (by decide) (by rfl) (by rfl)) (fun _ _ => rfl)))) (@pss_nil _)) (@pss_cons _ _ _ _ _ (@ps_set _ _ (2) _ _ _ _ sc_law_atom.nd rfl (Or.inl rfl) (@pe_ix _ _ _ _ _ _ _ (@ix_tup _) (@qv _ 1 _ _ (by walk_at "w")) (@pe_int _ _ _ _) (fun _ _ => rfl)) (by rfl) (by walk_at "u")) (@pss_cons _ _ _ _ _ (@ps_if _ _ _ _ _ _ _ _ (@pt_cmp _ _ _ _ _ _ (@pc_dnotin _ _ _ _ _ (hu_of hr) (@qv _ 2 _ _ (by walk_at "w")) (@pe_ix _ _ _ _ _ _ _ (@ix_tup _) (@qv _ 0 _ _ (by walk_at "w")) (@pe_int _ _ _ _) (fun _ _ => rfl))) (by walk_at "n")) (@pss_one _ _ _ (@ps_ret _ _ _ _ (@pe_ix _ _ _ _ _ _ _ (@ix_list _) (@pe_lst _ _ _ _ (@pa_cons _ _ _ _ _ (@pe_str _ _ _ _) (@pa_cons _ _ _ _ _ (@pe_str _ _ _ _) (@pa_nil _) (by rfl)) (by rfl))) (@pe_callTy _ _ _ _ _ _ _ _ _ (@call_int1 _) rfl T.z_int PyProof.Rows.boot_int (@pa_cons _ _ _ _ _ (@pe_cmp _ _ _ _ _ _ (@pc_din _ _ _ _ _ (hu_of hr) (@pe_fn _ _ _ _ _ _ _ _ _ _ D_law_near (hr.mono (by decide)) (@pa_cons _ _ _ _ _ (@qv _ 0 _ _ (by walk_at "w")) (@pa_cons _ _ _ _ _ (@qv _ 2 _ _ (by walk_at "w")) (@pa_nil _) (by rfl)) (by rfl)) (by rfl) (by decide) (by rfl) (by rfl)) (@pe_ix _ _ _ _ _ _ _ (@ix_tup _) (@qv _ 0 _ _ (by walk_at "w")) (@pe_int _ _ _ _) (fun _ _ => rfl))) (by walk_at "n")) (@pa_nil _) (by rfl)) (by decide) (by decide) (by rfl) (by rfl)) (fun _ _ => rfl)))) (@pss_nil _)) (@pss_cons _ _ _ _ _ (@ps_if _ _ _ _ _ _ _ _ (@pt_cmpR _ _ _ _ _ _ _ _ (@op_eq _) (@pe_ix _ _ _ _ _ _ _ (@ix_tup _) (@qv _ 1 _ _ (by walk_at "w")) (@pe_int _ _ _ _) (fun _ _ => rfl)) (@pe_str _ _ _ _) (nomark _)) (@pss_one _ _ _ (@ps_ret _ _ _ _ (@pe_str _ _ _ _))) (@pss_nil _)) (@pss_cons _ _ _ _ _ (@ps_if _ _ _ _ _ _ _ _ (@pt_cmpR _ _ _ _ _ _ _ _ (@op_eq _) (@pe_ix _ _ _ _ _ _ _ (@ix_tup _) (@qv _ 1 _ _ (by walk_at "w")) (@pe_int _ _ _ _) (fun _ _ => rfl)) (@pe_str _ _ _ _) (nomark _)) (@pss_one _ _ _ (@ps_ret _ _ _ _ (@pe_ix _ _ _ _ _ _ _ (@ix_list _) (@pe_lst _ _ _ _ (@pa_cons _ _ _ _ _ (@pe_str _ _ _ _) (@pa_cons _ _ _ _ _ (@pe_str _ _ _ _) (@pa_nil _) (by rfl)) (by rfl))) (@pe_callTy _ _ _ _ _ _ _ _ _ (@call_int1 _) rfl T.z_int PyProof.Rows.boot_int (@pa_cons _ _ _ _ _ (@pe_cmp _ _ _ _ _ _ (@pc_din _ _ _ _ _ (hu_of hr) (@qv _ 2 _ _ (by walk_at "w")) (@pe_ix _ _ _ _ _ _ _ (@ix_tup _) (@qv _ 0 _ _ (by walk_at "w")) (@pe_int _ _ _ _) (fun _ _ => rfl))) (by walk_at "n")) (@pa_nil _) (by rfl)) (by decide) (by decide) (by rfl) (by rfl)) (fun _ _ => rfl)))) (@pss_nil _)) (@pss_cons _ _ _ _ _ (@ps_if _ _ _ _ _ _ _ _ (@pt_cmpR _ _ _ _ _ _ _ _ (@op_ge _) (@pe_fn _ _ _ _ _ _ _ _ _ _ D_law_age (hr.mono (by decide)) (@pa_cons _ _ _ _ _ (@qv _ 0 _ _ (by walk_at "w")) (@pa_cons _ _ _ _ _ (@qv _ 2 _ _ (by walk_at "w")) (@pa_nil _) (by rfl)) (by rfl)) (by rfl) (by decide) (by rfl) (by rfl)) (@pe_ix _ _ _ _ _ _ _ (@ix_tup _) (@qv _ 1 _ _ (by walk_at "w")) (@pe_int _ _ _ _) (fun _ _ => rfl)) (nomark _)) (@pss_one _ _ _ (@ps_ret _ _ _ _ (@pe_str _ _ _ _))) (@pss_nil _)) (@pss_one _ _ _ (@ps_ret _ _ _ _ (@pe_ix _ _ _ _ _ _ _ (@ix_list _) (@pe_lst _ _ _ _ (@pa_cons _ _ _ _ _ (@pe_str _ _ _ _) (@pa_cons _ _ _ _ _ (@pe_str _ _ _ _) (@pa_nil _) (by rfl)) (by rfl))) (@pe_callTy _ _ _ _ _ _ _ _ _ (@call_int1 _) rfl T.z_int PyProof.Rows.boot_int (@pa_cons _ _ _ _ _ (@pe_cmp _ _ _ _ _ _ (@pc_din _ _ _ _ _ (hu_of hr) (@qv _ 2 _ _ (by walk_at "w")) (@pe_ix _ _ _ _ _ _ _ (@ix_tup _) (@qv _ 0 _ _ (by walk_at "w")) (@pe_int _ _ _ _) (fun _ _ => rfl))) (by walk_at "n")) (@pa_nil _) (by rfl)) (by decide) (by decide) (by rfl) (by rfl)) (fun _ _ => rfl)))))))))))), ?_⟩
  cases t with
  | year y =>
    refine ⟨_, rfl, p, _, _, _, rfl, rfl, SqT.of hp, rfl, rfl, _, rfl, ifEq ?_⟩
    refine ⟨(by show 2 ≤ sizeLine; decide), fun l hl => ?_⟩
    have sn := same_new hl (.lst [.str "hangs", .str "met"])
    obtain ⟨c, e1, e2, e3, B⟩ := (M.same sn).tup_of
    have hp1 := sn _ _ hp
    have z := q _ sn
    refine ⟨_, rfl, m, _, _, _, rfl, rfl, SqT.of B.tup, rfl, c, _, _, _, rfl, rfl, SqL.of B.clk, rfl, _, rfl, p, _, _, _, rfl, rfl, SqT.of hp1, rfl, _, _, rfl, rfl, .inr ⟨_, rfl, l, _, _, _, rfl, rfl, SqL.of upd_same, pick2 _, ?_⟩⟩
    by_cases cc : y ≤ S.y
    · rw [show (Atm.year y).stand S = ("met" : Str) from if_pos cc] at z
      rw [if_pos (decide_eq_true cc)]
      exact z
    · rw [show (Atm.year y).stand S = ("hangs" : Str) from if_neg cc] at z
      rw [if_neg (fun e => cc (of_decide_eq_true e))]
      exact z
  | comes v =>
    refine ⟨_, rfl, p, _, _, _, rfl, rfl, SqT.of hp, rfl, rfl, _, rfl, ifNe (by decide +kernel) ?_⟩
    refine ⟨_, rfl, p, _, _, _, rfl, rfl, SqT.of hp, rfl, rfl, _, rfl, ifEq ?_⟩
    refine ⟨(by show 2 ≤ sizeLine; decide), fun l hl => ?_⟩
    have sn := same_new hl (.lst [.str "hangs", .str "met"])
    obtain ⟨c, e1, e2, e3, B⟩ := (M.same sn).tup_of
    have hp1 := sn _ _ hp
    have z := q _ sn
    refine ⟨_, rfl, p, _, _, _, rfl, rfl, SqT.of hp1, rfl, _, rfl, m, _, _, _, rfl, rfl, SqT.of B.tup, rfl, e3, _, rfl, DGet.k (k := Sum.inr v) B.h3, .inr ⟨_, rfl, l, _, _, _, rfl, rfl, SqL.of upd_same, pick2 _, ?_⟩⟩
    rw [valV_has]
    cases hc : has S.cs v with
    | true => rw [show (Atm.comes v).stand S = ("met" : Str) from if_pos hc] at z; exact z
    | false => rw [show (Atm.comes v).stand S = ("hangs" : Str) from if_neg (by rw [hc]; decide)] at z; exact z
  | born m0 =>
    refine ⟨_, rfl, p, _, _, _, rfl, rfl, SqT.of hp, rfl, rfl, _, rfl, ifNe (by decide +kernel) ?_⟩
    refine ⟨_, rfl, p, _, _, _, rfl, rfl, SqT.of hp, rfl, rfl, _, rfl, ifNe (by decide +kernel) ?_⟩
    obtain ⟨c0, f1, f2, f3, B0⟩ := M.tup_of
    refine ⟨_, rfl, p, _, _, _, rfl, rfl, SqT.of hp, rfl, _, rfl, _, rfl, m, _, _, _, rfl, rfl, SqT.of B0.tup, rfl, f1, _, rfl, DGet.k (k := Sum.inr m0) B0.h1, _, rfl, ite2 (fun cc => ?_) (fun cc => ?_)⟩
    · have hk : has S.bs m0 = false := by
        rw [valV_has] at cc
        cases h : has S.bs m0 with
        | false => rfl
        | true => rw [h] at cc; cases cc
      obtain ⟨np, nk1⟩ := Atm.near_ok WF rfl hb
      refine ⟨(by show 2 ≤ sizeLine; decide), fun l hl => ?_⟩
      have sn := same_new hl (.lst [.str "hangs", .str "failed"])
      obtain ⟨c, e1, e2, e3, B⟩ := (M.same sn).tup_of
      have hp1 := sn _ _ hp
      have z := q _ sn
      refine ⟨_, rfl, _, rfl, m, S, R, m0, rfl, M.same sn, hn m0 rfl, _, rfl, m, _, _, _, rfl, rfl, SqT.of B.tup, rfl, e2, _, rfl, DGet.k (k := Sum.inr (nr S.bs m0)) B.h2, .inr ⟨_, rfl, l, _, _, _, rfl, rfl, SqL.of upd_same, pick2 _, ?_⟩⟩
      rw [valV_has]
      rw [Atm.stand_none rfl hk] at z
      unfold stNone al at z
      rw [nk1] at z
      cases hd : has S.ds (nr S.bs m0) with
      | true => rw [hd] at z; exact z
      | false => rw [hd] at z; exact z
    · have hk : has S.bs m0 = true := by
        rw [valV_has] at cc
        cases h : has S.bs m0 with
        | true => rfl
        | false => rw [h] at cc; exact absurd rfl cc
      refine ⟨_, rfl, p, _, _, _, rfl, rfl, SqT.of hp, rfl, rfl, _, rfl, ifEq ?_⟩
      have z := q H (Same.refl _)
      rw [show (Atm.born m0).stand S = ("met" : Str) from if_pos hk] at z
      exact z
  | dead m0 =>
    refine ⟨_, rfl, p, _, _, _, rfl, rfl, SqT.of hp, rfl, rfl, _, rfl, ifNe (by decide +kernel) ?_⟩
    refine ⟨_, rfl, p, _, _, _, rfl, rfl, SqT.of hp, rfl, rfl, _, rfl, ifNe (by decide +kernel) ?_⟩
    obtain ⟨c0, f1, f2, f3, B0⟩ := M.tup_of
    refine ⟨_, rfl, p, _, _, _, rfl, rfl, SqT.of hp, rfl, _, rfl, _, rfl, m, _, _, _, rfl, rfl, SqT.of B0.tup, rfl, f1, _, rfl, DGet.k (k := Sum.inr m0) B0.h1, _, rfl, ite2 (fun cc => ?_) (fun cc => ?_)⟩
    · have hk : has S.bs m0 = false := by
        rw [valV_has] at cc
        cases h : has S.bs m0 with
        | false => rfl
        | true => rw [h] at cc; cases cc
      obtain ⟨np, nk1⟩ := Atm.near_ok WF rfl hb
      refine ⟨(by show 2 ≤ sizeLine; decide), fun l hl => ?_⟩
      have sn := same_new hl (.lst [.str "hangs", .str "failed"])
      obtain ⟨c, e1, e2, e3, B⟩ := (M.same sn).tup_of
      have hp1 := sn _ _ hp
      have z := q _ sn
      refine ⟨_, rfl, _, rfl, m, S, R, m0, rfl, M.same sn, hn m0 rfl, _, rfl, m, _, _, _, rfl, rfl, SqT.of B.tup, rfl, e2, _, rfl, DGet.k (k := Sum.inr (nr S.bs m0)) B.h2, .inr ⟨_, rfl, l, _, _, _, rfl, rfl, SqL.of upd_same, pick2 _, ?_⟩⟩
      rw [valV_has]
      rw [Atm.stand_none rfl hk] at z
      unfold stNone al at z
      rw [nk1] at z
      cases hd : has S.ds (nr S.bs m0) with
      | true => rw [hd] at z; exact z
      | false => rw [hd] at z; exact z
    · have hk : has S.bs m0 = true := by
        rw [valV_has] at cc
        cases h : has S.bs m0 with
        | true => rfl
        | false => rw [h] at cc; exact absurd rfl cc
      refine ⟨_, rfl, p, _, _, _, rfl, rfl, SqT.of hp, rfl, rfl, _, rfl, ifNe (by decide +kernel) ?_⟩
      refine ⟨_, rfl, p, _, _, _, rfl, rfl, SqT.of hp, rfl, rfl, _, rfl, ifEq ?_⟩
      refine ⟨(by show 2 ≤ sizeLine; decide), fun l hl => ?_⟩
      have sn := same_new hl (.lst [.str "hangs", .str "met"])
      obtain ⟨c, e1, e2, e3, B⟩ := (M.same sn).tup_of
      have hp1 := sn _ _ hp
      have z := q _ sn
      refine ⟨_, rfl, _, rfl, m, _, _, _, rfl, rfl, SqT.of B.tup, rfl, e2, _, rfl, DGet.k (k := Sum.inr (m0)) B.h2, .inr ⟨_, rfl, l, _, _, _, rfl, rfl, SqL.of upd_same, pick2 _, ?_⟩⟩
      rw [valV_has]
      rw [show (Atm.dead m0).stand S = (if has S.ds m0 = true then ("met" : Str) else "hangs") from if_pos hk] at z
      cases hd : has S.ds m0 with
      | true => rw [hd] at z; exact z
      | false => rw [hd] at z; exact z
  | age m0 a =>
    refine ⟨_, rfl, p, _, _, _, rfl, rfl, SqT.of hp, rfl, rfl, _, rfl, ifNe (by decide +kernel) ?_⟩
    refine ⟨_, rfl, p, _, _, _, rfl, rfl, SqT.of hp, rfl, rfl, _, rfl, ifNe (by decide +kernel) ?_⟩
    obtain ⟨c0, f1, f2, f3, B0⟩ := M.tup_of
    refine ⟨_, rfl, p, _, _, _, rfl, rfl, SqT.of hp, rfl, _, rfl, _, rfl, m, _, _, _, rfl, rfl, SqT.of B0.tup, rfl, f1, _, rfl, DGet.k (k := Sum.inr m0) B0.h1, _, rfl, ite2 (fun cc => ?_) (fun cc => ?_)⟩
    · have hk : has S.bs m0 = false := by
        rw [valV_has] at cc
        cases h : has S.bs m0 with
        | false => rfl
        | true => rw [h] at cc; cases cc
      obtain ⟨np, nk1⟩ := Atm.near_ok WF rfl hb
      refine ⟨(by show 2 ≤ sizeLine; decide), fun l hl => ?_⟩
      have sn := same_new hl (.lst [.str "hangs", .str "failed"])
      obtain ⟨c, e1, e2, e3, B⟩ := (M.same sn).tup_of
      have hp1 := sn _ _ hp
      have z := q _ sn
      refine ⟨_, rfl, _, rfl, m, S, R, m0, rfl, M.same sn, hn m0 rfl, _, rfl, m, _, _, _, rfl, rfl, SqT.of B.tup, rfl, e2, _, rfl, DGet.k (k := Sum.inr (nr S.bs m0)) B.h2, .inr ⟨_, rfl, l, _, _, _, rfl, rfl, SqL.of upd_same, pick2 _, ?_⟩⟩
      rw [valV_has]
      rw [Atm.stand_none rfl hk] at z
      unfold stNone al at z
      rw [nk1] at z
      cases hd : has S.ds (nr S.bs m0) with
      | true => rw [hd] at z; exact z
      | false => rw [hd] at z; exact z
    · have hk : has S.bs m0 = true := by
        rw [valV_has] at cc
        cases h : has S.bs m0 with
        | true => rfl
        | false => rw [h] at cc; exact absurd rfl cc
      refine ⟨_, rfl, p, _, _, _, rfl, rfl, SqT.of hp, rfl, rfl, _, rfl, ifNe (by decide +kernel) ?_⟩
      refine ⟨_, rfl, p, _, _, _, rfl, rfl, SqT.of hp, rfl, rfl, _, rfl, ifNe (by decide +kernel) ?_⟩
      obtain ⟨y, hy⟩ := yr_of hk
      have es : (Atm.age m0 a).stand S = stAge S m0 y a := by show (match yr S.bs m0 with | some y => _ | none => _) = _; rw [hy]
      unfold stAge at es
      refine ⟨_, rfl, _, rfl, m, S, R, m0, y, rfl, M, hy, _, rfl, p, _, _, _, rfl, rfl, SqT.of hp, rfl, _, _, rfl, rfl, _, rfl, ite2 (fun c1 => ?_) (fun c1 => ?_)⟩
      · have z := q H (Same.refl _)
        rw [es, if_pos (show a ≤ ageOf S m0 y from of_decide_eq_true c1)] at z
        exact z
      · refine ⟨(by show 2 ≤ sizeLine; decide), fun l hl => ?_⟩
        have sn := same_new hl (.lst [.str "hangs", .str "failed"])
        obtain ⟨c, e1, e2, e3, B⟩ := (M.same sn).tup_of
        have hp1 := sn _ _ hp
        have z := q _ sn
        rw [es, if_neg (show ¬ a ≤ ageOf S m0 y from fun e => c1 (decide_eq_true e))] at z
        refine ⟨_, rfl, _, rfl, m, _, _, _, rfl, rfl, SqT.of B.tup, rfl, e2, _, rfl, DGet.k (k := Sum.inr (m0)) B.h2, .inr ⟨_, rfl, l, _, _, _, rfl, rfl, SqL.of upd_same, pick2 _, ?_⟩⟩
        rw [valV_has]
        cases hd : has S.ds m0 with
        | true => rw [hd] at z; exact z
        | false => rw [hd] at z; exact z
theorem ok_law_fold {f : Addr} {fd : FuncData} (F : Fun K "_law_fold" "_law_fold" s_law_fold f fd) (T : Txt K g mg)  : FnOk P w0 K mg base CX0 1 f fd ["_law_stands"] (sp_law_fold K g) := by
  refine F.ok sc_law_fold (fun vs H Q E h => ?_) (fun cdv A outer s H vs Q E hr h => ?_)
  · obtain ⟨l, ss, rfl, _⟩ := h
    rfl
  obtain ⟨l, ss, rfl, hl, q⟩ := h
  refine ⟨_, (
(@pss_cons _ _ _ _ _ (@ps_if _ _ _ _ _ _ _ _ (@pt_cmpR _ _ _ _ _ _ _ _ (@op_in_seq _) (@pe_str _ _ _ _) (@qv _ 0 _ _ (by walk_at "w")) rfl) (@pss_one _ _ _ (@ps_ret _ _ _ _ (@pe_str _ _ _ _))) (@pss_nil _)) (@pss_cons _ _ _ _ _ (@ps_if _ _ _ _ _ _ _ _ (@pt_cmpR _ _ _ _ _ _ _ _ (@op_in_seq _) (@pe_str _ _ _ _) (@qv _ 0 _ _ (by walk_at "w")) rfl) (@pss_one _ _ _ (@ps_ret _ _ _ _ (@pe_str _ _ _ _))) (@pss_nil _)) (@pss_one _ _ _ (@ps_ret _ _ _ _ (@pe_str _ _ _ _)))))), ?_⟩
  unfold foldS at q
  refine ⟨_, rfl, l, _, rfl, .inl hl, rfl, flat_strs ss, _, rfl, ?_⟩
  rw [show (if false = true then !inV (V.str "failed") (ss.map V.str) else inV (V.str "failed") (ss.map V.str)) = decide (("failed" : Str) ∈ ss) from inV_strs _ _]
  by_cases c : ("failed" : Str) ∈ ss
  · rw [if_pos c] at q
    rw [decide_eq_true c]
    exact q
  rw [if_neg c] at q
  rw [decide_eq_false c]
  refine iteF ?_
  refine ⟨_, rfl, l, _, rfl, .inl hl, rfl, flat_strs ss, _, rfl, ?_⟩
  rw [show (if false = true then !inV (V.str "hangs") (ss.map V.str) else inV (V.str "hangs") (ss.map V.str)) = decide (("hangs" : Str) ∈ ss) from inV_strs _ _]
  by_cases c2 : ("hangs" : Str) ∈ ss
  · rw [if_pos c2] at q
    rw [decide_eq_true c2]
    exact q
  rw [if_neg c2] at q
  rw [decide_eq_false c2]
  exact q
theorem ok_law_members {f : Addr} {fd : FuncData} (F : Fun K "_law_members" "_law_members" s_law_members f fd) (T : Txt K g mg) (D_law_kids : Dn P w0 K mg base 1 "_law_kids" ["_law_model_here", "_law_name"] (sp_law_kids K g)) : FnOk P w0 K mg base CX0 2 f fd ["_law_model_here", "_law_name", "_law_out_here"] (sp_law_members K g) := by
  refine F.ok sc_law_members (fun vs H Q E h => ?_) (fun cdv A outer s H vs Q E hr h => ?_)
  · obtain ⟨m, S, R, n, o, os, rfl, _⟩ := h
    rfl
  obtain ⟨m, S, R, n, o, os, rfl, M, ho, wf, hlen, hn, q⟩ := h
  refine ⟨_, (
(@pss_one _ _ _ (@ps_ret _ _ _ _ (@pe_lc _ _ _ ("_law_child") _ _ _ ([("_law_out_here", s.heap.objs.size + 1)]) _ ([("_law_out_here", 2)]) _ _ _ rfl (@pi_list _ _ _ _ (@pe_fn _ _ _ _ _ _ _ _ _ _ D_law_kids (hr.mono (by decide)) (@pa_cons _ _ _ _ _ (@qv _ 0 _ _ (by walk_at "w")) (@pa_cons _ _ _ _ _ (@qv _ 1 _ _ (by walk_at "w")) (@pa_nil _) (by rfl)) (by rfl)) (by rfl) (by decide) (by rfl) (by rfl))) (fun _ _ _ _ _ => (@pifs_one _ _ _ (@pt_cmpR _ _ _ _ _ _ _ _ (show OpR _ (compareOp .NotIn) (rIn K true) from (@op_notIn_seq _)) (@qv _ 0 _ _ (by walk_at "w")) (@qv _ 1 _ _ (by walk_at "w")) rfl))) (fun _ _ _ _ _ => (@qv _ 0 _ _ (by walk_at "w"))) rfl (by decide +kernel) rfl (by decide +kernel) rfl (fun _ _ h => h) (has_of rfl) (fun p hp => by rw [List.mem_singleton.mp hp]; exact ⟨rfl, rfl, by first | exact .inl rfl | exact .inr rfl⟩) (by decide +kernel) (by intro _ ; rfl))))), ?_⟩
  unfold tRet
  refine lcS (ss := kidsOf S n) (fun l1 H1 => Same H H1 ∧ H1 l1 = some (.lst ((kidsOf S n).map V.str)) ∧ H l1 = none) (fun c => !decide (c ∈ os)) V.str ?_ (fun a H1 h => SqL.of h.2.1) (by have := kidsOf_len wf n; omega) ?_ ?_ ?_
  · intro R0 r
    walk_at "go"
    exact ⟨by have := wf.few n; omega, fun l H' s f h => r l H' ⟨s, by rw [h, kidVL]; rfl, f⟩⟩
  · rintro a0 H1 x H2 ⟨s1, h1, _⟩ hx s R0 r
    refine ⟨_, rfl, _, rfl, o, _, rfl, .inl ((s1.trans s).seq ho), rfl, flat_strs os, _, rfl, ?_⟩
    rw [show (if true = true then !inV (V.str x) (os.map V.str) else inV (V.str x) (os.map V.str)) = !decide (x ∈ os) from by rw [if_pos rfl, inV_strs]]
    exact r H2 (Same.refl _)
  · exact fun a H1 x H2 _ hx _ s R0 r => ⟨_, rfl, r H2 (Same.refl _)⟩
  · rintro a0 H1 D H2 ⟨s1, h1, _⟩ hD s h
    exact q D H2 (s1.trans s) (s1.free hD) h
theorem ok_law_young {f : Addr} {fd : FuncData} (F : Fun K "_law_young" "_law_young" s_law_young f fd) (T : Txt K g mg) (D_law_members : Dn P w0 K mg base 2 "_law_members" ["_law_model_here", "_law_name", "_law_out_here"] (sp_law_members K g)) (D_law_age : Dn P w0 K mg base 1 "_law_age" ["_law_model_here", "_law_name"] (sp_law_age K g)) : FnOk P w0 K mg base CX0 3 f fd ["_law_model_here", "_law_name", "_law_age_here", "_law_out_here"] (sp_law_young K g) := by
  refine F.ok sc_law_young (fun vs H Q E h => ?_) (fun cdv A outer s H vs Q E hr h => ?_)
  · obtain ⟨m, S, R, n, a, o, os, rfl, _⟩ := h
    rfl
  obtain ⟨m, S, R, n, a, o, os, rfl, M, ho, wf, hlen, hn, q⟩ := h
  refine ⟨_, (
(@pss_cons _ _ _ _ _ (@ps_setLC _ (4) _ _ _ _ _ ("_law_child") _ _ _ ([("_law_model_here", s.heap.objs.size + 1)]) _ ([("_law_model_here", 0)]) _ _ _ sc_law_young.nd rfl (Or.inl rfl) rfl (@pi_list _ _ _ _ (@pe_fn _ _ _ _ _ _ _ _ _ _ D_law_members (hr.mono (by decide)) (@pa_cons _ _ _ _ _ (@qv _ 0 _ _ (by walk_at "w")) (@pa_cons _ _ _ _ _ (@qv _ 1 _ _ (by walk_at "w")) (@pa_cons _ _ _ _ _ (@qv _ 3 _ _ (by walk_at "w")) (@pa_nil _) (by rfl)) (by rfl)) (by rfl)) (by rfl) (by decide) (by rfl) (by rfl))) (fun _ _ _ _ _ => (@pifs_one _ _ _ (@pt_cmp _ _ _ _ _ _ (@pc_dnotin _ _ _ _ _ (hu_of hr) (@qv _ 0 _ _ (by walk_at "w")) (@pe_ix _ _ _ _ _ _ _ (show IxR _ (rIxT K) from (@ix_tup _)) (@qv _ 1 _ _ (by walk_at "w")) (@pe_int _ _ _ _) (fun _ _ => rfl))) (by walk_at "n")))) (fun _ _ _ _ _ => (@qv _ 0 _ _ (by walk_at "w"))) rfl (by decide +kernel) rfl (by decide +kernel) rfl (L2.cl_sub (fun p hp => by simp only [List.mem_cons, List.not_mem_nil, or_false] at hp; rcases hp with rfl <;> rfl)) (has_of rfl) (fun p hp => by rw [List.mem_singleton.mp hp]; exact ⟨rfl, rfl, by first | exact .inl rfl | exact .inr rfl⟩) (by decide +kernel) (by intro _ ; rfl) (by rfl) (by walk_at "u")) (@pss_one _ _ _ (@ps_ret _ _ _ _ (@pe_lc _ _ _ ("_law_child") _ _ _ ([("_law_model_here", s.heap.objs.size + 1), ("_law_age_here", s.heap.objs.size + 2)]) _ ([("_law_age_here", 2), ("_law_model_here", 0)]) _ _ _ rfl (@pi_list _ _ _ _ (@qv _ 4 _ _ (by walk_at "w"))) (fun _ _ _ _ _ => (@pifs_one _ _ _ (@pt_cmpR _ _ _ _ _ _ _ _ (@op_lt _) (@pe_fn _ _ _ _ _ _ _ _ _ _ D_law_age (hr.mono (by decide)) (@pa_cons _ _ _ _ _ (@qv _ 2 _ _ (by walk_at "w")) (@pa_cons _ _ _ _ _ (@qv _ 0 _ _ (by walk_at "w")) (@pa_nil _) (by rfl)) (by rfl)) (by rfl) (by decide) (by rfl) (by rfl)) (@qv _ 1 _ _ (by walk_at "w")) (nomark _)))) (fun _ _ _ _ _ => (@qv _ 0 _ _ (by walk_at "w"))) rfl (by decide +kernel) rfl (by decide +kernel) rfl (L2.cl_sub (fun p hp => by simp only [List.mem_cons, List.not_mem_nil, or_false] at hp; rcases hp with rfl | rfl <;> rfl)) (has_of rfl) (fun p hp => by simp only [List.mem_cons, List.not_mem_nil, or_false] at hp; rcases hp with rfl | rfl <;> exact ⟨rfl, rfl, by first | exact .inl rfl | exact .inr rfl⟩) (by decide +kernel) (by intro _ ; rfl)))))), ?_⟩
  unfold tSeq tAsg
  refine lcS (ss := memL S n os) (fun l1 H1 => Same H H1 ∧ H1 l1 = some (.lst ((memL S n os).map V.str)) ∧ H l1 = none) (fun c => !has S.ds c) V.str ?_ (fun a H1 h => SqL.of h.2.1) (by have := memL_len wf (n := n) (os := os); omega) ?_ ?_ ?_
  · intro R0 r
    walk_at "go"
    exact fun l H' s f h => r l H' ⟨s, h, f⟩
  · rintro a0 H1 x H2 ⟨s1, h1, _⟩ hx s R0 r
    obtain ⟨c, e1, e2, e3, B⟩ := (M.same (s1.trans s)).tup_of
    refine ⟨_, rfl, _, rfl, m, _, _, _, rfl, rfl, SqT.of B.tup, rfl, e2, _, rfl, DGet.k (k := Sum.inr x) B.h2, _, rfl, ?_⟩
    rw [valV_has]
    exact r H2 (Same.refl _)
  · exact fun a H1 x H2 _ hx _ s R0 r => ⟨_, rfl, r H2 (Same.refl _)⟩
  rintro a0 H1 D1 H2 ⟨s1, h1, _⟩ hD1 s2 h2
  have s02 := s1.trans s2
  unfold gName tRet
  dsimp only
  refine lcS (ss := (memL S n os).filter fun c => !has S.ds c) (fun l1 H1 => Same H H1 ∧ H1 l1 = some (.lst (((memL S n os).filter fun c => !has S.ds c).map V.str)) ∧ H l1 = none) (fun c => decide (ageS S c < a)) V.str ?_ (fun a H1 h => SqL.of h.2.1) (by have := memL_len wf (n := n) (os := os); have := List.length_filter_le (fun c => !has S.ds c) (memL S n os); omega) ?_ ?_ ?_
  · intro R0 r
    exact ⟨_, rfl, r D1 H2 ⟨s02, h2, s1.free hD1⟩⟩
  · rintro a0 H1 x H2 ⟨s1, h1, _⟩ hx s R0 r
    have hk := kidsOf_has wf (memL_sub (List.mem_filter.mp hx).1)
    obtain ⟨y, hy⟩ := yr_of hk
    refine ⟨_, rfl, _, rfl, m, S, R, x, y, rfl, M.same (s1.trans s), hy, ?_⟩
    rw [age_yr hy]
    walk_at "go"
    exact r _ (Same.refl _)
  · exact fun a H1 x H2 _ hx _ s R0 r => ⟨_, rfl, r H2 (Same.refl _)⟩
  · rintro a0 H1 D H2 ⟨s1, h1, _⟩ hD s h
    exact q D _ (s1.trans s) (s1.free hD) (by rw [h, young_eq])
theorem ok_law_seated {f : Addr} {fd : FuncData} (F : Fun K "_law_seated" "_law_seated" s_law_seated f fd) (T : Txt K g mg) (D_law_members : Dn P w0 K mg base 2 "_law_members" ["_law_model_here", "_law_name", "_law_out_here"] (sp_law_members K g)) (D_law_age : Dn P w0 K mg base 1 "_law_age" ["_law_model_here", "_law_name"] (sp_law_age K g)) : FnOk P w0 K mg base CX0 3 f fd ["_law_model_here", "_law_name", "_law_age_here", "_law_out_here"] (sp_law_seated K g) := by
  refine F.ok sc_law_seated (fun vs H Q E h => ?_) (fun cdv A outer s H vs Q E hr h => ?_)
  · obtain ⟨m, S, R, n, a, o, os, rfl, _⟩ := h
    rfl
  obtain ⟨m, S, R, n, a, o, os, rfl, M, ho, wf, hlen, hn, q⟩ := h
  refine ⟨_, (
(@pss_one _ _ _ (@ps_ret _ _ _ _ (@pe_lc _ _ _ ("_law_child") _ _ _ ([("_law_model_here", s.heap.objs.size + 1), ("_law_age_here", s.heap.objs.size + 2)]) _ ([("_law_age_here", 2), ("_law_model_here", 0)]) _ _ _ rfl (@pi_list _ _ _ _ (@pe_fn _ _ _ _ _ _ _ _ _ _ D_law_members (hr.mono (by decide)) (@pa_cons _ _ _ _ _ (@qv _ 0 _ _ (by walk_at "w")) (@pa_cons _ _ _ _ _ (@qv _ 1 _ _ (by walk_at "w")) (@pa_cons _ _ _ _ _ (@qv _ 3 _ _ (by walk_at "w")) (@pa_nil _) (by rfl)) (by rfl)) (by rfl)) (by rfl) (by decide) (by rfl) (by rfl))) (fun _ _ _ _ _ => (@pifs_one _ _ _ (@pt_cmpR _ _ _ _ _ _ _ _ (@op_ge _) (@pe_fn _ _ _ _ _ _ _ _ _ _ D_law_age (hr.mono (by decide)) (@pa_cons _ _ _ _ _ (@qv _ 2 _ _ (by walk_at "w")) (@pa_cons _ _ _ _ _ (@qv _ 0 _ _ (by walk_at "w")) (@pa_nil _) (by rfl)) (by rfl)) (by rfl) (by decide) (by rfl) (by rfl)) (@qv _ 1 _ _ (by walk_at "w")) (nomark _)))) (fun _ _ _ _ _ => (@qv _ 0 _ _ (by walk_at "w"))) rfl (by decide +kernel) rfl (by decide +kernel) rfl (L2.cl_sub (fun p hp => by simp only [List.mem_cons, List.not_mem_nil, or_false] at hp; rcases hp with rfl | rfl <;> rfl)) (has_of rfl) (fun p hp => by simp only [List.mem_cons, List.not_mem_nil, or_false] at hp; rcases hp with rfl | rfl <;> exact ⟨rfl, rfl, by first | exact .inl rfl | exact .inr rfl⟩) (by decide +kernel) (by intro _ ; rfl))))), ?_⟩
  unfold tRet
  refine lcS (ss := memL S n os) (fun l1 H1 => Same H H1 ∧ H1 l1 = some (.lst ((memL S n os).map V.str)) ∧ H l1 = none) (fun c => decide (a ≤ ageS S c)) V.str ?_ (fun a H1 h => SqL.of h.2.1) (by have := memL_len wf (n := n) (os := os); omega) ?_ ?_ ?_
  · intro R0 r
    walk_at "go"
    exact fun l H' s f h => r l H' ⟨s, h, f⟩
  · rintro a0 H1 x H2 ⟨s1, h1, _⟩ hx s R0 r
    have hk := kidsOf_has wf (memL_sub hx)
    obtain ⟨y, hy⟩ := yr_of hk
    refine ⟨_, rfl, _, rfl, m, S, R, x, y, rfl, M.same (s1.trans s), hy, ?_⟩
    rw [age_yr hy]
    walk_at "go"
    exact r H2 (Same.refl _)
  · exact fun a H1 x H2 _ hx _ s R0 r => ⟨_, rfl, r H2 (Same.refl _)⟩
  · rintro a0 H1 D H2 ⟨s1, h1, _⟩ hD s h
    exact q D H2 (s1.trans s) (s1.free hD) h
theorem ok_law_class {f : Addr} {fd : FuncData} (F : Fun K "_law_class" "_law_class" s_law_class f fd) (T : Txt K g mg) (D_law_near : Dn P w0 K mg base 1 "_law_near" ["_law_model_here", "_law_name"] (sp_law_near K g)) (D_law_young : Dn P w0 K mg base 3 "_law_young" ["_law_model_here", "_law_name", "_law_age_here", "_law_out_here"] (sp_law_young K g)) (D_law_seated : Dn P w0 K mg base 3 "_law_seated" ["_law_model_here", "_law_name", "_law_age_here", "_law_out_here"] (sp_law_seated K g)) : FnOk P w0 K mg base CX0 4 f fd ["_law_model_here", "_law_name", "_law_age_here", "_law_out_here"] (sp_law_class K g) := by
  refine F.ok sc_law_class (fun vs H Q E h => ?_) (fun cdv A outer s H vs Q E hr h => ?_)
  · obtain ⟨m, S, R, n, a, o, os, rfl, _⟩ := h
    rfl
  obtain ⟨m, S, R, n, a, o, os, rfl, M, ho, wf, hlen, on, q⟩ := h
  refine ⟨_, (
(@pss_cons _ _ _ _ _ (@ps_set _ _ (4) _ _ _ _ sc_law_class.nd rfl (Or.inl rfl) (@pe_fn _ _ _ _ _ _ _ _ _ _ D_law_near (hr.mono (by decide)) (@pa_cons _ _ _ _ _ (@qv _ 0 _ _ (by walk_at "w")) (@pa_cons _ _ _ _ _ (@qv _ 1 _ _ (by walk_at "w")) (@pa_nil _) (by rfl)) (by rfl)) (by rfl) (by decide) (by rfl) (by rfl)) (by rfl) (by walk_at "u")) (@pss_cons _ _ _ _ _ (@ps_if _ _ _ _ _ _ _ _ (@PW.pt _ _ _ (@pw_or _ _ _ _ _ _ _ (@pt_cmp _ _ _ _ _ _ (@pc_dnotin _ _ _ _ _ (hu_of hr) (@qv _ 4 _ _ (by walk_at "w")) (@pe_ix _ _ _ _ _ _ _ (@ix_tup _) (@qv _ 0 _ _ (by walk_at "w")) (@pe_int _ _ _ _) (fun _ _ => rfl))) (by walk_at "n")) (@pw_or1 _ _ _ _ (@pt_cmpR _ _ _ _ _ _ _ _ (@op_gt _) (@pe_callB _ _ _ _ _ _ _ _ _ (@call_len _) rfl T.z_len PySem.boot_len (@pa_cons _ _ _ _ _ (@pe_fn _ _ _ _ _ _ _ _ _ _ D_law_young (hr.mono (by decide)) (@pa_cons _ _ _ _ _ (@qv _ 0 _ _ (by walk_at "w")) (@pa_cons _ _ _ _ _ (@qv _ 1 _ _ (by walk_at "w")) (@pa_cons _ _ _ _ _ (@qv _ 2 _ _ (by walk_at "w")) (@pa_cons _ _ _ _ _ (@qv _ 3 _ _ (by walk_at "w")) (@pa_nil _) (by rfl)) (by rfl)) (by rfl)) (by rfl)) (by rfl) (by decide) (by rfl) (by rfl)) (@pa_nil _) (by rfl)) (by decide) (by decide) (by rfl) (by rfl)) (@pe_int _ _ _ _) (nomark _))))) (@pss_one _ _ _ (@ps_ret _ _ _ _ (@pe_str _ _ _ _))) (@pss_nil _)) (@pss_one _ _ _ (@ps_ret _ _ _ _ (@pe_ix _ _ _ _ _ _ _ (@ix_list _) (@pe_lst _ _ _ _ (@pa_cons _ _ _ _ _ (@pe_str _ _ _ _) (@pa_cons _ _ _ _ _ (@pe_str _ _ _ _) (@pa_nil _) (by rfl)) (by rfl))) (@pe_callTy _ _ _ _ _ _ _ _ _ (@call_int1 _) rfl T.z_int PyProof.Rows.boot_int (@pa_cons _ _ _ _ _ (@pe_cmpR _ _ _ _ _ _ _ _ (@op_gt _) (@pe_callB _ _ _ _ _ _ _ _ _ (@call_len _) rfl T.z_len PySem.boot_len (@pa_cons _ _ _ _ _ (@pe_fn _ _ _ _ _ _ _ _ _ _ D_law_seated (hr.mono (by decide)) (@pa_cons _ _ _ _ _ (@qv _ 0 _ _ (by walk_at "w")) (@pa_cons _ _ _ _ _ (@qv _ 1 _ _ (by walk_at "w")) (@pa_cons _ _ _ _ _ (@qv _ 2 _ _ (by walk_at "w")) (@pa_cons _ _ _ _ _ (@qv _ 3 _ _ (by walk_at "w")) (@pa_nil _) (by rfl)) (by rfl)) (by rfl)) (by rfl)) (by rfl) (by decide) (by rfl) (by rfl)) (@pa_nil _) (by rfl)) (by decide) (by decide) (by rfl) (by rfl)) (@pe_int _ _ _ _) (nomark _)) (@pa_nil _) (by rfl)) (by decide) (by decide) (by rfl) (by rfl)) (fun _ _ => rfl))))))), ?_⟩
  have nl := pok_len on.1
  have cl := cl_law (a := a) (os := os) on
  unfold clS at q
  refine ⟨_, rfl, _, rfl, m, S, R, n, rfl, M, by omega, ?_⟩
  obtain ⟨c, e1, e2, e3, B⟩ := M.tup_of
  refine ⟨_, rfl, _, rfl, m, _, _, _, rfl, rfl, SqT.of B.tup, rfl, e2, _, rfl, DGet.k (k := Sum.inr (nr S.bs n)) B.h2, _, rfl, ?_⟩
  rw [valV_has]
  cases hd : has S.ds (nr S.bs n) with
  | false =>
    rw [hd] at cl
    rw [← cl] at q
    exact iteT (q H (Same.refl _))
  | true =>
    rw [hd] at cl
    refine iteF ⟨_, rfl, _, rfl, _, rfl, _, rfl, m, S, R, n, a, o, os, rfl, M, ho, wf, hlen, by omega, fun l1 H1 s1 f1 h1 => ?_⟩
    refine ⟨_, _, rfl, .inl ⟨_, SqL.of h1, rfl⟩, _, _, rfl, rfl, _, rfl, ?_⟩
    rw [List.length_map]
    have cl' : decide ((0 : Int) < ((waitL S n a os).length : Nat)) = (al S.bs S.ds (nr S.bs n) || !(waitL S n a os).isEmpty) := cl
    rw [← cl'] at q
    refine ite2 (fun c2 => ?_) (fun c2 => ?_)
    · have c3 : decide ((0 : Int) < ((waitL S n a os).length : Nat)) = true := c2
      rw [c3] at q
      exact q H1 s1
    · have c3 : decide ((0 : Int) < ((waitL S n a os).length : Nat)) = false := Bool.eq_false_iff.mpr c2
      rw [c3] at q
      refine ⟨(by show 2 ≤ sizeLine; decide), fun l2 hl2 => ?_⟩
      have s2 := same_new hl2 (.lst [V.str "failed", V.str "met"])
      have s12 := s1.trans s2
      refine ⟨_, rfl, _, rfl, _, rfl, _, rfl, m, S, R, n, a, o, os, rfl, M.same s12, s12.seq ho, wf, hlen, by omega, fun l3 H3 s3 f3 h3 => ?_⟩
      refine ⟨_, _, rfl, .inl ⟨_, SqL.of h3, rfl⟩, _, _, rfl, rfl, .inr ⟨_, rfl, l2, _, _, _, rfl, rfl, SqL.of (s3 _ _ upd_same), pick2 _, ?_⟩⟩
      rw [List.length_map]
      have sn := seat_ne (S := S) (n := n) (a := a) (os := os)
      have z := q H3 (s12.trans s3)
      cases hs : hasSeat S n a os with
      | true =>
        rw [hs] at z sn
        rw [show decide ((0 : Int) < ((seatL S n a os).length : Nat)) = true from sn.symm]
        exact z
      | false =>
        rw [hs] at z sn
        rw [show decide ((0 : Int) < ((seatL S n a os).length : Nat)) = false from sn.symm]
        exact z
theorem ok_law_whole {f : Addr} {fd : FuncData} (F : Fun K "_law_whole" "_law_whole" s_law_whole f fd) (T : Txt K g mg) (D_law_fold : Dn P w0 K mg base 1 "_law_fold" ["_law_stands"] (sp_law_fold K g)) (D_law_atom : Dn P w0 K mg base 2 "_law_atom" ["_law_model_here", "_law_atom_here"] (sp_law_atom K g)) (D_law_class : Dn P w0 K mg base 4 "_law_class" ["_law_model_here", "_law_name", "_law_age_here", "_law_out_here"] (sp_law_class K g)) : FnOk P w0 K mg base CX0 5 f fd ["_law_model_here", "_law_holder_here", "_law_atoms", "_law_out_here"] (sp_law_whole K g) := by
  refine F.ok sc_law_whole (fun vs H Q E h => ?_) (fun cdv A outer s H vs Q E hr h => ?_)
  · obtain ⟨m, S, R, p, l, o, h, ts, ps, rfl, _⟩ := h
    rfl
  obtain ⟨m, S, R, p, l, o, h, ts, ps, rfl, M, hp, oh, A0, ok, tl, ho, wf, hlen, q⟩ := h
  refine ⟨_, (
(@pss_cons _ _ _ _ _ (@ps_setLC _ (4) _ _ _ _ _ ("_law_atom_here") _ _ _ ([("_law_model_here", s.heap.objs.size + 1)]) _ ([("_law_model_here", 0)]) _ _ _ sc_law_whole.nd rfl (Or.inl rfl) rfl (@pi_list _ _ _ _ (@qv _ 2 _ _ (by walk_at "w"))) (fun _ _ _ _ _ => (@pifs_nil _)) (fun _ _ _ _ _ => (@pe_fn _ _ _ _ _ _ _ _ _ _ D_law_atom (hr.mono (by decide)) (@pa_cons _ _ _ _ _ (@qv _ 1 _ _ (by walk_at "w")) (@pa_cons _ _ _ _ _ (@qv _ 0 _ _ (by walk_at "w")) (@pa_nil _) (by rfl)) (by rfl)) (by rfl) (by decide) (by rfl) (by rfl))) rfl (by decide +kernel) rfl (by decide +kernel) rfl (fun _ _ h => h) (has_of rfl) (fun p hp => by rw [List.mem_singleton.mp hp]; exact ⟨rfl, rfl, by first | exact .inl rfl | exact .inr rfl⟩) (by decide +kernel) (by intro _ ; rfl) (by rfl) (by walk_at "u")) (@pss_cons _ _ _ _ _ (@ps_if _ _ _ _ _ _ _ _ (@pt_cmpR _ _ _ _ _ _ _ _ (@op_eq _) (@pe_ix _ _ _ _ _ _ _ (@ix_tup _) (@qv _ 1 _ _ (by walk_at "w")) (@pe_int _ _ _ _) (fun _ _ => rfl)) (@pe_str _ _ _ _) (nomark _)) (@pss_one _ _ _ (@ps_expr _ _ _ _ (@pe_bm _ _ _ _ _ _ _ _ _ _ _ _ PySem.F.plainAttrs_list PySem.F.slot_list_append PySem.F.type_list_append (@mt_append _) (@qv _ 4 _ _ (by walk_at "w")) (@pa_cons _ _ _ _ _ (@pe_fn _ _ _ _ _ _ _ _ _ _ D_law_atom (hr.mono (by decide)) (@pa_cons _ _ _ _ _ (@qv _ 0 _ _ (by walk_at "w")) (@pa_cons _ _ _ _ _ (@pe_tup _ _ _ _ _ (@pa_cons _ _ _ _ _ (@pe_str _ _ _ _) (@pa_cons _ _ _ _ _ (@pe_ix _ _ _ _ _ _ _ (@ix_tup _) (@qv _ 1 _ _ (by walk_at "w")) (@pe_int _ _ _ _) (fun _ _ => rfl)) (@pa_nil _) (by rfl)) (by rfl))) (@pa_nil _) (by rfl)) (by rfl)) (by rfl) (by decide) (by rfl) (by rfl)) (@pa_nil _) (by rfl)) (by rfl) (by rfl) (by rfl) (by rfl) (by rfl)) (by rfl))) (@pss_one _ _ _ (@ps_expr _ _ _ _ (@pe_bm _ _ _ _ _ _ _ _ _ _ _ _ PySem.F.plainAttrs_list PySem.F.slot_list_append PySem.F.type_list_append (@mt_append _) (@qv _ 4 _ _ (by walk_at "w")) (@pa_cons _ _ _ _ _ (@pe_fn _ _ _ _ _ _ _ _ _ _ D_law_class (hr.mono (by decide)) (@pa_cons _ _ _ _ _ (@qv _ 0 _ _ (by walk_at "w")) (@pa_cons _ _ _ _ _ (@pe_ix _ _ _ _ _ _ _ (@ix_tup _) (@qv _ 1 _ _ (by walk_at "w")) (@pe_int _ _ _ _) (fun _ _ => rfl)) (@pa_cons _ _ _ _ _ (@pe_ix _ _ _ _ _ _ _ (@ix_tup _) (@qv _ 1 _ _ (by walk_at "w")) (@pe_int _ _ _ _) (fun _ _ => rfl)) (@pa_cons _ _ _ _ _ (@qv _ 3 _ _ (by walk_at "w")) (@pa_nil _) (by rfl)) (by rfl)) (by rfl)) (by rfl)) (by rfl) (by decide) (by rfl) (by rfl)) (@pa_nil _) (by rfl)) (by rfl) (by rfl) (by rfl) (by rfl) (by rfl)) (by rfl)))) (@pss_one _ _ _ (@ps_ret _ _ _ _ (@pe_fn _ _ _ _ _ _ _ _ _ _ D_law_fold (hr.mono (by decide)) (@pa_cons _ _ _ _ _ (@qv _ 4 _ _ (by walk_at "w")) (@pa_nil _) (by rfl)) (by rfl) (by decide) (by rfl) (by rfl))))))), ?_⟩
  unfold tSeq tAsg
  refine lcLvT (xs := ps.map V.ref) (fun a H1 => a = l ∧ H1 = H) ?_ ?_ (by rw [List.length_map, A0.len]; omega) (fun _ => true) (fun i => .str ((ts[i]?.map (Atm.stand S)).getD "")) ?_ ?_ ?_
  · exact fun R0 r => ⟨_, rfl, r l H ⟨rfl, rfl⟩⟩
  · rintro a H1 ⟨rfl, rfl⟩
    exact SqL.of A0.lst
  · exact fun a H1 i x H2 hA hx s R0 r => r H2 (Same.refl _)
  · rintro a H1 i x H2 ⟨rfl, rfl⟩ hx _ s R0 r
    obtain ⟨p2, t, rfl, ht, hp2⟩ := (A0.same s).at' hx
    have okt := ok t (List.mem_of_getElem? ht)
    refine ⟨_, rfl, _, rfl, m, S, R, p2, t, rfl, M.same s, hp2, Atm.ok_bad okt, wf, Atm.ok_len okt, fun H3 s3 => ?_⟩
    have z := r H3 s3
    rw [ht] at z
    exact z
  rintro a1 H1 D H2 ⟨rfl, rfl⟩ hD s2 h2
  rw [fl_all, List.length_map, A0.len, stand_map] at h2
  have hp2 := s2 _ _ hp
  have lS : ((ts.map (Atm.stand S)).map V.str).length < sizeLine := small1000 (by rw [List.length_map, List.length_map]; omega)
  have M2 := M.same s2
  have sl : ∀ (s : Str) (H3 : Hp), SqL K (upd H3 D (.lst ((ts.map (Atm.stand S)).map V.str ++ [V.str s]))) D ((ts.map (Atm.stand S) ++ [s]).map V.str) := fun s H3 => SqL.of (by rw [upd_same, List.map_append]; rfl)
  cases h with
  | one n =>
    walk_at "go"
    intro p3 hp3
    have okb : (Atm.born n).ok S := oh
    have s3 := same_new hp3 (.tup (Atm.vals (.born n)))
    refine ⟨m, S, R, p3, .born n, rfl, M2.same s3, upd_same, Atm.ok_bad okb, wf, Atm.ok_len okb, fun H4 s4 => ?_⟩
    have h4 := s4 _ _ (s3 _ _ h2)
    have s34 := s3.trans s4
    have sl4 := sl ((Atm.born n).stand S) H4
    walk_at "go"
    exact q _ _ (same_put1 (s2.trans s34) hD)
  | kids n a =>
    obtain ⟨on, h0, h1⟩ := oh
    have ho2 : SqL K H2 o ((outL S n).map V.str) := SqL.of (s2 _ _ ho)
    walk_at "go"
    intro H4 s4
    have h4 := s4 _ _ h2
    have sl4 := sl (clS S n a (outL S n)) H4
    walk_at "go"
    exact q _ _ (same_put1 (s2.trans s4) hD)
theorem ok_law_out {f : Addr} {fd : FuncData} (F : Fun K "_law_out" "_law_out" s_law_out f fd) (T : Txt K g mg) (D_law_kids : Dn P w0 K mg base 1 "_law_kids" ["_law_model_here", "_law_name"] (sp_law_kids K g)) : FnOk P w0 K mg base CX0 2 f fd ["_law_model_here", "_law_holder_here"] (sp_law_out K g) := by
  refine F.ok sc_law_out (fun vs H Q E h => ?_) (fun cdv A outer s H vs Q E hr h => ?_)
  · obtain ⟨m, S, R, p, h, rfl, _⟩ := h
    rfl
  obtain ⟨m, S, R, p, h, rfl, M, hp, oh, wf, hlen, q⟩ := h
  refine ⟨_, (
(@pss_cons _ _ _ _ _ (@ps_if _ _ _ _ _ _ _ _ (@pt_cmpR _ _ _ _ _ _ _ _ (@op_eq _) (@pe_ix _ _ _ _ _ _ _ (@ix_tup _) (@qv _ 1 _ _ (by walk_at "w")) (@pe_int _ _ _ _) (fun _ _ => rfl)) (@pe_str _ _ _ _) (nomark _)) (@pss_one _ _ _ (@ps_ret _ _ _ _ (@pe_lst _ _ _ _ (@pa_nil _)))) (@pss_nil _)) (@pss_one _ _ _ (@ps_ret _ _ _ _ (@pe_lc _ _ _ ("_law_child") _ _ _ ([("_law_model_here", s.heap.objs.size + 1)]) _ ([("_law_model_here", 0)]) _ _ _ rfl (@pi_list _ _ _ _ (@pe_fn _ _ _ _ _ _ _ _ _ _ D_law_kids (hr.mono (by decide)) (@pa_cons _ _ _ _ _ (@qv _ 0 _ _ (by walk_at "w")) (@pa_cons _ _ _ _ _ (@pe_ix _ _ _ _ _ _ _ (@ix_tup _) (@qv _ 1 _ _ (by walk_at "w")) (@pe_int _ _ _ _) (fun _ _ => rfl)) (@pa_nil _) (by rfl)) (by rfl)) (by rfl) (by decide) (by rfl) (by rfl))) (fun _ _ _ _ _ => (@pifs_one _ _ _ (@pt_cmp _ _ _ _ _ _ (@pc_din _ _ _ _ _ (hu_of hr) (@qv _ 0 _ _ (by walk_at "w")) (@pe_ix _ _ _ _ _ _ _ (show IxR _ (rIxT K) from (@ix_tup _)) (@qv _ 1 _ _ (by walk_at "w")) (@pe_int _ _ _ _) (fun _ _ => rfl))) (by walk_at "n")))) (fun _ _ _ _ _ => (@qv _ 0 _ _ (by walk_at "w"))) rfl (by decide +kernel) rfl (by decide +kernel) rfl (fun _ _ h => h) (has_of rfl) (fun p hp => by rw [List.mem_singleton.mp hp]; exact ⟨rfl, rfl, by first | exact .inl rfl | exact .inr rfl⟩) (by decide +kernel) (by intro _ ; rfl)))))), ?_⟩
  cases h with
  | one n =>
    walk_at "go"
    exact fun l hl => q l _ (same_new hl _) hl upd_same
  | kids n a =>
    obtain ⟨on, h0, h1⟩ := oh
    refine ⟨_, rfl, p, _, _, _, rfl, rfl, SqT.of hp, rfl, rfl, _, rfl, ?_⟩
    rw [str_dec, decide_eq_false (by decide +kernel)]
    refine iteF ?_
    unfold tNext
    dsimp only
    unfold tRet
    refine lcS (ss := kidsOf S n) (fun l1 H1 => Same H H1 ∧ H1 l1 = some (.lst ((kidsOf S n).map V.str)) ∧ H l1 = none) (fun c => has S.ds c) V.str ?_ (fun a H1 h => SqL.of h.2.1) (by have := kidsOf_len wf n; omega) ?_ ?_ ?_
    · intro R0 r
      walk_at "go"
      exact ⟨by have := pok_len on.1; omega, by have := wf.few n; omega, fun l H' s f h => r l H' ⟨s, by rw [h, kidVL]; rfl, f⟩⟩
    · rintro a0 H1 x H2 ⟨s1, h1, _⟩ hx s R0 r
      obtain ⟨c, e1, e2, e3, B⟩ := (M.same (s1.trans s)).tup_of
      refine ⟨_, rfl, _, rfl, m, _, _, _, rfl, rfl, SqT.of B.tup, rfl, e2, _, rfl, DGet.k (k := Sum.inr x) B.h2, _, rfl, ?_⟩
      rw [valV_has]
      exact r H2 (Same.refl _)
    · exact fun a H1 x H2 _ hx _ s R0 r => ⟨_, rfl, r H2 (Same.refl _)⟩
    · rintro a0 H1 D H2 ⟨s1, h1, _⟩ hD s h
      exact q D H2 (s1.trans s) (s1.free hD) h
theorem ok_law_holder {f : Addr} {fd : FuncData} (F : Fun K "_law_holder" "_law_holder" s_law_holder f fd) (T : Txt K g mg) (D_law_path : Dn P w0 K mg base 1 "_law_path" ["_law_model_here", "_law_n"] (sp_law_path K g)) (D_law_near : Dn P w0 K mg base 1 "_law_near" ["_law_model_here", "_law_name"] (sp_law_near K g)) : FnOk P w0 K mg base CX0 2 f fd ["_law_model_here", "_law_n"] (sp_law_holder K g) := by
  refine F.ok sc_law_holder (fun vs H Q E h => ?_) (fun cdv A outer s H vs Q E hr h => ?_)
  · obtain ⟨m, S, R, n, rfl, _⟩ := h
    rfl
  obtain ⟨m, S, R, n, rfl, M, wf, hlen, RT, q⟩ := h
  have ifb : PSs (cxOf CX0 P w0 K mg base ["_law_model_here", "_law_n", "_law_name", "_law_near_here"] "_law_holder" (defScope s_law_holder) f cdv A outer s H E).nox (forBody ((defBody s_law_holder).getD 3 (.Pass ⟨0, 0, 0, 0⟩))) (fun D σ H1 => ∃ (x y : Str), σ = [some (.ref m), some (.int n), some (.str x), some (.str y)] ∧ Same H H1 ∧ okN S x ∧ D.rt = Q) := by
    refine @PSs_imp _ _ _ _ ((@pss_one _ _ _ (@ps_ret _ _ _ _ (@pe_tup _ _ _ _ _ (@pa_cons _ _ _ _ _ (@pe_str _ _ _ _) (@pa_cons _ _ _ _ _ (@qv _ 2 _ _ (by walk_at "w")) (@pa_cons _ _ _ _ _ (@pe_ix _ _ _ _ _ _ _ (@ix_list _) (@pe_lst _ _ _ _ (@pa_cons _ _ _ _ _ (@pe_op _ _ _ _ _ _ _ _ (@op_mod _) (@pe_op _ _ _ _ _ _ _ _ (@op_fdiv _) (@qv _ 1 _ _ (by walk_at "w")) (@pe_int _ _ _ _)) (@pe_int _ _ _ _)) (@pa_cons _ _ _ _ _ (@pe_op _ _ _ _ _ _ _ _ (@op_mod _) (@pe_op _ _ _ _ _ _ _ _ (@op_fdiv _) (@qv _ 1 _ _ (by walk_at "w")) (@pe_int _ _ _ _)) (@pe_int _ _ _ _)) (@pa_nil _) (by rfl)) (by rfl))) (@pe_op _ _ _ _ _ _ _ _ (@op_mod _) (@pe_op _ _ _ _ _ _ _ _ (@op_fdiv _) (@qv _ 1 _ _ (by walk_at "w")) (@pe_int _ _ _ _)) (@pe_int _ _ _ _)) (fun _ _ => rfl)) (@pa_nil _) (by rfl)) (by rfl)) (by rfl)))))) ?_
    rintro D σ H1 ⟨x, y, rfl, s1, ox, hq⟩
    have b0 := Int.emod_nonneg (n / 5) (show (37 : Int) ≠ 0 by decide)
    have b1 := Int.emod_lt_of_pos (n / 5) (show (0 : Int) < 37 by decide)
    have b2 := Int.emod_nonneg (n / 5) (show (121 : Int) ≠ 0 by decide)
    have b3 := Int.emod_lt_of_pos (n / 5) (show (0 : Int) < 121 by decide)
    walk_at "go"
    intro l2 hl2
    obtain ⟨v, hv, hv'⟩ := pickI2 (a := V.int (n / 5 % 37)) (b := V.int (n / 5 % 121)) (n / 605)
    obtain ⟨k, rfl, k0, k1⟩ : ∃ k : Int, v = .int k ∧ 0 ≤ k ∧ k ≤ 120 := by rcases hv' with e | e; exact ⟨_, e, b0, by omega⟩; exact ⟨_, e, b2, by omega⟩
    have s2 := same_new hl2 (.lst [V.int (n / 5 % 37), .int (n / 5 % 121)])
    walk_at "go"
    intro p3 hp3
    rw [hq]
    exact q (.kids x k) p3 _ ((s1.trans s2).trans (same_new hp3 _)) ((s1.trans s2).free hp3) upd_same ⟨ox, k0, k1⟩
  have rest4 : PSs (cxOf CX0 P w0 K mg base ["_law_model_here", "_law_n", "_law_name", "_law_near_here"] "_law_holder" (defScope s_law_holder) f cdv A outer s H E).nox ((defBody s_law_holder).drop 4) (fun D σ H1 => ∃ (x y : Str), σ = [some (.ref m), some (.int n), some (.str x), some (.str y)] ∧ Same H H1 ∧ okN S x ∧ D.rt = Q) := by
    refine @PSs_imp _ _ _ _ ((@pss_cons _ _ _ _ _ (@ps_if _ _ _ _ _ _ _ _ (@pt_cmp _ _ _ _ _ _ (@pc_din _ _ _ _ _ (hu_of hr) (@qv _ 3 _ _ (by walk_at "w")) (@pe_ix _ _ _ _ _ _ _ (@ix_tup _) (@qv _ 0 _ _ (by walk_at "w")) (@pe_int _ _ _ _) (fun _ _ => rfl))) (by walk_at "n")) (@pss_one _ _ _ (@ps_ret _ _ _ _ (@pe_tup _ _ _ _ _ (@pa_cons _ _ _ _ _ (@pe_str _ _ _ _) (@pa_cons _ _ _ _ _ (@pe_ix _ _ _ _ _ _ _ (@ix_list _) (@pe_bm _ _ _ _ _ _ _ _ _ _ _ _ PySem.F.plainAttrs_str PySem.F.slot_str_split PySem.F.type_str_split (@mt_split _) (@qv _ 2 _ _ (by walk_at "w")) (@pa_cons _ _ _ _ _ (@pe_str _ _ _ _) (@pa_nil _) (by rfl)) (by rfl) (by rfl) (by rfl) (by rfl) (by rfl)) (@pe_int _ _ _ _) (fun _ _ => rfl)) (@pa_cons _ _ _ _ _ (@pe_op _ _ _ _ _ _ _ _ (@op_mod _) (@qv _ 1 _ _ (by walk_at "w")) (@pe_int _ _ _ _)) (@pa_nil _) (by rfl)) (by rfl)) (by rfl))))) (@pss_nil _)) (@pss_one _ _ _ (@ps_ret _ _ _ _ (@pe_tup _ _ _ _ _ (@pa_cons _ _ _ _ _ (@pe_str _ _ _ _) (@pa_cons _ _ _ _ _ (@qv _ 2 _ _ (by walk_at "w")) (@pa_nil _) (by rfl)) (by rfl))))))) ?_
    rintro D σ H1 ⟨x, y, rfl, s1, ox, hq⟩
    have M1 := M.same s1
    obtain ⟨c, e1, e2, e3, B⟩ := M1.tup_of
    have xl := pok_len ox.1
    have b0 := Int.emod_nonneg n (show (37 : Int) ≠ 0 by decide)
    have b1 := Int.emod_lt_of_pos n (show (0 : Int) < 37 by decide)
    refine ⟨_, rfl, _, rfl, m, _, _, _, rfl, rfl, SqT.of B.tup, rfl, e2, _, rfl, DGet.k (k := Sum.inr y) B.h2, _, rfl, ?_⟩
    rw [valV_has]
    cases hd : has S.ds y with
    | true =>
      refine iteT ?_
      have h2 : (Builtin.Str.partsBetween x (Builtin.Str.occurrences x dot 0 x.length (x.length + 1)) dot.length).length ≤ sizeLine := by
        rw [PyProof.Rows.len_partsBetween]
        have := StrLaws.occ_length_le x dot 0 x.length (x.length + 1)
        exact line_ok (by omega)
      refine ⟨_, rfl, rfl, x, dot, rfl, rfl, by decide +kernel, line_ok (by omega), h2, fun l2 hl2 => ?_⟩
      have s2 := same_new hl2 (.lst ((pcs x).map V.str))
      have e0 : (pcs x).map V.str = V.str (wd x) :: (nms x).map V.str := by rw [pcs_eq]; rfl
      refine ⟨l2, (pcs x).map V.str, _, V.str (wd x), rfl, rfl, SqL.of upd_same, by rw [e0]; exact atI_nat (j := 0) rfl, ?_⟩
      walk_at "go"
      intro p3 hp3
      rw [hq]
      exact q (.kids (wd x) (n % 37)) p3 _ ((s1.trans s2).trans (same_new hp3 _)) ((s1.trans s2).free hp3) upd_same ⟨okN_wd wf ox, b0, by omega⟩
    | false =>
      refine iteF ?_
      walk_at "go"
      intro p3 hp3
      rw [hq]
      exact q (.one x) p3 _ (s1.trans (same_new hp3 _)) (s1.free hp3) upd_same ox
  refine ⟨_, (@pss_cons _ _ _ _ _ (@ps_set _ _ (2) _ _ _ _ sc_law_holder.nd rfl (Or.inl rfl) (@pe_fn _ _ _ _ _ _ _ _ _ _ D_law_path (hr.mono (by decide)) (@pa_cons _ _ _ _ _ (@qv _ 0 _ _ (by walk_at "w")) (@pa_cons _ _ _ _ _ (@pe_op _ _ _ _ _ _ _ _ (@op_fdiv _) (@qv _ 1 _ _ (by walk_at "w")) (@pe_int _ _ _ _)) (@pa_nil _) (by rfl)) (by rfl)) (by rfl) (by decide) (by rfl) (by rfl)) (by rfl) (by walk_at "u")) (@pss_cons _ _ _ _ _ (@ps_set _ _ (3) _ _ _ _ sc_law_holder.nd rfl (Or.inl rfl) (@pe_fn _ _ _ _ _ _ _ _ _ _ D_law_near (hr.mono (by decide)) (@pa_cons _ _ _ _ _ (@qv _ 0 _ _ (by walk_at "w")) (@pa_cons _ _ _ _ _ (@qv _ 2 _ _ (by walk_at "w")) (@pa_nil _) (by rfl)) (by rfl)) (by rfl) (by decide) (by rfl) (by rfl)) (by rfl) (by walk_at "u")) (@pss_cons _ _ _ _ _ (@ps_if _ _ _ _ _ _ _ _ (@pt_cmp _ _ _ _ _ _ (@pc_din _ _ _ _ _ (hu_of hr) (@qv _ 3 _ _ (by walk_at "w")) (@pe_ix _ _ _ _ _ _ _ (@ix_tup _) (@qv _ 0 _ _ (by walk_at "w")) (@pe_int _ _ _ _) (fun _ _ => rfl))) (by walk_at "n")) (@pss_one _ _ _ (@ps_set _ _ (2) _ _ _ _ sc_law_holder.nd rfl (Or.inl rfl) (@qv _ 3 _ _ (by walk_at "w")) (by rfl) (by walk_at "u"))) (@pss_nil _)) (@pss_cons _ _ _ _ _ (@ps_if _ _ _ _ _ _ _ _ (@PW.pt _ _ _ (@pw_and _ _ _ _ _ _ _ (@pt_cmpR _ _ _ _ _ _ _ _ (@op_lt _) (@pe_bm _ _ _ _ _ _ _ _ _ _ _ _ PySem.F.plainAttrs_str PySem.F.slot_str_count PySem.F.type_str_count (@mt_count _) (@qv _ 2 _ _ (by walk_at "w")) (@pa_cons _ _ _ _ _ (@pe_str _ _ _ _) (@pa_nil _) (by rfl)) (by rfl) (by rfl) (by rfl) (by rfl) (by rfl)) (@pe_int _ _ _ _) (nomark _)) (@pw_and1 _ _ _ _ (@PW.pt _ _ _ (@pw_or _ _ _ _ _ _ _ (@pt_cmp _ _ _ _ _ _ (@pc_din _ _ _ _ _ (hu_of hr) (@qv _ 3 _ _ (by walk_at "w")) (@pe_ix _ _ _ _ _ _ _ (@ix_tup _) (@qv _ 0 _ _ (by walk_at "w")) (@pe_int _ _ _ _) (fun _ _ => rfl))) (by walk_at "n")) (@pw_or1 _ _ _ _ (@pt_cmpR _ _ _ _ _ _ _ _ (@op_lt _) (@pe_op _ _ _ _ _ _ _ _ (@op_mod _) (@qv _ 1 _ _ (by walk_at "w")) (@pe_int _ _ _ _)) (@pe_int _ _ _ _) (nomark _)))))))) @ifb (@pss_nil _)) @rest4)))), ?_⟩
  walk_at "go"
  intro z H1 s1 pz nz
  have M1 := M.same s1
  have zl := pok_len pz
  have zl2 : z.length ≤ 200 := by omega
  have oz : okN S z := ⟨pz, nz⟩
  have oy : okN S (nr S.bs z) := mem_okN wf ((nr_or S.bs z).resolve_left nz)
  refine ⟨_, rfl, _, rfl, m, S, R, z, rfl, M1, zl2, ?_⟩
  obtain ⟨c, e1, e2, e3, B⟩ := M1.tup_of
  refine ⟨_, rfl, _, rfl, m, _, _, _, rfl, rfl, SqT.of B.tup, rfl, e2, _, rfl, DGet.k (k := Sum.inr (nr S.bs z)) B.h2, _, rfl, ?_⟩
  rw [valV_has]
  cases hd : has S.ds (nr S.bs z) with
  | true =>
    refine iteT ?_
    refine ⟨_, rfl, _, rfl, rfl, _, dot, rfl, rfl, _, _, rfl, rfl, _, rfl, ite2 (fun c1 => ?_) (fun c1 => ?_)⟩
    · refine ⟨_, rfl, _, rfl, m, _, _, _, rfl, rfl, SqT.of B.tup, rfl, e2, _, rfl, DGet.k (k := Sum.inr (nr S.bs z)) B.h2, _, rfl, ?_⟩
      rw [valV_has, hd]
      exact iteT (iteT ⟨_, _, rfl, s1, oy, rfl⟩)
    · exact iteF ⟨_, _, rfl, s1, oy, rfl⟩
  | false =>
    refine iteF ?_
    refine ⟨_, rfl, rfl, _, dot, rfl, rfl, _, _, rfl, rfl, _, rfl, ite2 (fun c1 => ?_) (fun c1 => ?_)⟩
    · refine ⟨_, rfl, _, rfl, m, _, _, _, rfl, rfl, SqT.of B.tup, rfl, e2, _, rfl, DGet.k (k := Sum.inr (nr S.bs z)) B.h2, _, rfl, ?_⟩
      rw [valV_has, hd]
      refine iteF ?_
      refine ⟨_, rfl, _, _, rfl, rfl, (by show (0 : Int) < 5; decide), _, _, rfl, rfl, _, rfl, ite2 (fun c2 => ?_) (fun c2 => ?_)⟩
      · exact ⟨_, _, rfl, s1, oz, rfl⟩
      · exact ⟨_, _, rfl, s1, oz, rfl⟩
    · exact iteF ⟨_, _, rfl, s1, oz, rfl⟩
theorem ok_law_first_end {f : Addr} {fd : FuncData} (F : Fun K "_law_first_end" "_law_first_end" s_law_first_end f fd) (T : Txt K g mg) (D_law_young : Dn P w0 K mg base 3 "_law_young" ["_law_model_here", "_law_name", "_law_age_here", "_law_out_here"] (sp_law_young K g)) (D_law_seated : Dn P w0 K mg base 3 "_law_seated" ["_law_model_here", "_law_name", "_law_age_here", "_law_out_here"] (sp_law_seated K g)) : FnOk P w0 K mg base CX0 4 f fd ["_law_model_here", "_law_holder_here", "_law_atoms", "_law_out_here"] (sp_law_first_end K g) := by
  refine F.ok sc_law_first_end (fun vs H Q E h => ?_) (fun cdv A outer s H vs Q E hr h => ?_)
  · obtain ⟨m, S, R, p, l, o, h, ts, ps, rfl, _⟩ := h
    rfl
  obtain ⟨m, S, R, p, l, o, h, ts, ps, rfl, M, hp, oh, A0, ok, tl, ho, wf, hlen, q⟩ := h
  refine ⟨_, (
(@pss_cons _ _ _ _ _ (@ps_set _ _ (4) _ _ _ _ sc_law_first_end.nd rfl (Or.inl rfl) (@pe_ix _ _ _ _ _ _ _ (@ix_list _) (@pe_ix _ _ _ _ _ _ _ (@ix_tup _) (@qv _ 0 _ _ (by walk_at "w")) (@pe_int _ _ _ _) (fun _ _ => rfl)) (@pe_int _ _ _ _) (fun _ _ => rfl)) (by rfl) (by walk_at "u")) (@pss_cons _ _ _ _ _ (@ps_for _ _ _ _ _ _ _ _ PassesOwn.never rfl (@pi_list _ _ _ _ (@qv _ 2 _ _ (by walk_at "w"))) (@pg_name _ _ (5) _ sc_law_first_end.nd rfl (Or.inl rfl) (by walk_at "u")) (@pss_one _ _ _ (@ps_if _ _ _ _ _ _ _ _ (@PW.pt _ _ _ (@pw_and _ _ _ _ _ _ _ (@pt_cmpR _ _ _ _ _ _ _ _ (@op_eq _) (@pe_ix _ _ _ _ _ _ _ (@ix_tup _) (@qv _ 5 _ _ (by walk_at "w")) (@pe_int _ _ _ _) (fun _ _ => rfl)) (@pe_str _ _ _ _) (nomark _)) (@pw_and _ _ _ _ _ _ _ (@pt_cmp _ _ _ _ _ _ (@pc_din _ _ _ _ _ (hu_of hr) (@pe_ix _ _ _ _ _ _ _ (@ix_tup _) (@qv _ 5 _ _ (by walk_at "w")) (@pe_int _ _ _ _) (fun _ _ => rfl)) (@pe_ix _ _ _ _ _ _ _ (@ix_tup _) (@qv _ 0 _ _ (by walk_at "w")) (@pe_int _ _ _ _) (fun _ _ => rfl))) (by walk_at "n")) (@pw_and1 _ _ _ _ (@pt_cmp _ _ _ _ _ _ (@pc_dnotin _ _ _ _ _ (hu_of hr) (@pe_ix _ _ _ _ _ _ _ (@ix_tup _) (@qv _ 5 _ _ (by walk_at "w")) (@pe_int _ _ _ _) (fun _ _ => rfl)) (@pe_ix _ _ _ _ _ _ _ (@ix_tup _) (@qv _ 0 _ _ (by walk_at "w")) (@pe_int _ _ _ _) (fun _ _ => rfl))) (by walk_at "n")))))) (@pss_one _ _ _ (@ps_set _ _ (4) _ _ _ _ sc_law_first_end.nd rfl (Or.inl rfl) (@pe_callB _ _ _ _ _ _ _ _ _ (@call_max2 _ rfl) rfl T.z_max PyProof.Rows.boot_max (@pa_cons _ _ _ _ _ (@qv _ 4 _ _ (by walk_at "w")) (@pa_cons _ _ _ _ _ (@pe_op _ _ _ _ _ _ _ _ (@op_add _) (@pe_dget _ _ _ _ _ _ (hu_of hr) (@pe_ix _ _ _ _ _ _ _ (@ix_tup _) (@qv _ 0 _ _ (by walk_at "w")) (@pe_int _ _ _ _) (fun _ _ => rfl)) (@pe_ix _ _ _ _ _ _ _ (@ix_tup _) (@qv _ 5 _ _ (by walk_at "w")) (@pe_int _ _ _ _) (fun _ _ => rfl)) (fun _ _ => rfl)) (@pe_ix _ _ _ _ _ _ _ (@ix_tup _) (@qv _ 5 _ _ (by walk_at "w")) (@pe_int _ _ _ _) (fun _ _ => rfl))) (@pa_nil _) (by rfl)) (by rfl)) (by decide) (by decide) (by rfl) (by rfl)) (by rfl) (by walk_at "u"))) (@pss_nil _))) (by intro _ ; rfl)) (@pss_cons _ _ _ _ _ (@ps_if _ _ _ _ _ _ _ _ (@PW.pt _ _ _ (@pw_and _ _ _ _ _ _ _ (@pt_cmpR _ _ _ _ _ _ _ _ (@op_eq _) (@pe_ix _ _ _ _ _ _ _ (@ix_tup _) (@qv _ 1 _ _ (by walk_at "w")) (@pe_int _ _ _ _) (fun _ _ => rfl)) (@pe_str _ _ _ _) (nomark _)) (@pw_and1 _ _ _ _ (@pt_cmp _ _ _ _ _ _ (@pc_din _ _ _ _ _ (hu_of hr) (@pe_ix _ _ _ _ _ _ _ (@ix_tup _) (@qv _ 1 _ _ (by walk_at "w")) (@pe_int _ _ _ _) (fun _ _ => rfl)) (@pe_ix _ _ _ _ _ _ _ (@ix_tup _) (@qv _ 0 _ _ (by walk_at "w")) (@pe_int _ _ _ _) (fun _ _ => rfl))) (by walk_at "n"))))) (@pss_cons _ _ _ _ _ (@ps_setLC _ (6) _ _ _ _ _ ("_law_child") _ _ _ ([("_law_model_here", s.heap.objs.size + 1)]) _ ([("_law_model_here", 0)]) _ _ _ sc_law_first_end.nd rfl (Or.inl rfl) rfl (@pi_list _ _ _ _ (@pe_fn _ _ _ _ _ _ _ _ _ _ D_law_young (hr.mono (by decide)) (@pa_cons _ _ _ _ _ (@qv _ 0 _ _ (by walk_at "w")) (@pa_cons _ _ _ _ _ (@pe_ix _ _ _ _ _ _ _ (@ix_tup _) (@qv _ 1 _ _ (by walk_at "w")) (@pe_int _ _ _ _) (fun _ _ => rfl)) (@pa_cons _ _ _ _ _ (@pe_ix _ _ _ _ _ _ _ (@ix_tup _) (@qv _ 1 _ _ (by walk_at "w")) (@pe_int _ _ _ _) (fun _ _ => rfl)) (@pa_cons _ _ _ _ _ (@qv _ 3 _ _ (by walk_at "w")) (@pa_nil _) (by rfl)) (by rfl)) (by rfl)) (by rfl)) (by rfl) (by decide) (by rfl) (by rfl))) (fun _ _ _ _ _ => (@pifs_nil _)) (fun _ _ _ _ _ => (@pe_dget _ _ _ _ _ _ (hu_of hr) (@pe_ix _ _ _ _ _ _ _ (show IxR _ (rIxT K) from (@ix_tup _)) (@qv _ 1 _ _ (by walk_at "w")) (@pe_int _ _ _ _) (fun _ _ => rfl)) (@qv _ 0 _ _ (by walk_at "w")) (fun _ _ => rfl))) rfl (by decide +kernel) rfl (by decide +kernel) rfl (fun _ _ h => h) (has_of rfl) (fun p hp => by rw [List.mem_singleton.mp hp]; exact ⟨rfl, rfl, by first | exact .inl rfl | exact .inr rfl⟩) (by decide +kernel) (by intro _ ; rfl) (by rfl) (by walk_at "u")) (@pss_one _ _ _ (@ps_if _ _ _ _ _ _ _ _ (@PW.pt _ _ _ (@pw_and _ _ _ _ _ _ _ (@pt_cmpR _ _ _ _ _ _ _ _ (@op_eq _) (@pe_callB _ _ _ _ _ _ _ _ _ (@call_len _) rfl T.z_len PySem.boot_len (@pa_cons _ _ _ _ _ (@pe_fn _ _ _ _ _ _ _ _ _ _ D_law_seated (hr.mono (by decide)) (@pa_cons _ _ _ _ _ (@qv _ 0 _ _ (by walk_at "w")) (@pa_cons _ _ _ _ _ (@pe_ix _ _ _ _ _ _ _ (@ix_tup _) (@qv _ 1 _ _ (by walk_at "w")) (@pe_int _ _ _ _) (fun _ _ => rfl)) (@pa_cons _ _ _ _ _ (@pe_ix _ _ _ _ _ _ _ (@ix_tup _) (@qv _ 1 _ _ (by walk_at "w")) (@pe_int _ _ _ _) (fun _ _ => rfl)) (@pa_cons _ _ _ _ _ (@qv _ 3 _ _ (by walk_at "w")) (@pa_nil _) (by rfl)) (by rfl)) (by rfl)) (by rfl)) (by rfl) (by decide) (by rfl) (by rfl)) (@pa_nil _) (by rfl)) (by decide) (by decide) (by rfl) (by rfl)) (@pe_int _ _ _ _) (nomark _)) (@pw_and1 _ _ _ _ (@pt_cmpR _ _ _ _ _ _ _ _ (@op_gt _) (@pe_callB _ _ _ _ _ _ _ _ _ (@call_len _) rfl T.z_len PySem.boot_len (@pa_cons _ _ _ _ _ (@qv _ 6 _ _ (by walk_at "w")) (@pa_nil _) (by rfl)) (by decide) (by decide) (by rfl) (by rfl)) (@pe_int _ _ _ _) (nomark _))))) (@pss_one _ _ _ (@ps_set _ _ (4) _ _ _ _ sc_law_first_end.nd rfl (Or.inl rfl) (@pe_callB _ _ _ _ _ _ _ _ _ (@call_max2 _ rfl) rfl T.z_max PyProof.Rows.boot_max (@pa_cons _ _ _ _ _ (@qv _ 4 _ _ (by walk_at "w")) (@pa_cons _ _ _ _ _ (@pe_op _ _ _ _ _ _ _ _ (@op_add _) (@pe_callB _ _ _ _ _ _ _ _ _ (@call_min1 _ rfl) rfl T.z_min PyProof.Rows.boot_min (@pa_cons _ _ _ _ _ (@qv _ 6 _ _ (by walk_at "w")) (@pa_nil _) (by rfl)) (by decide) (by decide) (by rfl) (by rfl)) (@pe_ix _ _ _ _ _ _ _ (@ix_tup _) (@qv _ 1 _ _ (by walk_at "w")) (@pe_int _ _ _ _) (fun _ _ => rfl))) (@pa_nil _) (by rfl)) (by rfl)) (by decide) (by decide) (by rfl) (by rfl)) (by rfl) (by walk_at "u"))) (@pss_nil _)))) (@pss_nil _)) (@pss_one _ _ _ (@ps_ret _ _ _ _ (@qv _ 4 _ _ (by walk_at "w")))))))), ?_⟩
  obtain ⟨c, e1, e2, e3, B⟩ := M.tup_of
  have htup := B.tup
  have hclk := B.clk
  walk_at "go"
  refine ⟨⟨_, SqL.of A0.lst⟩, for_list (xs := ps.map V.ref) (fun i σ H2 => ∃ (F : Int) (v5 v6 : Option V), σ = [some (.ref m), some (.ref p), some (.ref l), some (.ref o), some (.int F), v5, v6] ∧ H2 = H ∧ F ∈ S.y :: agL S (ts.take i) ∧ ∀ x ∈ S.y :: agL S (ts.take i), x ≤ F) ⟨S.y, _, _, rfl, rfl, by simp, fun x hx => by rw [List.mem_singleton.mp hx]; exact Int.le_refl _⟩ ?_ ?_ ?_⟩
  · rintro i σ H2 _ ⟨F, v5, v6, rfl, rfl, _⟩
    exact SqL.of A0.lst
  · rintro i x σ H2 hx ⟨F, v5, v6, rfl, eH, hF, hle⟩
    subst eH
    obtain ⟨p2, t, rfl, ht, hp2⟩ := A0.at' hx
    have okt := ok t (List.mem_of_getElem? ht)
    cases t with
    | age n a =>
      refine ⟨_, rfl, p2, _, _, _, rfl, rfl, SqT.of hp2, rfl, rfl, _, rfl, ?_⟩
      refine iteT ?_
      refine ⟨_, rfl, p2, _, _, _, rfl, rfl, SqT.of hp2, rfl, _, rfl, m, _, _, _, rfl, rfl, SqT.of B.tup, rfl, e1, _, rfl, DGet.k (k := Sum.inr n) B.h1, _, rfl, ?_⟩
      rw [valV_has]
      cases hk : has S.bs n with
      | false =>
        refine iteF (iteF ⟨F, _, _, rfl, rfl, ?_⟩)
        rw [agL_not ht (by show al S.bs S.ds n = false; unfold al; rw [hk]; rfl)]
        exact ⟨hF, hle⟩
      | true =>
        refine iteT ?_
        refine ⟨_, rfl, p2, _, _, _, rfl, rfl, SqT.of hp2, rfl, _, rfl, m, _, _, _, rfl, rfl, SqT.of B.tup, rfl, e2, _, rfl, DGet.k (k := Sum.inr n) B.h2, _, rfl, ?_⟩
        rw [valV_has]
        cases hd : has S.ds n with
        | true =>
          refine iteF ⟨F, _, _, rfl, rfl, ?_⟩
          rw [agL_not ht (by show al S.bs S.ds n = false; unfold al; rw [hk, hd]; rfl)]
          exact ⟨hF, hle⟩
        | false =>
          obtain ⟨y, hy⟩ := yr_of hk
          have gb := DGet.k (H := H2) (k := (Sum.inr n : Key)) B.h1
          rw [valV_yrs, hy] at gb
          refine iteT ?_
          walk_at "go"
          have e0 : agY S (.age n a) = y + a := by show bornS S n + a = _; rw [born_yr hy]
          rw [agL_yes ht (by show al S.bs S.ds n = true; unfold al; rw [hk, hd]; rfl), e0]
          exact mx_step hF hle
    | born c =>
      refine ⟨_, rfl, p2, _, _, _, rfl, rfl, SqT.of hp2, rfl, rfl, _, rfl, ?_⟩
      rw [str_dec, decide_eq_false (by decide +kernel)]
      refine iteF (iteF ⟨F, _, _, rfl, rfl, ?_⟩)
      rw [agL_not ht rfl]
      exact ⟨hF, hle⟩
    | dead c =>
      refine ⟨_, rfl, p2, _, _, _, rfl, rfl, SqT.of hp2, rfl, rfl, _, rfl, ?_⟩
      rw [str_dec, decide_eq_false (by decide +kernel)]
      refine iteF (iteF ⟨F, _, _, rfl, rfl, ?_⟩)
      rw [agL_not ht rfl]
      exact ⟨hF, hle⟩
    | year c =>
      refine ⟨_, rfl, p2, _, _, _, rfl, rfl, SqT.of hp2, rfl, rfl, _, rfl, ?_⟩
      rw [str_dec, decide_eq_false (by decide +kernel)]
      refine iteF (iteF ⟨F, _, _, rfl, rfl, ?_⟩)
      rw [agL_not ht rfl]
      exact ⟨hF, hle⟩
    | comes c =>
      refine ⟨_, rfl, p2, _, _, _, rfl, rfl, SqT.of hp2, rfl, rfl, _, rfl, ?_⟩
      rw [str_dec, decide_eq_false (by decide +kernel)]
      refine iteF (iteF ⟨F, _, _, rfl, rfl, ?_⟩)
      rw [agL_not ht rfl]
      exact ⟨hF, hle⟩
  · rintro σ H2 ⟨F, v5, v6, rfl, eH, hF, hle⟩
    subst eH
    rw [List.length_map, A0.len, List.take_length] at hF hle
    cases h with
    | one n =>
      walk_at "go"
      exact q F _ (fend_y rfl hF hle) (Same.refl _)
    | kids n a =>
      obtain ⟨on, h0, h1⟩ := oh
      refine ⟨_, rfl, p, _, _, _, rfl, rfl, SqT.of hp, rfl, rfl, _, rfl, iteT ?_⟩
      refine ⟨_, rfl, p, _, _, _, rfl, rfl, SqT.of hp, rfl, _, rfl, m, _, _, _, rfl, rfl, SqT.of B.tup, rfl, e2, _, rfl, DGet.k (k := Sum.inr n) B.h2, _, rfl, ?_⟩
      rw [valV_has]
      cases hd : has S.ds n with
      | false =>
        refine iteF ⟨_, rfl, q F _ (fend_y (cend_alive wf on hd) hF hle) (Same.refl _)⟩
      | true =>
        refine iteT ?_
        unfold tSeq tAsg
        dsimp only
        have nl := pok_len on.1
        refine lcS (ss := waitL S n a (outL S n)) (fun l1 H4 => Same H2 H4 ∧ H4 l1 = some (.lst ((waitL S n a (outL S n)).map V.str)) ∧ H2 l1 = none) (fun _ => true) (fun c => .int (bornS S c)) ?_ (fun a H1 h => SqL.of h.2.1) (by have := List.length_filter_le (fun c => !decide (a ≤ ageS S c) && !has S.ds c) (memL S n (outL S n)); have := memL_len wf (n := n) (os := outL S n); show (List.filter _ _).length ≤ _; omega) ?_ ?_ ?_
        · intro R0 r
          walk_at "go"
          exact ⟨by omega, fun l H' s f h => r l H' ⟨s, h, f⟩⟩
        · exact fun a0 H1 x H2 _ hx s R0 r => r H2 (Same.refl _)
        · rintro a0 H4 x H5 ⟨s4, h4, _⟩ hx _ s R0 r
          have hk := kidsOf_has wf (waitL_sub hx)
          obtain ⟨y, hy⟩ := yr_of hk
          obtain ⟨c, e1, e2, e3, B⟩ := (M.same (s4.trans s)).tup_of
          have gb := DGet.k (H := H5) (k := (Sum.inr x : Key)) B.h1
          rw [valV_yrs, hy] at gb
          refine ⟨_, rfl, m, _, _, _, rfl, rfl, SqT.of B.tup, rfl, _, rfl, e1, _, rfl, gb, ?_⟩
          have z := r H5 (Same.refl _)
          rw [born_yr hy] at z
          exact z
        · rintro a0 H4 D H5 ⟨s4, h4, _⟩ hD s h
          have s5 := s4.trans s
          have h' : H5 D = some (.lst (((waitL S n a (outL S n)).map (bornS S)).map V.int)) := by rw [h, List.filter_eq_self.mpr (fun _ _ => rfl), List.map_map]; rfl
          have M5 := M.same s5
          have hp5 := s5 _ _ hp
          have ho5 : SqL K H5 o ((outL S n).map V.str) := SqL.of (s5 _ _ ho)
          have nl2 : n.length ≤ 200 := by omega
          have hal := near_of_dead wf on hd
          have hsn := seat_ne (S := S) (n := n) (a := a) (os := outL S n)
          walk_at "go"
          intro l6 H6 s6 f6 h6
          have h6' := s6 _ _ h'
          have hp6 := s6 _ _ hp5
          have s56 := s5.trans s6
          refine ⟨_, _, rfl, .inl ⟨_, SqL.of h6, rfl⟩, rfl, _, rfl, ?_⟩
          rw [int_dec, List.length_map]
          refine ite2 (fun c1 => ?_) (fun c1 => ?_)
          · have hse : hasSeat S n a (outL S n) = false := by rw [hsn]; exact decide_eq_false (by have := of_decide_eq_true c1; omega)
            refine ⟨_, rfl, _, _, rfl, .inl ⟨_, SqL.of h6', rfl⟩, _, _, rfl, rfl, _, rfl, ?_⟩
            rw [List.length_map, List.length_map]
            refine ite2 (fun c2 => ?_) (fun c2 => ?_)
            · have ne : waitL S n a (outL S n) ≠ [] := fun z => by rw [z] at c2; exact absurd (of_decide_eq_true c2) (by decide)
              have ne2 : (waitL S n a (outL S n)).map (bornS S) ≠ [] := fun z => ne (List.map_eq_nil_iff.mp z)
              have hb' := SqL.of (K := K) h6'
              walk_at "go"
              intro b hb hle2
              walk_at "go"
              exact q _ _ (fend_of (h := .kids n a) (show CEnd S n a (b + a) from ⟨(fun z => by rw [hal, hse] at z; rcases z with z | z; cases z; exact absurd z ne), fun _ _ => ⟨b, hb, hle2, rfl⟩⟩) hF hle) s56
            · have nw : waitL S n a (outL S n) = [] := by
                cases e : waitL S n a (outL S n) with
                | nil => rfl
                | cons x r => rw [e] at c2; exact absurd (decide_eq_true (by rw [List.length_cons]; omega)) c2
              walk_at "go"
              exact q F _ (fend_y (h := .kids n a) (show CEnd S n a S.y from ⟨fun _ => rfl, fun _ z => absurd nw z⟩) hF hle) s56
          · have hse : hasSeat S n a (outL S n) = true := by
              rw [hsn]
              refine decide_eq_true ?_
              have z : ¬ (((seatL S n a (outL S n)).length : Int) = 0) := fun z => c1 (decide_eq_true z)
              omega
            walk_at "go"
            exact q F _ (fend_y (h := .kids n a) (show CEnd S n a S.y from ⟨fun _ => rfl, fun z => by rw [hal, hse] at z; cases z⟩) hF hle) s56
theorem ok_law_judged_row {f : Addr} {fd : FuncData} (F : Fun K "_law_judged_row" "_law_judged_row" s_law_judged_row f fd) (T : Txt K g mg) (D_law_needs : Dn P w0 K mg base 3 "_law_needs" ["_law_model_here", "_law_n", "_law_most"] (sp_law_needs K g)) (D_law_holder : Dn P w0 K mg base 2 "_law_holder" ["_law_model_here", "_law_n"] (sp_law_holder K g)) : FnOk P w0 K mg base CX0 4 f fd ["_law_model_here", "_law_n"] (sp_law_judged_row K g) := by
  refine F.ok sc_law_judged_row (fun vs H Q E h => ?_) (fun cdv A outer s H vs Q E hr h => ?_)
  · obtain ⟨m, S, R, n, rfl, _⟩ := h
    rfl
  obtain ⟨m, S, R, n, rfl, M, wf, hlen, RT, q⟩ := h
  refine ⟨_, (
(@pss_cons _ _ _ _ _ (@ps_set _ _ (2) _ _ _ _ sc_law_judged_row.nd rfl (Or.inl rfl) (@pe_fn _ _ _ _ _ _ _ _ _ _ D_law_needs (hr.mono (by decide)) (@pa_cons _ _ _ _ _ (@qv _ 0 _ _ (by walk_at "w")) (@pa_cons _ _ _ _ _ (@pe_op _ _ _ _ _ _ _ _ (@op_fdiv _) (@qv _ 1 _ _ (by walk_at "w")) (@pe_int _ _ _ _)) (@pa_cons _ _ _ _ _ (@pe_ix _ _ _ _ _ _ _ (@ix_list _) (@pe_lst _ _ _ _ (@pa_cons _ _ _ _ _ (@pe_int _ _ _ _) (@pa_cons _ _ _ _ _ (@pe_int _ _ _ _) (@pa_cons _ _ _ _ _ (@pe_int _ _ _ _) (@pa_nil _) (by rfl)) (by rfl)) (by rfl))) (@pe_op _ _ _ _ _ _ _ _ (@op_mod _) (@pe_op _ _ _ _ _ _ _ _ (@op_fdiv _) (@qv _ 1 _ _ (by walk_at "w")) (@pe_int _ _ _ _)) (@pe_int _ _ _ _)) (fun _ _ => rfl)) (@pa_nil _) (by rfl)) (by rfl)) (by rfl)) (by rfl) (by decide) (by rfl) (by rfl)) (by rfl) (by walk_at "u")) (@pss_one _ _ _ (@ps_ret _ _ _ _ (@pe_tup _ _ _ _ _ (@pa_cons _ _ _ _ _ (@pe_fn _ _ _ _ _ _ _ _ _ _ D_law_holder (hr.mono (by decide)) (@pa_cons _ _ _ _ _ (@qv _ 0 _ _ (by walk_at "w")) (@pa_cons _ _ _ _ _ (@pe_op _ _ _ _ _ _ _ _ (@op_fdiv _) (@qv _ 1 _ _ (by walk_at "w")) (@pe_int _ _ _ _)) (@pa_nil _) (by rfl)) (by rfl)) (by rfl) (by decide) (by rfl) (by rfl)) (@pa_cons _ _ _ _ _ (@pe_lc _ _ _ ("_law_atom_here") _ _ _ ([("_law_n", s.heap.objs.size + 1)]) _ ([("_law_n", 1)]) _ _ _ rfl (@pi_list _ _ _ _ (@qv _ 2 _ _ (by walk_at "w"))) (fun _ _ _ _ _ => (@pifs_one _ _ _ (@PW.pt _ _ _ (@pw_or _ _ _ _ _ _ _ (@pt_cmpR _ _ _ _ _ _ _ _ (@op_ne _) (@pe_ix _ _ _ _ _ _ _ (show IxR _ (rIxT K) from (@ix_tup _)) (@qv _ 0 _ _ (by walk_at "w")) (@pe_int _ _ _ _) (fun _ _ => rfl)) (@pe_str _ _ _ _) (nomark _)) (@pw_or1 _ _ _ _ (@pt_cmpR _ _ _ _ _ _ _ _ (@op_eq _) (@pe_op _ _ _ _ _ _ _ _ (@op_mod _) (@qv _ 1 _ _ (by walk_at "w")) (@pe_int _ _ _ _)) (@pe_int _ _ _ _) (nomark _))))))) (fun _ _ _ _ _ => (@qv _ 0 _ _ (by walk_at "w"))) rfl (by decide +kernel) rfl (by decide +kernel) rfl (fun _ _ h => h) (has_of rfl) (fun p hp => by rw [List.mem_singleton.mp hp]; exact ⟨rfl, rfl, by first | exact .inl rfl | exact .inr rfl⟩) (by decide +kernel) (by intro _ ; rfl)) (@pa_nil _) (by rfl)) (by rfl))))))), ?_⟩
  walk_at "go"
  intro l1 hl1
  have s1 := same_new hl1 (.lst [V.int 4, .int 4, .int 6])
  obtain ⟨v, hv⟩ := atI_in (xs := [V.int 4, .int 4, .int 6]) (Int.emod_nonneg (n / 7) (show (3 : Int) ≠ 0 by decide)) (Int.emod_lt_of_pos (n / 7) (show (0 : Int) < 3 by decide))
  obtain ⟨k, rfl, k0, k6⟩ : ∃ k : Int, v = .int k ∧ 0 ≤ k ∧ k ≤ 6 := by
    unfold atI at hv
    obtain ⟨j, _, e⟩ := Option.bind_eq_some_iff.mp hv
    have hm := List.mem_of_getElem? e
    simp only [List.mem_cons, List.mem_nil_iff, or_false] at hm
    rcases hm with e | e | e <;> exact ⟨_, e, by decide, by decide⟩
  have M1 := M.same s1
  have k100 : k ≤ 100 := by omega
  walk_at "go"
  intro l2 ts ps H2 s2 fl2 A2 ok2 hl2
  have M2 := M1.same s2
  refine ⟨_, rfl, _, rfl, _, _, rfl, rfl, ⟨by decide, by decide⟩, m, S, R, _, rfl, M2, wf, hlen, RT, fun h p H3 s3 f3 h3 oh => ?_⟩
  unfold tCons
  have A3 := A2.same s3
  have tl : ts.length ≤ 6 := by omega
  refine lcLT (xs := ps.map V.ref) (fun a H1 => a = l2 ∧ H1 = H3) ?_ ?_ (by rw [List.length_map, A3.len]; omega) (fun i => match ts[i]? with | some (.comes _) => decide (n % 3 = 0) | _ => true) (fun _ _ _ v H2 => ∃ p t, v = V.ref p ∧ H2 p = some (.tup (Atm.vals t)) ∧ t.ok S ∧ True) ?_ ?_ ?_ ?_
  · exact fun R0 r => ⟨_, rfl, r l2 H3 ⟨rfl, rfl⟩⟩
  · rintro a H1 ⟨rfl, rfl⟩
    exact SqL.of A3.lst
  · rintro a H1 i v H H' D ys hD kk ⟨p, t, rfl, hp, o, _⟩
    exact ⟨p, t, rfl, kk.1 _ _ (fun z => by rw [List.mem_singleton.mp z, hD] at hp; cases hp) hp, o, trivial⟩
  · rintro a H1 i x H4 ⟨rfl, rfl⟩ hx s R0 r
    obtain ⟨p2, t, rfl, ht, hp2⟩ := (A3.same s).at' hx
    rw [ht] at r
    cases t with
    | comes c =>
      walk_at "go"
      have z := r H4 (Same.refl _)
      rw [show decide (n % 3 = 0) = decide (V.int (n % 3) = V.int 0) from (int_dec _ _).symm] at z
      exact z
    | born c =>
      walk_at "go"
      exact ifNeN (by decide +kernel) (r H4 (Same.refl _))
    | dead c =>
      walk_at "go"
      exact ifNeN (by decide +kernel) (r H4 (Same.refl _))
    | year c =>
      walk_at "go"
      exact ifNeN (by decide +kernel) (r H4 (Same.refl _))
    | age c b =>
      walk_at "go"
      exact ifNeN (by decide +kernel) (r H4 (Same.refl _))
  · rintro a H1 i x H4 ⟨rfl, rfl⟩ hx hf s R0 r
    obtain ⟨p2, t, rfl, ht, hp2⟩ := (A3.same s).at' hx
    exact ⟨_, rfl, r _ H4 (Same.refl _) ⟨p2, t, rfl, hp2, ok2 t (List.mem_of_getElem? ht), trivial⟩⟩
  rintro a1 H1 D ys H4 ⟨rfl, rfl⟩ hD s4 h4 hpd
  obtain ⟨ts', ps', A4, ok4, _, hl4⟩ := atms_of (fr := fun _ => True) h4 hpd
  have tl4 : ts'.length ≤ 6 := by
    have z := List.length_filter_le (fun i => match ts[i]? with | some (.comes _) => decide (n % 3 = 0) | _ => true) (List.range (ps.map V.ref).length)
    rw [List.length_range, List.length_map, A3.len] at z
    have e : ts'.length = (List.filter (fun i => match ts[i]? with | some (.comes _) => decide (n % 3 = 0) | _ => true) (List.range (ps.map V.ref).length)).length := hl4
    rw [List.length_map, A3.len] at e
    omega
  walk_at "go"
  intro r hr
  have sr := same_new hr (.tup [V.ref p, V.ref D])
  exact q h ts' ps' r p D _ (((((s1.trans s2).trans s3).trans s4)).trans sr) upd_same (sr _ _ (s4 _ _ h3)) oh (A4.same sr) ok4 tl4
theorem ok_law {f : Addr} {fd : FuncData} (F : Fun K "law" "law" s_law f fd) (T : Txt K g mg) (D_law_rich : Dn P w0 K mg base 1 "_law_rich" ["_law_cell", "_law_place"] (sp_law_rich K g)) (D_law_model : Dn P w0 K mg base 1 "_law_model" ["_law_year"] (sp_law_model K g)) (D_law_start : Dn P w0 K mg base 2 "_law_start" ["_law_n"] (sp_law_start K g)) (D_law_cell_at : Dn P w0 K mg base 1 "_law_cell_at" ["_law_script", "_law_k"] (sp_law_cell_at K g)) (D_law_do : Dn P w0 K mg base 6 "_law_do" ["_law_world", "_law_deed"] (sp_law_do K g)) (D_law_play : Dn P w0 K mg base 2 "_law_play" ["_law_model_here", "_law_deed"] (sp_law_play K g)) (D_law_judged_row : Dn P w0 K mg base 4 "_law_judged_row" ["_law_model_here", "_law_n"] (sp_law_judged_row K g)) (D_law_out : Dn P w0 K mg base 2 "_law_out" ["_law_model_here", "_law_holder_here"] (sp_law_out K g)) (D_law_next_deed : Dn P w0 K mg base 2 "_law_next_deed" ["_law_model_here", "_law_n", "_law_far"] (sp_law_next_deed K g)) (D_law_whole : Dn P w0 K mg base 5 "_law_whole" ["_law_model_here", "_law_holder_here", "_law_atoms", "_law_out_here"] (sp_law_whole K g)) (D_first_end : Dn P w0 K mg base 8 "first_end" ["world", "holder", "atoms"] (sp_first_end K g)) (D_law_num : Dn P w0 K mg base 1 "_law_num" ["_law_found"] (sp_law_num K g)) (D_law_first_end : Dn P w0 K mg base 4 "_law_first_end" ["_law_model_here", "_law_holder_here", "_law_atoms", "_law_out_here"] (sp_law_first_end K g)) (K_World : Dk P w0 K mg base (CXR P w0 base) g.World 3 "World" ["self", "year"] (sp_World___init__ K g)) : FnOk P w0 K mg base CX0 9 f fd ["_law_script"] (sp_law K g) := by
  refine F.ok sc_law (fun vs H Q E h => ?_) (fun cdv A outer s H vs Q E hr h => ?_)
  · obtain ⟨a, ns, rfl, _⟩ := h
    rfl
  obtain ⟨a, ns, rfl, hS, hlen, q⟩ := h
  have turn : PSs (cxOf CX0 P w0 K mg base ["_law_script", "_law_n", "_law_model_here", "_law_world", "_law_deeds", "_law_k", "_law_m", "_law_deed", "_law_holder_here", "_law_atoms", "_law_out_here", "_law_found"] "law" (defScope s_law) f cdv A outer s H E).nox ((forBody ((defBody s_law).getD 4 (.Pass ⟨0, 0, 0, 0⟩))).drop 2) (fun D σ H9 => ∃ (a m w l : Addr) (n kk mm : Int) (S : Mo) (R RM : List Addr) (i : Nat) (p : Addr) (d : Deed) (v8 v9 v10 v11 : Option V), σ = [some (.ref a), some (.int n), some (.ref m), some (.ref w), some (.ref l), some (.int kk), some (.int mm), some (.ref p), v8, v9, v10, v11] ∧ WorldAt g H9 w S R ∧ MoAt H9 m S RM ∧ Dj RM R ∧ S.Ok i ∧ i < 90 ∧ kk = 0 + (i : Int) ∧ H9 p = some (.tup d.vals) ∧ S.good 25 d ∧ Root (S.step d) ∧ ∀ R' H' v5 v6 v7 v8 v9 v10 v11, Keep (R ++ RM) H9 H' → Grow H9 R R' → WorldAt g H' w (S.step d) R' → MoAt H' m (S.step d) RM → Dj RM R' → D.nx [some (.ref a), some (.int n), some (.ref m), some (.ref w), some (.ref l), v5, v6, v7, v8, v9, v10, v11] H') := by
    refine @PSs_imp _ _ _ _ ((@pss_cons _ _ _ _ _ (@ps_expr _ _ _ _ (@pe_fn _ _ _ _ _ _ _ _ _ _ D_law_do (hr.mono (by decide)) (@pa_cons _ _ _ _ _ (@qv _ 3 _ _ (by walk_at "w")) (@pa_cons _ _ _ _ _ (@qv _ 7 _ _ (by walk_at "w")) (@pa_nil _) (by rfl)) (by rfl)) (by rfl) (by decide) (by rfl) (by rfl)) (by rfl)) (@pss_cons _ _ _ _ _ (@ps_expr _ _ _ _ (@pe_fn _ _ _ _ _ _ _ _ _ _ D_law_play (hr.mono (by decide)) (@pa_cons _ _ _ _ _ (@qv _ 2 _ _ (by walk_at "w")) (@pa_cons _ _ _ _ _ (@qv _ 7 _ _ (by walk_at "w")) (@pa_nil _) (by rfl)) (by rfl)) (by rfl) (by decide) (by rfl) (by rfl)) (by rfl)) (@pss_cons _ _ _ _ _ (@ps_asg _ _ _ _ _ _ (@pe_fn _ _ _ _ _ _ _ _ _ _ D_law_judged_row (hr.mono (by decide)) (@pa_cons _ _ _ _ _ (@qv _ 2 _ _ (by walk_at "w")) (@pa_cons _ _ _ _ _ (@pe_fn _ _ _ _ _ _ _ _ _ _ D_law_rich (hr.mono (by decide)) (@pa_cons _ _ _ _ _ (@pe_op _ _ _ _ _ _ _ _ (@op_mod _) (@qv _ 6 _ _ (by walk_at "w")) (@pe_int _ _ _ _)) (@pa_cons _ _ _ _ _ (@pe_op _ _ _ _ _ _ _ _ (@op_add _) (@qv _ 5 _ _ (by walk_at "w")) (@pe_int _ _ _ _)) (@pa_nil _) (by rfl)) (by rfl)) (by rfl) (by decide) (by rfl) (by rfl)) (@pa_nil _) (by rfl)) (by rfl)) (by rfl) (by decide) (by rfl) (by rfl)) (@pg_tup _ _ _ _ _ _ rfl (@pgs_cons _ _ _ _ _ (@pg_name _ _ (8) _ sc_law.nd rfl (Or.inl rfl) (by walk_at "u")) (@pgs_cons _ _ _ _ _ (@pg_name _ _ (9) _ sc_law.nd rfl (Or.inl rfl) (by walk_at "u")) (@pgs_nil _) (by rfl)) (by rfl)) (by rfl) (by rfl)) (by rfl) (by rfl) (by rfl)) (@pss_cons _ _ _ _ _ (@ps_set _ _ (10) _ _ _ _ sc_law.nd rfl (Or.inl rfl) (@pe_fn _ _ _ _ _ _ _ _ _ _ D_law_out (hr.mono (by decide)) (@pa_cons _ _ _ _ _ (@qv _ 2 _ _ (by walk_at "w")) (@pa_cons _ _ _ _ _ (@qv _ 8 _ _ (by walk_at "w")) (@pa_nil _) (by rfl)) (by rfl)) (by rfl) (by decide) (by rfl) (by rfl)) (by rfl) (by walk_at "u")) (@pss_one _ _ _ (@ps_if _ _ _ _ _ _ _ _ (@pt_cmpR _ _ _ _ _ _ _ _ (@op_eq _) (@pe_fn _ _ _ _ _ _ _ _ _ _ D_law_whole (hr.mono (by decide)) (@pa_cons _ _ _ _ _ (@qv _ 2 _ _ (by walk_at "w")) (@pa_cons _ _ _ _ _ (@qv _ 8 _ _ (by walk_at "w")) (@pa_cons _ _ _ _ _ (@qv _ 9 _ _ (by walk_at "w")) (@pa_cons _ _ _ _ _ (@qv _ 10 _ _ (by walk_at "w")) (@pa_nil _) (by rfl)) (by rfl)) (by rfl)) (by rfl)) (by rfl) (by decide) (by rfl) (by rfl)) (@pe_str _ _ _ _) (nomark _)) (@pss_cons _ _ _ _ _ (@ps_set _ _ (11) _ _ _ _ sc_law.nd rfl (Or.inl rfl) (@pe_fn _ _ _ _ _ _ _ _ _ _ D_first_end (hr.mono (by decide)) (@pa_cons _ _ _ _ _ (@qv _ 3 _ _ (by walk_at "w")) (@pa_cons _ _ _ _ _ (@qv _ 8 _ _ (by walk_at "w")) (@pa_cons _ _ _ _ _ (@pe_callTy _ _ _ _ _ _ _ _ _ (show CallR _ (.type "list") (rListS K) from (@call_listS _)) rfl T.z_list PyProof.Rows.boot_list (@pa_cons _ _ _ _ _ (@qv _ 9 _ _ (by walk_at "w")) (@pa_nil _) (by rfl)) (by decide) (by decide) (by rfl) (by rfl)) (@pa_nil _) (by rfl)) (by rfl)) (by rfl)) (by rfl) (by decide) (by rfl) (by rfl)) (by rfl) (by walk_at "u")) (@pss_one _ _ _ (@ps_if _ _ _ _ _ _ _ _ (@PW.pt _ _ _ (@pw_or _ _ _ _ _ _ _ (@pt_not _ _ _ _ (@pt_val _ _ _ (@pe_fn _ _ _ _ _ _ _ _ _ _ D_law_num (hr.mono (by decide)) (@pa_cons _ _ _ _ _ (@qv _ 11 _ _ (by walk_at "w")) (@pa_nil _) (by rfl)) (by rfl) (by decide) (by rfl) (by rfl)) (by intro _ ; rfl))) (@pw_or1 _ _ _ _ (@pt_cmpR _ _ _ _ _ _ _ _ (@op_ne _) (@qv _ 11 _ _ (by walk_at "w")) (@pe_fn _ _ _ _ _ _ _ _ _ _ D_law_first_end (hr.mono (by decide)) (@pa_cons _ _ _ _ _ (@qv _ 2 _ _ (by walk_at "w")) (@pa_cons _ _ _ _ _ (@qv _ 8 _ _ (by walk_at "w")) (@pa_cons _ _ _ _ _ (@qv _ 9 _ _ (by walk_at "w")) (@pa_cons _ _ _ _ _ (@qv _ 10 _ _ (by walk_at "w")) (@pa_nil _) (by rfl)) (by rfl)) (by rfl)) (by rfl)) (by rfl) (by decide) (by rfl) (by rfl)) (nomark _))))) (@pss_one _ _ _ (@ps_ret _ _ _ _ (@pe_bl _ _ _ _))) (@pss_nil _)))) (@pss_nil _)))))))) ?_
    rintro D σ H9 ⟨a, m, w, l, n, kk, mm, S, R, RM, i, p, d, v8, v9, v10, v11, rfl, W, M, dj, O, hi, hkk, hp, hg, rt, qn⟩
    refine ⟨_, rfl, _, rfl, w, S, R, p, d, 25, i, rfl, W, hp, O, by omega, hg, by decide, fun v R1 H1 k1 gr W1 => ?_⟩
    have hp1 := k1.1 p _ (W.no_tup hp) hp
    refine ⟨_, rfl, _, rfl, m, S, RM, p, d, 25, i, rfl, M.keep k1 dj, hp1, O, by omega, hg, fun H2 k2 M2 => ?_⟩
    have dj1 : Dj RM R1 := dj.grow M.live gr
    have O2 := O.step hg (by omega)
    have W2 := W1.keep k2 dj1.symm
    have kA : Keep (R ++ RM) H9 H2 := (k1.wide (fun x hx => List.mem_append_left _ hx)).tr k2 (fun x hx => .inl (List.mem_append_right _ hx))
    have lb2 := O2.lb
    have fin : ∀ H', Same H2 H' → ∀ v5 v6 v7 v8 v9 v10 v11, D.nx [some (.ref a), some (.int n), some (.ref m), some (.ref w), some (.ref l), v5, v6, v7, v8, v9, v10, v11] H' := fun H' s v5 v6 v7 v8 v9 v10 v11 => qn R1 H' v5 v6 v7 v8 v9 v10 v11 (kA.same s) gr (W2.same s) (M2.same s) dj1
    clear qn kA
    generalize hSd : S.step d = S2 at *
    clear M W hSd k1 k2 hg hp1 gr O hp W1
    have wf2 := O2.wf
    have lb98 : S2.bs.length ≤ 98 := by omega
    walk_at "go"
    intro r9
    walk_at "go"
    intro h ts ps r2 p2 l2 H3 s3 hr2 hp2 oh A3 ok3 tl3
    have W3 := W2.same s3
    have M3 := M2.same s3
    walk_at "go"
    intro o H4 s4 fo ho
    have W4 := W3.same s4
    have M4 := M3.same s4
    have hp4 := s4 _ _ hp2
    have A4 := A3.same s4
    have tl100 : ts.length ≤ 100 := by omega
    walk_at "go"
    intro s H5 s5
    have W5 := W4.same s5
    have M5 := M4.same s5
    have hp5 := s5 _ _ hp4
    have A5 := A4.same s5
    have ho5 := s5 _ _ ho
    walk_at "go"
    have s35 := s3.trans (s4.trans s5)
    refine ite2 (fun c => ?_) (fun c => ?_)
    · refine ⟨_, rfl, _, rfl, _, rfl, l2, _, rfl, .inl (SqL.of A5.lst), fun l6 hl6 => ?_⟩
      have s6 := same_new hl6 (.lst (ps.map V.ref))
      have A6 := (A5.same s6).copy (l' := l6) upd_same
      generalize upd H5 l6 (.lst (ps.map V.ref)) = H6 at *
      refine ⟨w, S2, R1, p2, l6, h, ts, ps, rfl, W5.same s6, lb98, s6 _ _ hp5, A6, oh, ok3, tl100, fun F H7 hF s7 => ?_⟩
      have s67 := s6.trans s7
      have M7 := M5.same s67
      have A7 := A5.same s67
      have hp7 := s67 _ _ hp5
      have ho7 := s67 _ _ ho5
      walk_at "go"
      intro F2 H8 hF2 s8
      obtain rfl := hF.uniq hF2
      walk_at "go"
      refine ifEqN ?_
      exact fin _ ((s35.trans s67).trans s8) _ _ _ _ _ _ _
    · exact fin _ s35 _ _ _ _ _ _ _
  have rest : PSs (cxOf CX0 P w0 K mg base ["_law_script", "_law_n", "_law_model_here", "_law_world", "_law_deeds", "_law_k", "_law_m", "_law_deed", "_law_holder_here", "_law_atoms", "_law_out_here", "_law_found"] "law" (defScope s_law) f cdv A outer s H E).nox ((defBody s_law).drop 5) (fun D σ H1 => ∃ (a m w : Addr) (n : Int) (S : Mo) (R RM : List Addr) (i : Nat) (v4 v5 v6 v7 v8 v9 v10 v11 : Option V), σ = [some (.ref a), some (.int n), some (.ref m), some (.ref w), v4, v5, v6, v7, v8, v9, v10, v11] ∧ WorldAt g H1 w S R ∧ MoAt H1 m S RM ∧ S.Ok i ∧ i < 90 ∧ ∀ H', D.rt (.bl true) H') := by
    refine @PSs_imp _ _ _ _ ((@pss_one _ _ _ (@ps_ret _ _ _ _ (@pe_bl _ _ _ _)))) ?_
    rintro D σ H1 ⟨a, m, w, n, S, R, RM, i, v4, v5, v6, v7, v8, v9, v10, v11, rfl, W, M, O, hi, q⟩
    exact q H1
  refine ⟨_, (@pss_cons _ _ _ _ _ (@ps_set _ _ (1) _ _ _ _ sc_law.nd rfl (Or.inl rfl) (@pe_fn _ _ _ _ _ _ _ _ _ _ D_law_rich (hr.mono (by decide)) (@pa_cons _ _ _ _ _ (@pe_fn _ _ _ _ _ _ _ _ _ _ D_law_cell_at (hr.mono (by decide)) (@pa_cons _ _ _ _ _ (@qv _ 0 _ _ (by walk_at "w")) (@pa_cons _ _ _ _ _ (@pe_int _ _ _ _) (@pa_nil _) (by rfl)) (by rfl)) (by rfl) (by decide) (by rfl) (by rfl)) (@pa_cons _ _ _ _ _ (@pe_int _ _ _ _) (@pa_nil _) (by rfl)) (by rfl)) (by rfl) (by decide) (by rfl) (by rfl)) (by rfl) (by walk_at "u")) (@pss_cons _ _ _ _ _ (@ps_set _ _ (2) _ _ _ _ sc_law.nd rfl (Or.inl rfl) (@pe_fn _ _ _ _ _ _ _ _ _ _ D_law_model (hr.mono (by decide)) (@pa_cons _ _ _ _ _ (@pe_op _ _ _ _ _ _ _ _ (@op_mod _) (@qv _ 1 _ _ (by walk_at "w")) (@pe_int _ _ _ _)) (@pa_nil _) (by rfl)) (by rfl) (by decide) (by rfl) (by rfl)) (by rfl) (by walk_at "u")) (@pss_cons _ _ _ _ _ (@ps_set _ _ (3) _ _ _ _ sc_law.nd rfl (Or.inl rfl) (@pe_mk _ _ _ _ _ _ _ _ _ _ _ _ _ passF K_World (hr.mono (by decide)) rfl (@pa_cons _ _ _ _ _ (@pe_ix _ _ _ _ _ _ _ (@ix_list _) (@pe_ix _ _ _ _ _ _ _ (@ix_tup _) (@qv _ 2 _ _ (by walk_at "w")) (@pe_int _ _ _ _) (fun _ _ => rfl)) (@pe_int _ _ _ _) (fun _ _ => rfl)) (@pa_nil _) (by rfl)) (by decide) (by rfl) (by rfl)) (by rfl) (by walk_at "u")) (@pss_cons _ _ _ _ _ (@ps_set _ _ (4) _ _ _ _ sc_law.nd rfl (Or.inl rfl) (@pe_fn _ _ _ _ _ _ _ _ _ _ D_law_start (hr.mono (by decide)) (@pa_cons _ _ _ _ _ (@pe_fn _ _ _ _ _ _ _ _ _ _ D_law_rich (hr.mono (by decide)) (@pa_cons _ _ _ _ _ (@pe_fn _ _ _ _ _ _ _ _ _ _ D_law_cell_at (hr.mono (by decide)) (@pa_cons _ _ _ _ _ (@qv _ 0 _ _ (by walk_at "w")) (@pa_cons _ _ _ _ _ (@pe_int _ _ _ _) (@pa_nil _) (by rfl)) (by rfl)) (by rfl) (by decide) (by rfl) (by rfl)) (@pa_cons _ _ _ _ _ (@pe_int _ _ _ _) (@pa_nil _) (by rfl)) (by rfl)) (by rfl) (by decide) (by rfl) (by rfl)) (@pa_nil _) (by rfl)) (by rfl) (by decide) (by rfl) (by rfl)) (by rfl) (by walk_at "u")) (@pss_cons _ _ _ _ _ (@ps_for _ _ _ _ _ _ _ _ PassesOwn.never rfl (@pi_range1 _ _ _ _ _ _ rfl T.z_range (@pa_cons _ _ _ _ _ (@pe_op _ _ _ _ _ _ _ _ (@op_add _) (@pe_callB _ _ _ _ _ _ _ _ _ (@call_len _) rfl T.z_len PySem.boot_len (@pa_cons _ _ _ _ _ (@qv _ 4 _ _ (by walk_at "w")) (@pa_nil _) (by rfl)) (by decide) (by decide) (by rfl) (by rfl)) (@pe_callB _ _ _ _ _ _ _ _ _ (@call_min2 _ rfl) rfl T.z_min PyProof.Rows.boot_min (@pa_cons _ _ _ _ _ (@pe_int _ _ _ _) (@pa_cons _ _ _ _ _ (@pe_callB _ _ _ _ _ _ _ _ _ (@call_max2 _ rfl) rfl T.z_max PyProof.Rows.boot_max (@pa_cons _ _ _ _ _ (@pe_int _ _ _ _) (@pa_cons _ _ _ _ _ (@pe_op _ _ _ _ _ _ _ _ (@op_sub _) (@pe_callB _ _ _ _ _ _ _ _ _ (@call_len _) rfl T.z_len PySem.boot_len (@pa_cons _ _ _ _ _ (@qv _ 0 _ _ (by walk_at "w")) (@pa_nil _) (by rfl)) (by decide) (by decide) (by rfl) (by rfl)) (@pe_int _ _ _ _)) (@pa_nil _) (by rfl)) (by rfl)) (by decide) (by decide) (by rfl) (by rfl)) (@pa_nil _) (by rfl)) (by rfl)) (by decide) (by decide) (by rfl) (by rfl))) (@pa_nil _) (by rfl)) (by rfl)) (@pg_name _ _ (5) _ sc_law.nd rfl (Or.inl rfl) (by walk_at "u")) (@pss_cons _ _ _ _ _ (@ps_set _ _ (6) _ _ _ _ sc_law.nd rfl (Or.inl rfl) (@pe_fn _ _ _ _ _ _ _ _ _ _ D_law_rich (hr.mono (by decide)) (@pa_cons _ _ _ _ _ (@pe_fn _ _ _ _ _ _ _ _ _ _ D_law_cell_at (hr.mono (by decide)) (@pa_cons _ _ _ _ _ (@qv _ 0 _ _ (by walk_at "w")) (@pa_cons _ _ _ _ _ (@pe_op _ _ _ _ _ _ _ _ (@op_add _) (@pe_int _ _ _ _) (@pe_callB _ _ _ _ _ _ _ _ _ (@call_max2 _ rfl) rfl T.z_max PyProof.Rows.boot_max (@pa_cons _ _ _ _ _ (@pe_int _ _ _ _) (@pa_cons _ _ _ _ _ (@pe_op _ _ _ _ _ _ _ _ (@op_sub _) (@qv _ 5 _ _ (by walk_at "w")) (@pe_callB _ _ _ _ _ _ _ _ _ (@call_len _) rfl T.z_len PySem.boot_len (@pa_cons _ _ _ _ _ (@qv _ 4 _ _ (by walk_at "w")) (@pa_nil _) (by rfl)) (by decide) (by decide) (by rfl) (by rfl))) (@pa_nil _) (by rfl)) (by rfl)) (by decide) (by decide) (by rfl) (by rfl))) (@pa_nil _) (by rfl)) (by rfl)) (by rfl) (by decide) (by rfl) (by rfl)) (@pa_cons _ _ _ _ _ (@qv _ 5 _ _ (by walk_at "w")) (@pa_nil _) (by rfl)) (by rfl)) (by rfl) (by decide) (by rfl) (by rfl)) (by rfl) (by walk_at "u")) (@pss_cons _ _ _ _ _ (@ps_if _ _ _ _ _ _ _ _ (@pt_cmpR _ _ _ _ _ _ _ _ (@op_lt _) (@qv _ 5 _ _ (by walk_at "w")) (@pe_callB _ _ _ _ _ _ _ _ _ (@call_len _) rfl T.z_len PySem.boot_len (@pa_cons _ _ _ _ _ (@qv _ 4 _ _ (by walk_at "w")) (@pa_nil _) (by rfl)) (by decide) (by decide) (by rfl) (by rfl)) (nomark _)) (@pss_one _ _ _ (@ps_set _ _ (7) _ _ _ _ sc_law.nd rfl (Or.inl rfl) (@pe_ix _ _ _ _ _ _ _ (@ix_list _) (@qv _ 4 _ _ (by walk_at "w")) (@qv _ 5 _ _ (by walk_at "w")) (fun _ _ => rfl)) (by rfl) (by walk_at "u"))) (@pss_one _ _ _ (@ps_set _ _ (7) _ _ _ _ sc_law.nd rfl (Or.inl rfl) (@pe_fn _ _ _ _ _ _ _ _ _ _ D_law_next_deed (hr.mono (by decide)) (@pa_cons _ _ _ _ _ (@qv _ 2 _ _ (by walk_at "w")) (@pa_cons _ _ _ _ _ (@qv _ 6 _ _ (by walk_at "w")) (@pa_cons _ _ _ _ _ (@pe_int _ _ _ _) (@pa_nil _) (by rfl)) (by rfl)) (by rfl)) (by rfl) (by decide) (by rfl) (by rfl)) (by rfl) (by walk_at "u")))) @turn)) (by intro _ ; rfl)) @rest))))), ?_⟩
  refine ⟨_, rfl, a, ns, 0, rfl, hS, by decide, fun c0 => ⟨c0, 1, rfl, fun n => ⟨_, rfl, _, _, rfl, rfl, (by show (0 : Int) < 3000; decide), _, rfl, fun m RM H1 s1 fM M => ?_⟩⟩⟩
  have z0 := Int.emod_nonneg n (show (3000 : Int) ≠ 0 by decide)
  have z1 := Int.emod_lt_of_pos n (show (0 : Int) < 3000 by decide)
  obtain ⟨c, e1, e2, e3, BM⟩ := M.tup_of
  refine ⟨_, rfl, m, _, _, _, rfl, rfl, SqT.of BM.tup, rfl, c, _, _, _, rfl, rfl, SqL.of BM.clk, rfl, ?_⟩
  intro w dxl nb ndx nex
  refine ⟨w, dxl, _, rfl, upd_same, (fun e => absurd ⟨z0, by show n % 3000 ≤ 9999; omega⟩ e), fun _ R0 H2 kp fr W => ⟨rfl, ?_⟩⟩
  have s12 := made nb ndx kp
  have fR : ∀ x ∈ R0, H1 x = none := fun x hx => (fr x hx).elim (fun e => by rw [e]; exact nb) made_free
  have s02 := s1.trans s12
  refine ⟨_, rfl, a, ns, 1, rfl, s02.seq hS, by decide, fun c1 => ⟨c1, 2, rfl, fun r1 => ⟨r1, rfl, fun l was ps H3 s23 fl FF hne DD => ?_⟩⟩⟩
  have W3 := W.same s23
  have M3 := (M.same s12).same s23
  have dMR : Dj RM R0 := M.live.dj fR
  have s03 := s02.trans s23
  obtain ⟨X, hX⟩ : ∃ X, X = R0 ++ RM := ⟨_, rfl⟩
  have fX : ∀ x ∈ X, H x = none := fun x hx => by
    rw [hX] at hx
    rcases List.mem_append.mp hx with hx | hx
    · exact s1.free (fR x hx)
    · exact fM x hx
  have dX : Dj (l :: ps) X := fun x hx hx2 => by
    have z := fl x hx
    rw [hX] at hx2
    rcases List.mem_append.mp hx2 with h2 | h2
    · obtain ⟨o, e⟩ := W.live x h2; rw [z] at e; cases e
    · obtain ⟨o, e⟩ := (M.same s12).live x h2; rw [z] at e; cases e
  have pl : ps.length = was.length := by rw [DD.len, List.length_map]
  refine ⟨_, rfl, _, _, rfl, .inl ⟨_, SqL.of DD.lst, rfl⟩, _, rfl, _, _, rfl, .inl ⟨_, s03.seq hS, rfl⟩, _, _, rfl, rfl, _, _, rfl, _, _, rfl, _, _, rfl, rfl, ?_⟩
  obtain ⟨t, ht, ht16⟩ : ∃ t : Nat, (if (if ((ns.map V.int).length : Int) - 2 > 0 then ((ns.map V.int).length : Int) - 2 else 0) < 20 then (if ((ns.map V.int).length : Int) - 2 > 0 then ((ns.map V.int).length : Int) - 2 else 0) else 20) = (t : Int) ∧ t ≤ 20 := by
    refine ⟨(if (if ((ns.map V.int).length : Int) - 2 > 0 then ((ns.map V.int).length : Int) - 2 else 0) < 20 then (if ((ns.map V.int).length : Int) - 2 > 0 then ((ns.map V.int).length : Int) - 2 else 0) else 20).toNat, ?_, ?_⟩ <;> split <;> split <;> omega
  rw [ht]
  have hl3w := FF.len
  have e2 : (((ps.map V.ref).length : Nat) : Int) + (t : Int) = ((was.length + t : Nat) : Int) := by rw [List.length_map, pl]; omega
  refine ⟨_, rfl, by rw [e2]; omega, by rw [e2]; omega, ?_⟩
  rw [e2]
  have hwpos : 0 < was.length := by cases was with | nil => exact absurd rfl hne | cons x r => simp
  refine for_range (n := was.length + t) (fun i σ H2 => ∃ (S : Mo) (R : List Addr) (v5 v6 v7 v8 v9 v10 v11 : Option V), σ = [some (.ref a), some (.int n), some (.ref m), some (.ref w), some (.ref l), v5, v6, v7, v8, v9, v10, v11] ∧ Keep X H3 H2 ∧ WorldAt g H2 w S R ∧ MoAt H2 m S RM ∧ Dj RM R ∧ Grow H3 X R ∧ S.Ok i ∧ (i ≤ was.length → S.bs.map (·.1) = (was.take i).map (·.1)) ∧ (0 < i → Root S)) ?_ ?_ ?_
  · exact ⟨mo0 _, R0, none, none, none, none, none, none, none, rfl, Keep.refl _ _, W3, M3, dMR, fun x hx => .inl (by rw [hX]; exact List.mem_append_left _ hx), Mo.Ok.zero _, fun _ => rfl, fun z => absurd z (Nat.lt_irrefl 0)⟩
  · rintro i σ H8 hi ⟨S, R, v5, v6, v7, v8, v9, v10, v11, rfl, K8, W8, M8, dj, gX, O, hw, rt⟩
    have s08 : Same H H8 := s03.keep K8 fX
    have D8 := DD.keep K8 dX
    have i27 : i < 28 := by omega
    have ik : (0 : Int) ≤ 2 + (if (0 : Int) + (i : Int) - (((ps.map V.ref).length : Nat) : Int) > 0 then (0 : Int) + (i : Int) - (((ps.map V.ref).length : Nat) : Int) else 0) := by split <;> omega
    refine ⟨_, rfl, _, rfl, _, rfl, _, _, rfl, .inl ⟨_, SqL.of D8.lst, rfl⟩, _, _, rfl, rfl, _, _, rfl, _, _, rfl, rfl, a, ns, _, rfl, s08.seq hS, ik, fun c2 => ⟨_, rfl, c2, _, rfl, fun n2 => ?_⟩⟩
    refine ⟨_, rfl, _, rfl, _, _, rfl, .inl ⟨_, SqL.of D8.lst, rfl⟩, _, _, rfl, rfl, _, rfl, ite2 (fun c => ?_) (fun c => ?_)⟩
    · have ci : i < was.length := by have z := of_decide_eq_true c; rw [List.length_map, pl] at z; omega
      have hpi : ps[i]? = some (ps[i]'(by omega)) := List.getElem?_eq_getElem (by omega)
      have e3 : atI (ps.map V.ref) (0 + (i : Int)) = some (.ref (ps[i]'(by omega))) := by
        rw [Int.zero_add]
        exact atI_nat (by rw [List.getElem?_map, hpi]; rfl)
      refine ⟨_, rfl, _, rfl, l, _, _, _, rfl, rfl, SqL.of D8.lst, e3, ?_⟩
      have hp := D8.at_ i _ (arr was[i]) hpi (by rw [List.getElem?_map, List.getElem?_eq_getElem ci]; rfl)
      obtain ⟨hg, hw2⟩ := FF.good ci (hw (by omega)) (far := 25)
      have rt2 := FF.root hne (Nat.succ_pos i) hw2
      exact ⟨a, m, w, l, n, _, n2, S, R, RM, i, _, _, _, _, _, _, rfl, W8, M8, dj, O, by omega, rfl, hp, hg, rt2, fun R' H' v5 v6 v7 v8 v9 v10 v11 k gr L' M' dj' => ⟨_, R', v5, v6, v7, v8, v9, v10, v11, rfl, K8.tr k (fun x hx => by
        rcases List.mem_append.mp hx with hx | hx
        · exact gX x hx
        · exact .inl (by rw [hX]; exact List.mem_append_right _ hx)), L', M', dj', fun x hx => (gr x hx).elim (gX x) fun z => .inr (K8.2 x z), O.step hg (by omega), fun _ => hw2, fun _ => rt2⟩⟩
    · have ci : was.length ≤ i := by
        have z : ¬ ((0 : Int) + (i : Int) < (((ps.map V.ref).length : Nat) : Int)) := fun w => c (decide_eq_true w)
        rw [List.length_map, pl] at z
        omega
      refine ⟨_, rfl, _, rfl, m, S, RM, n2, 25, rfl, M8, by have := O.lb; omega, by decide, fun d p H9 hg s9 _ hp => ?_⟩
      exact ⟨a, m, w, l, n, _, n2, S, R, RM, i, p, d, _, _, _, _, rfl, W8.same s9, M8.same s9, dj, O, by omega, rfl, hp, hg, (rt (by omega)).step d, fun R' H' v5 v6 v7 v8 v9 v10 v11 k gr L' M' dj' => ⟨_, R', v5, v6, v7, v8, v9, v10, v11, rfl, (K8.same s9).tr k (fun x hx => by
        rcases List.mem_append.mp hx with hx | hx
        · exact gX x hx
        · exact .inl (by rw [hX]; exact List.mem_append_right _ hx)), L', M', dj', fun x hx => (gr x hx).elim (gX x) fun z => .inr (K8.2 x (s9.free z)), O.step hg (by omega), fun z => by omega, fun _ => (rt (by omega)).step d⟩⟩
  · rintro σ H8 ⟨S, R, v5, v6, v7, v8, v9, v10, v11, rfl, K8, W8, M8, dj, gX, O, hw, rt⟩
    exact ⟨a, m, w, n, S, R, RM, was.length + t, _, _, _, _, _, _, _, _, rfl, W8, M8, O, by omega, q⟩
end
theorem all_mk {l : PySem.W.OpenLaw} {w : World} {K : PySem.W.Frag} {h : Heap} {mg : Str → Option Value} {fa : Addr} (X : K.In h) (G : h.Ns mainGlobals mg) (hfa : mg "law" = some (.ref fa))
    {c_LandError : Addr}
    {c_NoText : Addr}
    {c_OutOfBound : Addr}
    {c_Taken : Addr}
    {c_NoPerson : Addr}
    {c_Gone : Addr}
    {c_TooDeep : Addr}
    {c_Lives : Addr}
    {c_World : Addr}
    {t_MET : Tok}
    {t_FAILED : Tok}
    {t_HANGS : Tok}
    {t_LONGEST_WORD : Tok}
    {t_LONGEST_NUMBER : Tok}
    {t_MOST_NUMBERS : Tok}
    {c_BARRED : Addr} {od_BARRED : Option Addr} {n_BARRED : Nat} {sl_BARRED : Array (Option Value)} {u0_BARRED u1_BARRED : Tok}
    {t_LAST_FIRST_YEAR : Tok}
    {t_MOST_YEARS : Tok}
    {t_OLDEST : Tok}
    {f0 f1 f2 f3 f4 f5 f6 f7 f8 f9 f10 f11 f12 f13 f14 f15 f16 f17 f18 f19 f20 f21 f22 f23 f24 f25 f26 f27 f28 f29 f30 f31 f32 f33 f34 f35 f36 f37 f38 f39 f40 f41 f42 f43 f44 f45 f46 f47 f48 f49 f50 f51 f52 f53 f54 f55 f56 f57 f58 f59 f60 f61 f62 f63 f64 f65 : Addr} {od0 an0 od1 an1 od2 an2 od3 an3 od4 an4 od5 an5 od6 an6 od7 an7 od8 an8 od9 an9 od10 an10 od11 an11 od12 an12 od13 an13 od14 an14 od15 an15 od16 an16 od17 an17 od18 an18 od19 an19 od20 an20 od21 an21 od22 an22 od23 an23 od24 an24 od25 an25 od26 an26 od27 an27 od28 an28 od29 an29 od30 an30 od31 an31 od32 an32 od33 an33 od34 an34 od35 an35 od36 an36 od37 an37 od38 an38 od39 an39 od40 an40 od41 an41 od42 an42 od43 an43 od44 an44 od45 an45 od46 an46 od47 an47 od48 an48 od49 an49 od50 an50 od51 an51 od52 an52 od53 an53 od54 an54 od55 an55 od56 an56 od57 an57 od58 an58 od59 an59 od60 an60 od61 an61 od62 an62 od63 an63 od64 an64 od65 an65 : Option Addr} {sl0 sl1 sl2 sl3 sl4 sl5 sl6 sl7 sl8 sl9 sl10 sl11 sl12 sl13 sl14 sl15 sl16 sl17 sl18 sl19 sl20 sl21 sl22 sl23 sl24 sl25 sl26 sl27 sl28 sl29 sl30 sl31 sl32 sl33 sl34 sl35 sl36 sl37 sl38 sl39 sl40 sl41 sl42 sl43 sl44 sl45 sl46 sl47 sl48 sl49 sl50 sl51 sl52 sl53 sl54 sl55 sl56 sl57 sl58 sl59 sl60 sl61 sl62 sl63 sl64 sl65 : Array (Option Value)} {oc0 kV0 dc0 pm0 cd0 ct0 oc1 kV1 dc1 pm1 cd1 ct1 oc2 kV2 dc2 pm2 cd2 ct2 oc3 kV3 dc3 pm3 cd3 ct3 oc4 kV4 dc4 pm4 cd4 ct4 oc5 kV5 dc5 pm5 cd5 ct5 oc6 kV6 dc6 pm6 cd6 ct6 oc7 kV7 dc7 pm7 cd7 ct7 oc8 kV8 dc8 pm8 cd8 ct8 oc9 kV9 dc9 pm9 cd9 ct9 oc10 kV10 dc10 pm10 cd10 ct10 oc11 kV11 dc11 pm11 cd11 ct11 oc12 kV12 dc12 pm12 cd12 ct12 oc13 kV13 dc13 pm13 cd13 ct13 oc14 kV14 dc14 pm14 cd14 ct14 oc15 kV15 dc15 pm15 cd15 ct15 oc16 kV16 dc16 pm16 cd16 ct16 oc17 kV17 dc17 pm17 cd17 ct17 oc18 kV18 dc18 pm18 cd18 ct18 oc19 kV19 dc19 pm19 cd19 ct19 oc20 kV20 dc20 pm20 cd20 ct20 oc21 kV21 dc21 pm21 cd21 ct21 oc22 kV22 dc22 pm22 cd22 ct22 oc23 kV23 dc23 pm23 cd23 ct23 oc24 kV24 dc24 pm24 cd24 ct24 oc25 kV25 dc25 pm25 cd25 ct25 oc26 kV26 dc26 pm26 cd26 ct26 oc27 kV27 dc27 pm27 cd27 ct27 oc28 kV28 dc28 pm28 cd28 ct28 oc29 kV29 dc29 pm29 cd29 ct29 oc30 kV30 dc30 pm30 cd30 ct30 oc31 kV31 dc31 pm31 cd31 ct31 oc32 kV32 dc32 pm32 cd32 ct32 oc33 kV33 dc33 pm33 cd33 ct33 oc34 kV34 dc34 pm34 cd34 ct34 oc35 kV35 dc35 pm35 cd35 ct35 oc36 kV36 dc36 pm36 cd36 ct36 oc37 kV37 dc37 pm37 cd37 ct37 oc38 kV38 dc38 pm38 cd38 ct38 oc39 kV39 dc39 pm39 cd39 ct39 oc40 kV40 dc40 pm40 cd40 ct40 oc41 kV41 dc41 pm41 cd41 ct41 oc42 kV42 dc42 pm42 cd42 ct42 oc43 kV43 dc43 pm43 cd43 ct43 oc44 kV44 dc44 pm44 cd44 ct44 oc45 kV45 dc45 pm45 cd45 ct45 oc46 kV46 dc46 pm46 cd46 ct46 oc47 kV47 dc47 pm47 cd47 ct47 oc48 kV48 dc48 pm48 cd48 ct48 oc49 kV49 dc49 pm49 cd49 ct49 oc50 kV50 dc50 pm50 cd50 ct50 oc51 kV51 dc51 pm51 cd51 ct51 oc52 kV52 dc52 pm52 cd52 ct52 oc53 kV53 dc53 pm53 cd53 ct53 oc54 kV54 dc54 pm54 cd54 ct54 oc55 kV55 dc55 pm55 cd55 ct55 oc56 kV56 dc56 pm56 cd56 ct56 oc57 kV57 dc57 pm57 cd57 ct57 oc58 kV58 dc58 pm58 cd58 ct58 oc59 kV59 dc59 pm59 cd59 ct59 oc60 kV60 dc60 pm60 cd60 ct60 oc61 kV61 dc61 pm61 cd61 ct61 oc62 kV62 dc62 pm62 cd62 ct62 oc63 kV63 dc63 pm63 cd63 ct63 oc64 kV64 dc64 pm64 cd64 ct64 oc65 kV65 dc65 pm65 cd65 ct65 : Value}
    (zz_isinstance : PySem.W.nsIn K mainGlobals "isinstance" = some none)
    (zz_int : PySem.W.nsIn K mainGlobals "int" = some none)
    (zz_bool : PySem.W.nsIn K mainGlobals "bool" = some none)
    (zz_len : PySem.W.nsIn K mainGlobals "len" = some none)
    (zz_range : PySem.W.nsIn K mainGlobals "range" = some none)
    (zz_list : PySem.W.nsIn K mainGlobals "list" = some none)
    (zz_str : PySem.W.nsIn K mainGlobals "str" = some none)
    (zz_min : PySem.W.nsIn K mainGlobals "min" = some none)
    (zz_max : PySem.W.nsIn K mainGlobals "max" = some none)
    (zz_ValueError : PySem.W.nsIn K mainGlobals "ValueError" = some none)
    (am_LandError : PySem.W.nsIn K mainGlobals "LandError" = some (some (.ref c_LandError)))
    (am_NoText : PySem.W.nsIn K mainGlobals "NoText" = some (some (.ref c_NoText)))
    (am_OutOfBound : PySem.W.nsIn K mainGlobals "OutOfBound" = some (some (.ref c_OutOfBound)))
    (am_Taken : PySem.W.nsIn K mainGlobals "Taken" = some (some (.ref c_Taken)))
    (am_NoPerson : PySem.W.nsIn K mainGlobals "NoPerson" = some (some (.ref c_NoPerson)))
    (am_Gone : PySem.W.nsIn K mainGlobals "Gone" = some (some (.ref c_Gone)))
    (am_TooDeep : PySem.W.nsIn K mainGlobals "TooDeep" = some (some (.ref c_TooDeep)))
    (xx_Gone : PySem.W.excIn K c_Gone bmV "ValueError.__new__" = true)
    (xga_Gone : PySem.W.findIn K (.ref c_Gone) "__getattribute__" = some (some (.builtin "BaseException.__getattribute__")))
    (xhk_Gone : PySem.W.findIn K (.ref c_Gone) "__getattr__" = some none)
    (xca_Gone : PySem.W.findIn K (.ref c_Gone) "__class__" = some (some (.builtin "object.__class__")))
    (xmo_Gone : PySem.W.subIn K (.ref c_Gone) (.type "object") = some true)
    (xsb_Gone : PySem.W.subIn K (.ref c_Gone) (.type "BaseException") = some true)
    (xx_NoPerson : PySem.W.excIn K c_NoPerson bmV "ValueError.__new__" = true)
    (xga_NoPerson : PySem.W.findIn K (.ref c_NoPerson) "__getattribute__" = some (some (.builtin "BaseException.__getattribute__")))
    (xhk_NoPerson : PySem.W.findIn K (.ref c_NoPerson) "__getattr__" = some none)
    (xca_NoPerson : PySem.W.findIn K (.ref c_NoPerson) "__class__" = some (some (.builtin "object.__class__")))
    (xmo_NoPerson : PySem.W.subIn K (.ref c_NoPerson) (.type "object") = some true)
    (xsb_NoPerson : PySem.W.subIn K (.ref c_NoPerson) (.type "BaseException") = some true)
    (xx_NoText : PySem.W.excIn K c_NoText bmV "ValueError.__new__" = true)
    (xga_NoText : PySem.W.findIn K (.ref c_NoText) "__getattribute__" = some (some (.builtin "BaseException.__getattribute__")))
    (xhk_NoText : PySem.W.findIn K (.ref c_NoText) "__getattr__" = some none)
    (xca_NoText : PySem.W.findIn K (.ref c_NoText) "__class__" = some (some (.builtin "object.__class__")))
    (xmo_NoText : PySem.W.subIn K (.ref c_NoText) (.type "object") = some true)
    (xsb_NoText : PySem.W.subIn K (.ref c_NoText) (.type "BaseException") = some true)
    (xx_OutOfBound : PySem.W.excIn K c_OutOfBound bmV "ValueError.__new__" = true)
    (xga_OutOfBound : PySem.W.findIn K (.ref c_OutOfBound) "__getattribute__" = some (some (.builtin "BaseException.__getattribute__")))
    (xhk_OutOfBound : PySem.W.findIn K (.ref c_OutOfBound) "__getattr__" = some none)
    (xca_OutOfBound : PySem.W.findIn K (.ref c_OutOfBound) "__class__" = some (some (.builtin "object.__class__")))
    (xmo_OutOfBound : PySem.W.subIn K (.ref c_OutOfBound) (.type "object") = some true)
    (xsb_OutOfBound : PySem.W.subIn K (.ref c_OutOfBound) (.type "BaseException") = some true)
    (xx_Taken : PySem.W.excIn K c_Taken bmV "ValueError.__new__" = true)
    (xga_Taken : PySem.W.findIn K (.ref c_Taken) "__getattribute__" = some (some (.builtin "BaseException.__getattribute__")))
    (xhk_Taken : PySem.W.findIn K (.ref c_Taken) "__getattr__" = some none)
    (xca_Taken : PySem.W.findIn K (.ref c_Taken) "__class__" = some (some (.builtin "object.__class__")))
    (xmo_Taken : PySem.W.subIn K (.ref c_Taken) (.type "object") = some true)
    (xsb_Taken : PySem.W.subIn K (.ref c_Taken) (.type "BaseException") = some true)
    (xx_TooDeep : PySem.W.excIn K c_TooDeep bmV "ValueError.__new__" = true)
    (xga_TooDeep : PySem.W.findIn K (.ref c_TooDeep) "__getattribute__" = some (some (.builtin "BaseException.__getattribute__")))
    (xhk_TooDeep : PySem.W.findIn K (.ref c_TooDeep) "__getattr__" = some none)
    (xca_TooDeep : PySem.W.findIn K (.ref c_TooDeep) "__class__" = some (some (.builtin "object.__class__")))
    (xmo_TooDeep : PySem.W.subIn K (.ref c_TooDeep) (.type "object") = some true)
    (xsb_TooDeep : PySem.W.subIn K (.ref c_TooDeep) (.type "BaseException") = some true)
    (am_Lives : PySem.W.nsIn K mainGlobals "Lives" = some (some (.ref c_Lives)))
    (pg_Lives : PySem.W.plainGet K c_Lives Str.empty = true)
    (hd_Lives : PySem.W.hasDictIn K c_Lives = true)
    (po_Lives : PySem.W.plainOver K c_Lives = true)
    (sa_Lives : PySem.W.findIn K (.ref c_Lives) "__setattr__" = some (some (.builtin "object.__setattr__")))
    (na_Lives_births : PySem.W.findIn K (.ref c_Lives) "births" = some none)
    (na_Lives_deaths : PySem.W.findIn K (.ref c_Lives) "deaths" = some none)
    (na_Lives_broods : PySem.W.findIn K (.ref c_Lives) "broods" = some none)
    (am_World : PySem.W.nsIn K mainGlobals "World" = some (some (.ref c_World)))
    (pg_World : PySem.W.plainGet K c_World Str.empty = true)
    (hd_World : PySem.W.hasDictIn K c_World = true)
    (po_World : PySem.W.plainOver K c_World = true)
    (sa_World : PySem.W.findIn K (.ref c_World) "__setattr__" = some (some (.builtin "object.__setattr__")))
    (na_World_year : PySem.W.findIn K (.ref c_World) "year" = some none)
    (na_World_lives : PySem.W.findIn K (.ref c_World) "lives" = some none)
    (na_World_happened : PySem.W.findIn K (.ref c_World) "happened" = some none)
    (am_MET : PySem.W.nsIn K mainGlobals "MET" = some (some (.str "met" t_MET)))
    (am_FAILED : PySem.W.nsIn K mainGlobals "FAILED" = some (some (.str "failed" t_FAILED)))
    (am_HANGS : PySem.W.nsIn K mainGlobals "HANGS" = some (some (.str "hangs" t_HANGS)))
    (am_LONGEST_WORD : PySem.W.nsIn K mainGlobals "LONGEST_WORD" = some (some (.int 8 t_LONGEST_WORD)))
    (am_LONGEST_NUMBER : PySem.W.nsIn K mainGlobals "LONGEST_NUMBER" = some (some (.int 2 t_LONGEST_NUMBER)))
    (am_MOST_NUMBERS : PySem.W.nsIn K mainGlobals "MOST_NUMBERS" = some (some (.int 5 t_MOST_NUMBERS)))
    (am_BARRED : PySem.W.nsIn K mainGlobals "BARRED" = some (some (.ref c_BARRED)))
    (lk_BARRED : K.lookup c_BARRED = some ⟨.type "tuple", od_BARRED, .seq #[.str "crown" u0_BARRED, .str "kids" u1_BARRED] n_BARRED, sl_BARRED⟩)
    (am_LAST_FIRST_YEAR : PySem.W.nsIn K mainGlobals "LAST_FIRST_YEAR" = some (some (.int 9999 t_LAST_FIRST_YEAR)))
    (am_MOST_YEARS : PySem.W.nsIn K mainGlobals "MOST_YEARS" = some (some (.int 60 t_MOST_YEARS)))
    (am_OLDEST : PySem.W.nsIn K mainGlobals "OLDEST" = some (some (.int 120 t_OLDEST)))
    (a0 : PySem.W.findIn K (.ref c_Lives) "known" = some (some (.ref f0)))
    (i0 : PySem.W.isFn K (.ref f0) = true)
    (l0 : K.lookup f0 = some ⟨oc0, od0, .func (PySem.W.fnOf "known" "Lives.known" (defArgs s_Lives_known) (defBody s_Lives_known) (defScope s_Lives_known) .none kV0 dc0 pm0 an0 cd0 ct0), sl0⟩)
    (cc0 : PySem.W.codeIn K cd0 "Lives.known" = true)
    (k0 : PySem.W.keepIn K (.ref f0) = true)
    (a1 : PySem.W.findIn K (.ref c_Lives) "want_known" = some (some (.ref f1)))
    (i1 : PySem.W.isFn K (.ref f1) = true)
    (l1 : K.lookup f1 = some ⟨oc1, od1, .func (PySem.W.fnOf "want_known" "Lives.want_known" (defArgs s_Lives_want_known) (defBody s_Lives_want_known) (defScope s_Lives_want_known) .none kV1 dc1 pm1 an1 cd1 ct1), sl1⟩)
    (cc1 : PySem.W.codeIn K cd1 "Lives.want_known" = true)
    (k1 : PySem.W.keepIn K (.ref f1) = true)
    (a2 : PySem.W.findIn K (.ref c_Lives) "age_in" = some (some (.ref f2)))
    (i2 : PySem.W.isFn K (.ref f2) = true)
    (l2 : K.lookup f2 = some ⟨oc2, od2, .func (PySem.W.fnOf "age_in" "Lives.age_in" (defArgs s_Lives_age_in) (defBody s_Lives_age_in) (defScope s_Lives_age_in) .none kV2 dc2 pm2 an2 cd2 ct2), sl2⟩)
    (cc2 : PySem.W.codeIn K cd2 "Lives.age_in" = true)
    (k2 : PySem.W.keepIn K (.ref f2) = true)
    (a3 : PySem.W.findIn K (.ref c_World) "age" = some (some (.ref f3)))
    (i3 : PySem.W.isFn K (.ref f3) = true)
    (l3 : K.lookup f3 = some ⟨oc3, od3, .func (PySem.W.fnOf "age" "World.age" (defArgs s_World_age) (defBody s_World_age) (defScope s_World_age) .none kV3 dc3 pm3 an3 cd3 ct3), sl3⟩)
    (cc3 : PySem.W.codeIn K cd3 "World.age" = true)
    (k3 : PySem.W.keepIn K (.ref f3) = true)
    (a4 : PySem.W.findIn K (.ref c_Lives) "alive" = some (some (.ref f4)))
    (i4 : PySem.W.isFn K (.ref f4) = true)
    (l4 : K.lookup f4 = some ⟨oc4, od4, .func (PySem.W.fnOf "alive" "Lives.alive" (defArgs s_Lives_alive) (defBody s_Lives_alive) (defScope s_Lives_alive) .none kV4 dc4 pm4 an4 cd4 ct4), sl4⟩)
    (cc4 : PySem.W.codeIn K cd4 "Lives.alive" = true)
    (k4 : PySem.W.keepIn K (.ref f4) = true)
    (a5 : PySem.W.nsIn K mainGlobals "age_stand" = some (some (.ref f5)))
    (l5 : K.lookup f5 = some ⟨oc5, od5, .func (PySem.W.fnOf "age_stand" "age_stand" (defArgs s_age_stand) (defBody s_age_stand) (defScope s_age_stand) .none kV5 dc5 pm5 an5 cd5 ct5), sl5⟩)
    (cc5 : PySem.W.codeIn K cd5 "age_stand" = true)
    (k5 : PySem.W.keepIn K (.ref f5) = true)
    (a6 : PySem.W.findIn K (.ref c_Lives) "children" = some (some (.ref f6)))
    (i6 : PySem.W.isFn K (.ref f6) = true)
    (l6 : K.lookup f6 = some ⟨oc6, od6, .func (PySem.W.fnOf "children" "Lives.children" (defArgs s_Lives_children) (defBody s_Lives_children) (defScope s_Lives_children) .none kV6 dc6 pm6 an6 cd6 ct6), sl6⟩)
    (cc6 : PySem.W.codeIn K cd6 "Lives.children" = true)
    (k6 : PySem.W.keepIn K (.ref f6) = true)
    (a7 : PySem.W.nsIn K mainGlobals "brood" = some (some (.ref f7)))
    (l7 : K.lookup f7 = some ⟨oc7, od7, .func (PySem.W.fnOf "brood" "brood" (defArgs s_brood) (defBody s_brood) (defScope s_brood) .none kV7 dc7 pm7 an7 cd7 ct7), sl7⟩)
    (cc7 : PySem.W.codeIn K cd7 "brood" = true)
    (k7 : PySem.W.keepIn K (.ref f7) = true)
    (a8 : PySem.W.nsIn K mainGlobals "left_out" = some (some (.ref f8)))
    (l8 : K.lookup f8 = some ⟨oc8, od8, .func (PySem.W.fnOf "left_out" "left_out" (defArgs s_left_out) (defBody s_left_out) (defScope s_left_out) .none kV8 dc8 pm8 an8 cd8 ct8), sl8⟩)
    (cc8 : PySem.W.codeIn K cd8 "left_out" = true)
    (k8 : PySem.W.keepIn K (.ref f8) = true)
    (a9 : PySem.W.nsIn K mainGlobals "members" = some (some (.ref f9)))
    (l9 : K.lookup f9 = some ⟨oc9, od9, .func (PySem.W.fnOf "members" "members" (defArgs s_members) (defBody s_members) (defScope s_members) .none kV9 dc9 pm9 an9 cd9 ct9), sl9⟩)
    (cc9 : PySem.W.codeIn K cd9 "members" = true)
    (k9 : PySem.W.keepIn K (.ref f9) = true)
    (a10 : PySem.W.nsIn K mainGlobals "has_seat" = some (some (.ref f10)))
    (l10 : K.lookup f10 = some ⟨oc10, od10, .func (PySem.W.fnOf "has_seat" "has_seat" (defArgs s_has_seat) (defBody s_has_seat) (defScope s_has_seat) .none kV10 dc10 pm10 an10 cd10 ct10), sl10⟩)
    (cc10 : PySem.W.codeIn K cd10 "has_seat" = true)
    (k10 : PySem.W.keepIn K (.ref f10) = true)
    (a11 : PySem.W.nsIn K mainGlobals "waiting" = some (some (.ref f11)))
    (l11 : K.lookup f11 = some ⟨oc11, od11, .func (PySem.W.fnOf "waiting" "waiting" (defArgs s_waiting) (defBody s_waiting) (defScope s_waiting) .none kV11 dc11 pm11 an11 cd11 ct11), sl11⟩)
    (cc11 : PySem.W.codeIn K cd11 "waiting" = true)
    (k11 : PySem.W.keepIn K (.ref f11) = true)
    (a12 : PySem.W.nsIn K mainGlobals "within" = some (some (.ref f12)))
    (l12 : K.lookup f12 = some ⟨oc12, od12, .func (PySem.W.fnOf "within" "within" (defArgs s_within) (defBody s_within) (defScope s_within) .none kV12 dc12 pm12 an12 cd12 ct12), sl12⟩)
    (cc12 : PySem.W.codeIn K cd12 "within" = true)
    (k12 : PySem.W.keepIn K (.ref f12) = true)
    (a13 : PySem.W.nsIn K mainGlobals "good_word" = some (some (.ref f13)))
    (l13 : K.lookup f13 = some ⟨oc13, od13, .func (PySem.W.fnOf "good_word" "good_word" (defArgs s_good_word) (defBody s_good_word) (defScope s_good_word) .none kV13 dc13 pm13 an13 cd13 ct13), sl13⟩)
    (cc13 : PySem.W.codeIn K cd13 "good_word" = true)
    (k13 : PySem.W.keepIn K (.ref f13) = true)
    (a14 : PySem.W.nsIn K mainGlobals "good_number" = some (some (.ref f14)))
    (l14 : K.lookup f14 = some ⟨oc14, od14, .func (PySem.W.fnOf "good_number" "good_number" (defArgs s_good_number) (defBody s_good_number) (defScope s_good_number) .none kV14 dc14 pm14 an14 cd14 ct14), sl14⟩)
    (cc14 : PySem.W.codeIn K cd14 "good_number" = true)
    (k14 : PySem.W.keepIn K (.ref f14) = true)
    (a15 : PySem.W.nsIn K mainGlobals "parts" = some (some (.ref f15)))
    (l15 : K.lookup f15 = some ⟨oc15, od15, .func (PySem.W.fnOf "parts" "parts" (defArgs s_parts) (defBody s_parts) (defScope s_parts) .none kV15 dc15 pm15 an15 cd15 ct15), sl15⟩)
    (cc15 : PySem.W.codeIn K cd15 "parts" = true)
    (k15 : PySem.W.keepIn K (.ref f15) = true)
    (a16 : PySem.W.nsIn K mainGlobals "shortened" = some (some (.ref f16)))
    (l16 : K.lookup f16 = some ⟨oc16, od16, .func (PySem.W.fnOf "shortened" "shortened" (defArgs s_shortened) (defBody s_shortened) (defScope s_shortened) .none kV16 dc16 pm16 an16 cd16 ct16), sl16⟩)
    (cc16 : PySem.W.codeIn K cd16 "shortened" = true)
    (k16 : PySem.W.keepIn K (.ref f16) = true)
    (a17 : PySem.W.findIn K (.ref c_Lives) "nearest" = some (some (.ref f17)))
    (i17 : PySem.W.isFn K (.ref f17) = true)
    (l17 : K.lookup f17 = some ⟨oc17, od17, .func (PySem.W.fnOf "nearest" "Lives.nearest" (defArgs s_Lives_nearest) (defBody s_Lives_nearest) (defScope s_Lives_nearest) .none kV17 dc17 pm17 an17 cd17 ct17), sl17⟩)
    (cc17 : PySem.W.codeIn K cd17 "Lives.nearest" = true)
    (k17 : PySem.W.keepIn K (.ref f17) = true)
    (a18 : PySem.W.nsIn K mainGlobals "may_grow" = some (some (.ref f18)))
    (l18 : K.lookup f18 = some ⟨oc18, od18, .func (PySem.W.fnOf "may_grow" "may_grow" (defArgs s_may_grow) (defBody s_may_grow) (defScope s_may_grow) .none kV18 dc18 pm18 an18 cd18 ct18), sl18⟩)
    (cc18 : PySem.W.codeIn K cd18 "may_grow" = true)
    (k18 : PySem.W.keepIn K (.ref f18) = true)
    (a19 : PySem.W.nsIn K mainGlobals "want_word" = some (some (.ref f19)))
    (l19 : K.lookup f19 = some ⟨oc19, od19, .func (PySem.W.fnOf "want_word" "want_word" (defArgs s_want_word) (defBody s_want_word) (defScope s_want_word) .none kV19 dc19 pm19 an19 cd19 ct19), sl19⟩)
    (cc19 : PySem.W.codeIn K cd19 "want_word" = true)
    (k19 : PySem.W.keepIn K (.ref f19) = true)
    (a20 : PySem.W.findIn K (.ref c_Lives) "__init__" = some (some (.ref f20)))
    (i20 : PySem.W.isFn K (.ref f20) = true)
    (l20 : K.lookup f20 = some ⟨oc20, od20, .func (PySem.W.fnOf "__init__" "Lives.__init__" (defArgs s_Lives___init__) (defBody s_Lives___init__) (defScope s_Lives___init__) .none kV20 dc20 pm20 an20 cd20 ct20), sl20⟩)
    (cc20 : PySem.W.codeIn K cd20 "Lives.__init__" = true)
    (k20 : PySem.W.keepIn K (.ref f20) = true)
    (a21 : PySem.W.findIn K (.ref c_Lives) "enter" = some (some (.ref f21)))
    (i21 : PySem.W.isFn K (.ref f21) = true)
    (l21 : K.lookup f21 = some ⟨oc21, od21, .func (PySem.W.fnOf "enter" "Lives.enter" (defArgs s_Lives_enter) (defBody s_Lives_enter) (defScope s_Lives_enter) .none kV21 dc21 pm21 an21 cd21 ct21), sl21⟩)
    (cc21 : PySem.W.codeIn K cd21 "Lives.enter" = true)
    (k21 : PySem.W.keepIn K (.ref f21) = true)
    (a22 : PySem.W.findIn K (.ref c_Lives) "want_alive" = some (some (.ref f22)))
    (i22 : PySem.W.isFn K (.ref f22) = true)
    (l22 : K.lookup f22 = some ⟨oc22, od22, .func (PySem.W.fnOf "want_alive" "Lives.want_alive" (defArgs s_Lives_want_alive) (defBody s_Lives_want_alive) (defScope s_Lives_want_alive) .none kV22 dc22 pm22 an22 cd22 ct22), sl22⟩)
    (cc22 : PySem.W.codeIn K cd22 "Lives.want_alive" = true)
    (k22 : PySem.W.keepIn K (.ref f22) = true)
    (a23 : PySem.W.findIn K (.ref c_Lives) "arrive" = some (some (.ref f23)))
    (i23 : PySem.W.isFn K (.ref f23) = true)
    (l23 : K.lookup f23 = some ⟨oc23, od23, .func (PySem.W.fnOf "arrive" "Lives.arrive" (defArgs s_Lives_arrive) (defBody s_Lives_arrive) (defScope s_Lives_arrive) .none kV23 dc23 pm23 an23 cd23 ct23), sl23⟩)
    (cc23 : PySem.W.codeIn K cd23 "Lives.arrive" = true)
    (k23 : PySem.W.keepIn K (.ref f23) = true)
    (a24 : PySem.W.findIn K (.ref c_Lives) "birth" = some (some (.ref f24)))
    (i24 : PySem.W.isFn K (.ref f24) = true)
    (l24 : K.lookup f24 = some ⟨oc24, od24, .func (PySem.W.fnOf "birth" "Lives.birth" (defArgs s_Lives_birth) (defBody s_Lives_birth) (defScope s_Lives_birth) .none kV24 dc24 pm24 an24 cd24 ct24), sl24⟩)
    (cc24 : PySem.W.codeIn K cd24 "Lives.birth" = true)
    (k24 : PySem.W.keepIn K (.ref f24) = true)
    (a25 : PySem.W.findIn K (.ref c_Lives) "death" = some (some (.ref f25)))
    (i25 : PySem.W.isFn K (.ref f25) = true)
    (l25 : K.lookup f25 = some ⟨oc25, od25, .func (PySem.W.fnOf "death" "Lives.death" (defArgs s_Lives_death) (defBody s_Lives_death) (defScope s_Lives_death) .none kV25 dc25 pm25 an25 cd25 ct25), sl25⟩)
    (cc25 : PySem.W.codeIn K cd25 "Lives.death" = true)
    (k25 : PySem.W.keepIn K (.ref f25) = true)
    (a26 : PySem.W.findIn K (.ref c_Lives) "born_in" = some (some (.ref f26)))
    (i26 : PySem.W.isFn K (.ref f26) = true)
    (l26 : K.lookup f26 = some ⟨oc26, od26, .func (PySem.W.fnOf "born_in" "Lives.born_in" (defArgs s_Lives_born_in) (defBody s_Lives_born_in) (defScope s_Lives_born_in) .none kV26 dc26 pm26 an26 cd26 ct26), sl26⟩)
    (cc26 : PySem.W.codeIn K cd26 "Lives.born_in" = true)
    (k26 : PySem.W.keepIn K (.ref f26) = true)
    (a27 : PySem.W.findIn K (.ref c_Lives) "names" = some (some (.ref f27)))
    (i27 : PySem.W.isFn K (.ref f27) = true)
    (l27 : K.lookup f27 = some ⟨oc27, od27, .func (PySem.W.fnOf "names" "Lives.names" (defArgs s_Lives_names) (defBody s_Lives_names) (defScope s_Lives_names) .none kV27 dc27 pm27 an27 cd27 ct27), sl27⟩)
    (cc27 : PySem.W.codeIn K cd27 "Lives.names" = true)
    (k27 : PySem.W.keepIn K (.ref f27) = true)
    (a28 : PySem.W.nsIn K mainGlobals "is_class" = some (some (.ref f28)))
    (l28 : K.lookup f28 = some ⟨oc28, od28, .func (PySem.W.fnOf "is_class" "is_class" (defArgs s_is_class) (defBody s_is_class) (defScope s_is_class) .none kV28 dc28 pm28 an28 cd28 ct28), sl28⟩)
    (cc28 : PySem.W.codeIn K cd28 "is_class" = true)
    (k28 : PySem.W.keepIn K (.ref f28) = true)
    (a29 : PySem.W.nsIn K mainGlobals "want_between" = some (some (.ref f29)))
    (l29 : K.lookup f29 = some ⟨oc29, od29, .func (PySem.W.fnOf "want_between" "want_between" (defArgs s_want_between) (defBody s_want_between) (defScope s_want_between) .none kV29 dc29 pm29 an29 cd29 ct29), sl29⟩)
    (cc29 : PySem.W.codeIn K cd29 "want_between" = true)
    (k29 : PySem.W.keepIn K (.ref f29) = true)
    (a30 : PySem.W.findIn K (.ref c_World) "__init__" = some (some (.ref f30)))
    (i30 : PySem.W.isFn K (.ref f30) = true)
    (l30 : K.lookup f30 = some ⟨oc30, od30, .func (PySem.W.fnOf "__init__" "World.__init__" (defArgs s_World___init__) (defBody s_World___init__) (defScope s_World___init__) .none kV30 dc30 pm30 an30 cd30 ct30), sl30⟩)
    (cc30 : PySem.W.codeIn K cd30 "World.__init__" = true)
    (k30 : PySem.W.keepIn K (.ref f30) = true)
    (a31 : PySem.W.findIn K (.ref c_World) "pass_years" = some (some (.ref f31)))
    (i31 : PySem.W.isFn K (.ref f31) = true)
    (l31 : K.lookup f31 = some ⟨oc31, od31, .func (PySem.W.fnOf "pass_years" "World.pass_years" (defArgs s_World_pass_years) (defBody s_World_pass_years) (defScope s_World_pass_years) .none kV31 dc31 pm31 an31 cd31 ct31), sl31⟩)
    (cc31 : PySem.W.codeIn K cd31 "World.pass_years" = true)
    (k31 : PySem.W.keepIn K (.ref f31) = true)
    (a32 : PySem.W.findIn K (.ref c_World) "arrive" = some (some (.ref f32)))
    (i32 : PySem.W.isFn K (.ref f32) = true)
    (l32 : K.lookup f32 = some ⟨oc32, od32, .func (PySem.W.fnOf "arrive" "World.arrive" (defArgs s_World_arrive) (defBody s_World_arrive) (defScope s_World_arrive) .none kV32 dc32 pm32 an32 cd32 ct32), sl32⟩)
    (cc32 : PySem.W.codeIn K cd32 "World.arrive" = true)
    (k32 : PySem.W.keepIn K (.ref f32) = true)
    (a33 : PySem.W.findIn K (.ref c_World) "birth" = some (some (.ref f33)))
    (i33 : PySem.W.isFn K (.ref f33) = true)
    (l33 : K.lookup f33 = some ⟨oc33, od33, .func (PySem.W.fnOf "birth" "World.birth" (defArgs s_World_birth) (defBody s_World_birth) (defScope s_World_birth) .none kV33 dc33 pm33 an33 cd33 ct33), sl33⟩)
    (cc33 : PySem.W.codeIn K cd33 "World.birth" = true)
    (k33 : PySem.W.keepIn K (.ref f33) = true)
    (a34 : PySem.W.findIn K (.ref c_World) "death" = some (some (.ref f34)))
    (i34 : PySem.W.isFn K (.ref f34) = true)
    (l34 : K.lookup f34 = some ⟨oc34, od34, .func (PySem.W.fnOf "death" "World.death" (defArgs s_World_death) (defBody s_World_death) (defScope s_World_death) .none kV34 dc34 pm34 an34 cd34 ct34), sl34⟩)
    (cc34 : PySem.W.codeIn K cd34 "World.death" = true)
    (k34 : PySem.W.keepIn K (.ref f34) = true)
    (a35 : PySem.W.findIn K (.ref c_World) "comes" = some (some (.ref f35)))
    (i35 : PySem.W.isFn K (.ref f35) = true)
    (l35 : K.lookup f35 = some ⟨oc35, od35, .func (PySem.W.fnOf "comes" "World.comes" (defArgs s_World_comes) (defBody s_World_comes) (defScope s_World_comes) .none kV35 dc35 pm35 an35 cd35 ct35), sl35⟩)
    (cc35 : PySem.W.codeIn K cd35 "World.comes" = true)
    (k35 : PySem.W.keepIn K (.ref f35) = true)
    (a36 : PySem.W.nsIn K mainGlobals "class_end" = some (some (.ref f36)))
    (l36 : K.lookup f36 = some ⟨oc36, od36, .func (PySem.W.fnOf "class_end" "class_end" (defArgs s_class_end) (defBody s_class_end) (defScope s_class_end) .none kV36 dc36 pm36 an36 cd36 ct36), sl36⟩)
    (cc36 : PySem.W.codeIn K cd36 "class_end" = true)
    (k36 : PySem.W.keepIn K (.ref f36) = true)
    (a37 : PySem.W.nsIn K mainGlobals "first_end" = some (some (.ref f37)))
    (l37 : K.lookup f37 = some ⟨oc37, od37, .func (PySem.W.fnOf "first_end" "first_end" (defArgs s_first_end) (defBody s_first_end) (defScope s_first_end) .none kV37 dc37 pm37 an37 cd37 ct37), sl37⟩)
    (cc37 : PySem.W.codeIn K cd37 "first_end" = true)
    (k37 : PySem.W.keepIn K (.ref f37) = true)
    (a38 : PySem.W.nsIn K mainGlobals "_law_num" = some (some (.ref f38)))
    (l38 : K.lookup f38 = some ⟨oc38, od38, .func (PySem.W.fnOf "_law_num" "_law_num" (defArgs s_law_num) (defBody s_law_num) (defScope s_law_num) .none kV38 dc38 pm38 an38 cd38 ct38), sl38⟩)
    (cc38 : PySem.W.codeIn K cd38 "_law_num" = true)
    (k38 : PySem.W.keepIn K (.ref f38) = true)
    (a39 : PySem.W.nsIn K mainGlobals "_law_cell_at" = some (some (.ref f39)))
    (l39 : K.lookup f39 = some ⟨oc39, od39, .func (PySem.W.fnOf "_law_cell_at" "_law_cell_at" (defArgs s_law_cell_at) (defBody s_law_cell_at) (defScope s_law_cell_at) .none kV39 dc39 pm39 an39 cd39 ct39), sl39⟩)
    (cc39 : PySem.W.codeIn K cd39 "_law_cell_at" = true)
    (k39 : PySem.W.keepIn K (.ref f39) = true)
    (a40 : PySem.W.nsIn K mainGlobals "_law_rich" = some (some (.ref f40)))
    (l40 : K.lookup f40 = some ⟨oc40, od40, .func (PySem.W.fnOf "_law_rich" "_law_rich" (defArgs s_law_rich) (defBody s_law_rich) (defScope s_law_rich) .none kV40 dc40 pm40 an40 cd40 ct40), sl40⟩)
    (cc40 : PySem.W.codeIn K cd40 "_law_rich" = true)
    (k40 : PySem.W.keepIn K (.ref f40) = true)
    (a41 : PySem.W.nsIn K mainGlobals "_law_word" = some (some (.ref f41)))
    (l41 : K.lookup f41 = some ⟨oc41, od41, .func (PySem.W.fnOf "_law_word" "_law_word" (defArgs s_law_word) (defBody s_law_word) (defScope s_law_word) .none kV41 dc41 pm41 an41 cd41 ct41), sl41⟩)
    (cc41 : PySem.W.codeIn K cd41 "_law_word" = true)
    (k41 : PySem.W.keepIn K (.ref f41) = true)
    (a42 : PySem.W.nsIn K mainGlobals "_law_model" = some (some (.ref f42)))
    (l42 : K.lookup f42 = some ⟨oc42, od42, .func (PySem.W.fnOf "_law_model" "_law_model" (defArgs s_law_model) (defBody s_law_model) (defScope s_law_model) .none kV42 dc42 pm42 an42 cd42 ct42), sl42⟩)
    (cc42 : PySem.W.codeIn K cd42 "_law_model" = true)
    (k42 : PySem.W.keepIn K (.ref f42) = true)
    (a43 : PySem.W.nsIn K mainGlobals "_law_kids" = some (some (.ref f43)))
    (l43 : K.lookup f43 = some ⟨oc43, od43, .func (PySem.W.fnOf "_law_kids" "_law_kids" (defArgs s_law_kids) (defBody s_law_kids) (defScope s_law_kids) .none kV43 dc43 pm43 an43 cd43 ct43), sl43⟩)
    (cc43 : PySem.W.codeIn K cd43 "_law_kids" = true)
    (k43 : PySem.W.keepIn K (.ref f43) = true)
    (a44 : PySem.W.nsIn K mainGlobals "_law_living" = some (some (.ref f44)))
    (l44 : K.lookup f44 = some ⟨oc44, od44, .func (PySem.W.fnOf "_law_living" "_law_living" (defArgs s_law_living) (defBody s_law_living) (defScope s_law_living) .none kV44 dc44 pm44 an44 cd44 ct44), sl44⟩)
    (cc44 : PySem.W.codeIn K cd44 "_law_living" = true)
    (k44 : PySem.W.keepIn K (.ref f44) = true)
    (a45 : PySem.W.nsIn K mainGlobals "_law_play" = some (some (.ref f45)))
    (l45 : K.lookup f45 = some ⟨oc45, od45, .func (PySem.W.fnOf "_law_play" "_law_play" (defArgs s_law_play) (defBody s_law_play) (defScope s_law_play) .none kV45 dc45 pm45 an45 cd45 ct45), sl45⟩)
    (cc45 : PySem.W.codeIn K cd45 "_law_play" = true)
    (k45 : PySem.W.keepIn K (.ref f45) = true)
    (a46 : PySem.W.nsIn K mainGlobals "_law_next_deed" = some (some (.ref f46)))
    (l46 : K.lookup f46 = some ⟨oc46, od46, .func (PySem.W.fnOf "_law_next_deed" "_law_next_deed" (defArgs s_law_next_deed) (defBody s_law_next_deed) (defScope s_law_next_deed) .none kV46 dc46 pm46 an46 cd46 ct46), sl46⟩)
    (cc46 : PySem.W.codeIn K cd46 "_law_next_deed" = true)
    (k46 : PySem.W.keepIn K (.ref f46) = true)
    (a47 : PySem.W.nsIn K mainGlobals "_law_start" = some (some (.ref f47)))
    (l47 : K.lookup f47 = some ⟨oc47, od47, .func (PySem.W.fnOf "_law_start" "_law_start" (defArgs s_law_start) (defBody s_law_start) (defScope s_law_start) .none kV47 dc47 pm47 an47 cd47 ct47), sl47⟩)
    (cc47 : PySem.W.codeIn K cd47 "_law_start" = true)
    (k47 : PySem.W.keepIn K (.ref f47) = true)
    (a48 : PySem.W.nsIn K mainGlobals "_law_do" = some (some (.ref f48)))
    (l48 : K.lookup f48 = some ⟨oc48, od48, .func (PySem.W.fnOf "_law_do" "_law_do" (defArgs s_law_do) (defBody s_law_do) (defScope s_law_do) .none kV48 dc48 pm48 an48 cd48 ct48), sl48⟩)
    (cc48 : PySem.W.codeIn K cd48 "_law_do" = true)
    (k48 : PySem.W.keepIn K (.ref f48) = true)
    (a49 : PySem.W.nsIn K mainGlobals "_law_path" = some (some (.ref f49)))
    (l49 : K.lookup f49 = some ⟨oc49, od49, .func (PySem.W.fnOf "_law_path" "_law_path" (defArgs s_law_path) (defBody s_law_path) (defScope s_law_path) .none kV49 dc49 pm49 an49 cd49 ct49), sl49⟩)
    (cc49 : PySem.W.codeIn K cd49 "_law_path" = true)
    (k49 : PySem.W.keepIn K (.ref f49) = true)
    (a50 : PySem.W.nsIn K mainGlobals "_law_need" = some (some (.ref f50)))
    (l50 : K.lookup f50 = some ⟨oc50, od50, .func (PySem.W.fnOf "_law_need" "_law_need" (defArgs s_law_need) (defBody s_law_need) (defScope s_law_need) .none kV50 dc50 pm50 an50 cd50 ct50), sl50⟩)
    (cc50 : PySem.W.codeIn K cd50 "_law_need" = true)
    (k50 : PySem.W.keepIn K (.ref f50) = true)
    (a51 : PySem.W.nsIn K mainGlobals "_law_needs" = some (some (.ref f51)))
    (l51 : K.lookup f51 = some ⟨oc51, od51, .func (PySem.W.fnOf "_law_needs" "_law_needs" (defArgs s_law_needs) (defBody s_law_needs) (defScope s_law_needs) .none kV51 dc51 pm51 an51 cd51 ct51), sl51⟩)
    (cc51 : PySem.W.codeIn K cd51 "_law_needs" = true)
    (k51 : PySem.W.keepIn K (.ref f51) = true)
    (a52 : PySem.W.nsIn K mainGlobals "_law_near" = some (some (.ref f52)))
    (l52 : K.lookup f52 = some ⟨oc52, od52, .func (PySem.W.fnOf "_law_near" "_law_near" (defArgs s_law_near) (defBody s_law_near) (defScope s_law_near) .none kV52 dc52 pm52 an52 cd52 ct52), sl52⟩)
    (cc52 : PySem.W.codeIn K cd52 "_law_near" = true)
    (k52 : PySem.W.keepIn K (.ref f52) = true)
    (a53 : PySem.W.nsIn K mainGlobals "_law_age" = some (some (.ref f53)))
    (l53 : K.lookup f53 = some ⟨oc53, od53, .func (PySem.W.fnOf "_law_age" "_law_age" (defArgs s_law_age) (defBody s_law_age) (defScope s_law_age) .none kV53 dc53 pm53 an53 cd53 ct53), sl53⟩)
    (cc53 : PySem.W.codeIn K cd53 "_law_age" = true)
    (k53 : PySem.W.keepIn K (.ref f53) = true)
    (a54 : PySem.W.nsIn K mainGlobals "_law_atom" = some (some (.ref f54)))
    (l54 : K.lookup f54 = some ⟨oc54, od54, .func (PySem.W.fnOf "_law_atom" "_law_atom" (defArgs s_law_atom) (defBody s_law_atom) (defScope s_law_atom) .none kV54 dc54 pm54 an54 cd54 ct54), sl54⟩)
    (cc54 : PySem.W.codeIn K cd54 "_law_atom" = true)
    (k54 : PySem.W.keepIn K (.ref f54) = true)
    (a55 : PySem.W.nsIn K mainGlobals "_law_fold" = some (some (.ref f55)))
    (l55 : K.lookup f55 = some ⟨oc55, od55, .func (PySem.W.fnOf "_law_fold" "_law_fold" (defArgs s_law_fold) (defBody s_law_fold) (defScope s_law_fold) .none kV55 dc55 pm55 an55 cd55 ct55), sl55⟩)
    (cc55 : PySem.W.codeIn K cd55 "_law_fold" = true)
    (k55 : PySem.W.keepIn K (.ref f55) = true)
    (a56 : PySem.W.nsIn K mainGlobals "_law_members" = some (some (.ref f56)))
    (l56 : K.lookup f56 = some ⟨oc56, od56, .func (PySem.W.fnOf "_law_members" "_law_members" (defArgs s_law_members) (defBody s_law_members) (defScope s_law_members) .none kV56 dc56 pm56 an56 cd56 ct56), sl56⟩)
    (cc56 : PySem.W.codeIn K cd56 "_law_members" = true)
    (k56 : PySem.W.keepIn K (.ref f56) = true)
    (a57 : PySem.W.nsIn K mainGlobals "_law_young" = some (some (.ref f57)))
    (l57 : K.lookup f57 = some ⟨oc57, od57, .func (PySem.W.fnOf "_law_young" "_law_young" (defArgs s_law_young) (defBody s_law_young) (defScope s_law_young) .none kV57 dc57 pm57 an57 cd57 ct57), sl57⟩)
    (cc57 : PySem.W.codeIn K cd57 "_law_young" = true)
    (k57 : PySem.W.keepIn K (.ref f57) = true)
    (a58 : PySem.W.nsIn K mainGlobals "_law_seated" = some (some (.ref f58)))
    (l58 : K.lookup f58 = some ⟨oc58, od58, .func (PySem.W.fnOf "_law_seated" "_law_seated" (defArgs s_law_seated) (defBody s_law_seated) (defScope s_law_seated) .none kV58 dc58 pm58 an58 cd58 ct58), sl58⟩)
    (cc58 : PySem.W.codeIn K cd58 "_law_seated" = true)
    (k58 : PySem.W.keepIn K (.ref f58) = true)
    (a59 : PySem.W.nsIn K mainGlobals "_law_class" = some (some (.ref f59)))
    (l59 : K.lookup f59 = some ⟨oc59, od59, .func (PySem.W.fnOf "_law_class" "_law_class" (defArgs s_law_class) (defBody s_law_class) (defScope s_law_class) .none kV59 dc59 pm59 an59 cd59 ct59), sl59⟩)
    (cc59 : PySem.W.codeIn K cd59 "_law_class" = true)
    (k59 : PySem.W.keepIn K (.ref f59) = true)
    (a60 : PySem.W.nsIn K mainGlobals "_law_whole" = some (some (.ref f60)))
    (l60 : K.lookup f60 = some ⟨oc60, od60, .func (PySem.W.fnOf "_law_whole" "_law_whole" (defArgs s_law_whole) (defBody s_law_whole) (defScope s_law_whole) .none kV60 dc60 pm60 an60 cd60 ct60), sl60⟩)
    (cc60 : PySem.W.codeIn K cd60 "_law_whole" = true)
    (k60 : PySem.W.keepIn K (.ref f60) = true)
    (a61 : PySem.W.nsIn K mainGlobals "_law_out" = some (some (.ref f61)))
    (l61 : K.lookup f61 = some ⟨oc61, od61, .func (PySem.W.fnOf "_law_out" "_law_out" (defArgs s_law_out) (defBody s_law_out) (defScope s_law_out) .none kV61 dc61 pm61 an61 cd61 ct61), sl61⟩)
    (cc61 : PySem.W.codeIn K cd61 "_law_out" = true)
    (k61 : PySem.W.keepIn K (.ref f61) = true)
    (a62 : PySem.W.nsIn K mainGlobals "_law_holder" = some (some (.ref f62)))
    (l62 : K.lookup f62 = some ⟨oc62, od62, .func (PySem.W.fnOf "_law_holder" "_law_holder" (defArgs s_law_holder) (defBody s_law_holder) (defScope s_law_holder) .none kV62 dc62 pm62 an62 cd62 ct62), sl62⟩)
    (cc62 : PySem.W.codeIn K cd62 "_law_holder" = true)
    (k62 : PySem.W.keepIn K (.ref f62) = true)
    (a63 : PySem.W.nsIn K mainGlobals "_law_first_end" = some (some (.ref f63)))
    (l63 : K.lookup f63 = some ⟨oc63, od63, .func (PySem.W.fnOf "_law_first_end" "_law_first_end" (defArgs s_law_first_end) (defBody s_law_first_end) (defScope s_law_first_end) .none kV63 dc63 pm63 an63 cd63 ct63), sl63⟩)
    (cc63 : PySem.W.codeIn K cd63 "_law_first_end" = true)
    (k63 : PySem.W.keepIn K (.ref f63) = true)
    (a64 : PySem.W.nsIn K mainGlobals "_law_judged_row" = some (some (.ref f64)))
    (l64 : K.lookup f64 = some ⟨oc64, od64, .func (PySem.W.fnOf "_law_judged_row" "_law_judged_row" (defArgs s_law_judged_row) (defBody s_law_judged_row) (defScope s_law_judged_row) .none kV64 dc64 pm64 an64 cd64 ct64), sl64⟩)
    (cc64 : PySem.W.codeIn K cd64 "_law_judged_row" = true)
    (k64 : PySem.W.keepIn K (.ref f64) = true)
    (a65 : PySem.W.nsIn K mainGlobals "law" = some (some (.ref f65)))
    (l65 : K.lookup f65 = some ⟨oc65, od65, .func (PySem.W.fnOf "law" "law" (defArgs s_law) (defBody s_law) (defScope s_law) .none kV65 dc65 pm65 an65 cd65 ct65), sl65⟩)
    (cc65 : PySem.W.codeIn K cd65 "law" = true)
    (k65 : PySem.W.keepIn K (.ref f65) = true)
    (mk_Lives : PySem.W.makesIn K c_Lives = true)
    (kc_Lives : PySem.W.keepIn K (.ref c_Lives) = true)
    (mk_World : PySem.W.makesIn K c_World = true)
    (kc_World : PySem.W.keepIn K (.ref c_World) = true)
    : ∃ (g : Ga) (fd : FuncData), (∀ (s : Shared) (v : Value), BindsTo s fd ⟨[v], []⟩ [("_law_script", v)]) ∧ ∀ base : Heap, K.In base → base.Ns mainGlobals mg → FnOk l.prog w K mg base CX0 9 fa fd ["_law_script"] (sp_law K g) := by
  have e := hfa.symm.trans (PySem.W.mg_of X G a65)
  cases e
  have T : Txt K ({ LandError := c_LandError, NoText := c_NoText, OutOfBound := c_OutOfBound, Taken := c_Taken, NoPerson := c_NoPerson, Gone := c_Gone, TooDeep := c_TooDeep, Lives := c_Lives, World := c_World, MET := t_MET, FAILED := t_FAILED, HANGS := t_HANGS, LONGEST_WORD := t_LONGEST_WORD, LONGEST_NUMBER := t_LONGEST_NUMBER, MOST_NUMBERS := t_MOST_NUMBERS, BARRED := c_BARRED, LAST_FIRST_YEAR := t_LAST_FIRST_YEAR, MOST_YEARS := t_MOST_YEARS, OLDEST := t_OLDEST } : Ga) mg := ⟨PySem.W.mg_none_of X G zz_isinstance, PySem.W.mg_none_of X G zz_int, PySem.W.mg_none_of X G zz_bool, PySem.W.mg_none_of X G zz_len, PySem.W.mg_none_of X G zz_range, PySem.W.mg_none_of X G zz_list, PySem.W.mg_none_of X G zz_str, PySem.W.mg_none_of X G zz_min, PySem.W.mg_none_of X G zz_max, PySem.W.mg_none_of X G zz_ValueError, PySem.W.mg_of X G am_LandError, PySem.W.mg_of X G am_NoText, PySem.W.mg_of X G am_OutOfBound, PySem.W.mg_of X G am_Taken, PySem.W.mg_of X G am_NoPerson, PySem.W.mg_of X G am_Gone, PySem.W.mg_of X G am_TooDeep, ⟨xx_Gone, xga_Gone, xhk_Gone, xca_Gone, xmo_Gone, xsb_Gone⟩, ⟨xx_NoPerson, xga_NoPerson, xhk_NoPerson, xca_NoPerson, xmo_NoPerson, xsb_NoPerson⟩, ⟨xx_NoText, xga_NoText, xhk_NoText, xca_NoText, xmo_NoText, xsb_NoText⟩, ⟨xx_OutOfBound, xga_OutOfBound, xhk_OutOfBound, xca_OutOfBound, xmo_OutOfBound, xsb_OutOfBound⟩, ⟨xx_Taken, xga_Taken, xhk_Taken, xca_Taken, xmo_Taken, xsb_Taken⟩, ⟨xx_TooDeep, xga_TooDeep, xhk_TooDeep, xca_TooDeep, xmo_TooDeep, xsb_TooDeep⟩, PySem.W.mg_of X G am_Lives, ⟨pg_Lives, hd_Lives, po_Lives, sa_Lives⟩, na_Lives_births, na_Lives_deaths, na_Lives_broods, PySem.W.mg_of X G am_World, ⟨pg_World, hd_World, po_World, sa_World⟩, na_World_year, na_World_lives, na_World_happened, PySem.W.mg_of X G am_MET, PySem.W.mg_of X G am_FAILED, PySem.W.mg_of X G am_HANGS, PySem.W.mg_of X G am_LONGEST_WORD, PySem.W.mg_of X G am_LONGEST_NUMBER, PySem.W.mg_of X G am_MOST_NUMBERS, PySem.W.mg_of X G am_BARRED, fun _ => .inr ⟨_, _, _, lk_BARRED, rfl, rfl, by show 2 ≤ sizeLine; decide, .cons ⟨_, rfl⟩ (.cons ⟨_, rfl⟩ (.nil))⟩, PySem.W.mg_of X G am_LAST_FIRST_YEAR, PySem.W.mg_of X G am_MOST_YEARS, PySem.W.mg_of X G am_OLDEST⟩
  have F0 := fun_mk (st := s_Lives_known) l0 cc0 k0
  have b0 := F0.binds (ps := ["self", "name"]) fun _ _ _ _ _ _ us hl => by obtain ⟨_, _, rfl⟩ := L2.us2 us hl; rfl
  have F1 := fun_mk (st := s_Lives_want_known) l1 cc1 k1
  have b1 := F1.binds (ps := ["self", "name"]) fun _ _ _ _ _ _ us hl => by obtain ⟨_, _, rfl⟩ := L2.us2 us hl; rfl
  have F2 := fun_mk (st := s_Lives_age_in) l2 cc2 k2
  have b2 := F2.binds (ps := ["self", "name", "year"]) fun _ _ _ _ _ _ us hl => by obtain ⟨_, _, _, rfl⟩ := L2.us3 us hl; rfl
  have F3 := fun_mk (st := s_World_age) l3 cc3 k3
  have b3 := F3.binds (ps := ["self", "name"]) fun _ _ _ _ _ _ us hl => by obtain ⟨_, _, rfl⟩ := L2.us2 us hl; rfl
  have F4 := fun_mk (st := s_Lives_alive) l4 cc4 k4
  have b4 := F4.binds (ps := ["self", "name"]) fun _ _ _ _ _ _ us hl => by obtain ⟨_, _, rfl⟩ := L2.us2 us hl; rfl
  have F5 := fun_mk (st := s_age_stand) l5 cc5 k5
  have b5 := F5.binds (ps := ["world", "name", "age"]) fun _ _ _ _ _ _ us hl => by obtain ⟨_, _, _, rfl⟩ := L2.us3 us hl; rfl
  have F6 := fun_mk (st := s_Lives_children) l6 cc6 k6
  have b6 := F6.binds (ps := ["self", "name"]) fun _ _ _ _ _ _ us hl => by obtain ⟨_, _, rfl⟩ := L2.us2 us hl; rfl
  have F7 := fun_mk (st := s_brood) l7 cc7 k7
  have b7 := F7.binds (ps := ["world", "name"]) fun _ _ _ _ _ _ us hl => by obtain ⟨_, _, rfl⟩ := L2.us2 us hl; rfl
  have F8 := fun_mk (st := s_left_out) l8 cc8 k8
  have b8 := F8.binds (ps := ["world", "name"]) fun _ _ _ _ _ _ us hl => by obtain ⟨_, _, rfl⟩ := L2.us2 us hl; rfl
  have F9 := fun_mk (st := s_members) l9 cc9 k9
  have b9 := F9.binds (ps := ["world", "name", "out"]) fun _ _ _ _ _ _ us hl => by obtain ⟨_, _, _, rfl⟩ := L2.us3 us hl; rfl
  have F10 := fun_mk (st := s_has_seat) l10 cc10 k10
  have b10 := F10.binds (ps := ["world", "name", "age", "out"]) fun _ _ _ _ _ _ us hl => by obtain ⟨_, _, _, _, rfl⟩ := L2.us4 us hl; rfl
  have F11 := fun_mk (st := s_waiting) l11 cc11 k11
  have b11 := F11.binds (ps := ["world", "name", "age", "out"]) fun _ _ _ _ _ _ us hl => by obtain ⟨_, _, _, _, rfl⟩ := L2.us4 us hl; rfl
  have F12 := fun_mk (st := s_within) l12 cc12 k12
  have b12 := F12.binds (ps := ["text", "low", "high"]) fun _ _ _ _ _ _ us hl => by obtain ⟨_, _, _, rfl⟩ := L2.us3 us hl; rfl
  have F13 := fun_mk (st := s_good_word) l13 cc13 k13
  have b13 := F13.binds (ps := ["word"]) fun _ _ _ _ _ _ us hl => by obtain ⟨_, rfl⟩ := L2.us1 us hl; rfl
  have F14 := fun_mk (st := s_good_number) l14 cc14 k14
  have b14 := F14.binds (ps := ["text"]) fun _ _ _ _ _ _ us hl => by obtain ⟨_, rfl⟩ := L2.us1 us hl; rfl
  have F15 := fun_mk (st := s_parts) l15 cc15 k15
  have b15 := F15.binds (ps := ["name"]) fun _ _ _ _ _ _ us hl => by obtain ⟨_, rfl⟩ := L2.us1 us hl; rfl
  have F16 := fun_mk (st := s_shortened) l16 cc16 k16
  have b16 := F16.binds (ps := ["name"]) fun _ _ _ _ _ _ us hl => by obtain ⟨_, rfl⟩ := L2.us1 us hl; rfl
  have F17 := fun_mk (st := s_Lives_nearest) l17 cc17 k17
  have b17 := F17.binds (ps := ["self", "name"]) fun _ _ _ _ _ _ us hl => by obtain ⟨_, _, rfl⟩ := L2.us2 us hl; rfl
  have F18 := fun_mk (st := s_may_grow) l18 cc18 k18
  have b18 := F18.binds (ps := ["world", "name"]) fun _ _ _ _ _ _ us hl => by obtain ⟨_, _, rfl⟩ := L2.us2 us hl; rfl
  have F19 := fun_mk (st := s_want_word) l19 cc19 k19
  have b19 := F19.binds (ps := ["word"]) fun _ _ _ _ _ _ us hl => by obtain ⟨_, rfl⟩ := L2.us1 us hl; rfl
  have F20 := fun_mk (st := s_Lives___init__) l20 cc20 k20
  have b20 := F20.binds (ps := ["self"]) fun _ _ _ _ _ _ us hl => by obtain ⟨_, rfl⟩ := L2.us1 us hl; rfl
  have F21 := fun_mk (st := s_Lives_enter) l21 cc21 k21
  have b21 := F21.binds (ps := ["self", "name", "year"]) fun _ _ _ _ _ _ us hl => by obtain ⟨_, _, _, rfl⟩ := L2.us3 us hl; rfl
  have F22 := fun_mk (st := s_Lives_want_alive) l22 cc22 k22
  have b22 := F22.binds (ps := ["self", "name"]) fun _ _ _ _ _ _ us hl => by obtain ⟨_, _, rfl⟩ := L2.us2 us hl; rfl
  have F23 := fun_mk (st := s_Lives_arrive) l23 cc23 k23
  have b23 := F23.binds (ps := ["self", "word", "born"]) fun _ _ _ _ _ _ us hl => by obtain ⟨_, _, _, rfl⟩ := L2.us3 us hl; rfl
  have F24 := fun_mk (st := s_Lives_birth) l24 cc24 k24
  have b24 := F24.binds (ps := ["self", "name", "year"]) fun _ _ _ _ _ _ us hl => by obtain ⟨_, _, _, rfl⟩ := L2.us3 us hl; rfl
  have F25 := fun_mk (st := s_Lives_death) l25 cc25 k25
  have b25 := F25.binds (ps := ["self", "name", "year"]) fun _ _ _ _ _ _ us hl => by obtain ⟨_, _, _, rfl⟩ := L2.us3 us hl; rfl
  have F26 := fun_mk (st := s_Lives_born_in) l26 cc26 k26
  have b26 := F26.binds (ps := ["self", "name"]) fun _ _ _ _ _ _ us hl => by obtain ⟨_, _, rfl⟩ := L2.us2 us hl; rfl
  have F27 := fun_mk (st := s_Lives_names) l27 cc27 k27
  have b27 := F27.binds (ps := ["self"]) fun _ _ _ _ _ _ us hl => by obtain ⟨_, rfl⟩ := L2.us1 us hl; rfl
  have F28 := fun_mk (st := s_is_class) l28 cc28 k28
  have b28 := F28.binds (ps := ["holder"]) fun _ _ _ _ _ _ us hl => by obtain ⟨_, rfl⟩ := L2.us1 us hl; rfl
  have F29 := fun_mk (st := s_want_between) l29 cc29 k29
  have b29 := F29.binds (ps := ["number", "low", "high"]) fun _ _ _ _ _ _ us hl => by obtain ⟨_, _, _, rfl⟩ := L2.us3 us hl; rfl
  have F30 := fun_mk (st := s_World___init__) l30 cc30 k30
  have b30 := F30.binds (ps := ["self", "year"]) fun _ _ _ _ _ _ us hl => by obtain ⟨_, _, rfl⟩ := L2.us2 us hl; rfl
  have F31 := fun_mk (st := s_World_pass_years) l31 cc31 k31
  have b31 := F31.binds (ps := ["self", "many"]) fun _ _ _ _ _ _ us hl => by obtain ⟨_, _, rfl⟩ := L2.us2 us hl; rfl
  have F32 := fun_mk (st := s_World_arrive) l32 cc32 k32
  have b32 := F32.binds (ps := ["self", "word", "age"]) fun _ _ _ _ _ _ us hl => by obtain ⟨_, _, _, rfl⟩ := L2.us3 us hl; rfl
  have F33 := fun_mk (st := s_World_birth) l33 cc33 k33
  have b33 := F33.binds (ps := ["self", "name"]) fun _ _ _ _ _ _ us hl => by obtain ⟨_, _, rfl⟩ := L2.us2 us hl; rfl
  have F34 := fun_mk (st := s_World_death) l34 cc34 k34
  have b34 := F34.binds (ps := ["self", "name"]) fun _ _ _ _ _ _ us hl => by obtain ⟨_, _, rfl⟩ := L2.us2 us hl; rfl
  have F35 := fun_mk (st := s_World_comes) l35 cc35 k35
  have b35 := F35.binds (ps := ["self", "word"]) fun _ _ _ _ _ _ us hl => by obtain ⟨_, _, rfl⟩ := L2.us2 us hl; rfl
  have F36 := fun_mk (st := s_class_end) l36 cc36 k36
  have b36 := F36.binds (ps := ["world", "name", "age"]) fun _ _ _ _ _ _ us hl => by obtain ⟨_, _, _, rfl⟩ := L2.us3 us hl; rfl
  have F37 := fun_mk (st := s_first_end) l37 cc37 k37
  have b37 := F37.binds (ps := ["world", "holder", "atoms"]) fun _ _ _ _ _ _ us hl => by obtain ⟨_, _, _, rfl⟩ := L2.us3 us hl; rfl
  have F38 := fun_mk (st := s_law_num) l38 cc38 k38
  have b38 := F38.binds (ps := ["_law_found"]) fun _ _ _ _ _ _ us hl => by obtain ⟨_, rfl⟩ := L2.us1 us hl; rfl
  have F39 := fun_mk (st := s_law_cell_at) l39 cc39 k39
  have b39 := F39.binds (ps := ["_law_script", "_law_k"]) fun _ _ _ _ _ _ us hl => by obtain ⟨_, _, rfl⟩ := L2.us2 us hl; rfl
  have F40 := fun_mk (st := s_law_rich) l40 cc40 k40
  have b40 := F40.binds (ps := ["_law_cell", "_law_place"]) fun _ _ _ _ _ _ us hl => by obtain ⟨_, _, rfl⟩ := L2.us2 us hl; rfl
  have F41 := fun_mk (st := s_law_word) l41 cc41 k41
  have b41 := F41.binds (ps := ["_law_n"]) fun _ _ _ _ _ _ us hl => by obtain ⟨_, rfl⟩ := L2.us1 us hl; rfl
  have F42 := fun_mk (st := s_law_model) l42 cc42 k42
  have b42 := F42.binds (ps := ["_law_year"]) fun _ _ _ _ _ _ us hl => by obtain ⟨_, rfl⟩ := L2.us1 us hl; rfl
  have F43 := fun_mk (st := s_law_kids) l43 cc43 k43
  have b43 := F43.binds (ps := ["_law_model_here", "_law_name"]) fun _ _ _ _ _ _ us hl => by obtain ⟨_, _, rfl⟩ := L2.us2 us hl; rfl
  have F44 := fun_mk (st := s_law_living) l44 cc44 k44
  have b44 := F44.binds (ps := ["_law_model_here"]) fun _ _ _ _ _ _ us hl => by obtain ⟨_, rfl⟩ := L2.us1 us hl; rfl
  have F45 := fun_mk (st := s_law_play) l45 cc45 k45
  have b45 := F45.binds (ps := ["_law_model_here", "_law_deed"]) fun _ _ _ _ _ _ us hl => by obtain ⟨_, _, rfl⟩ := L2.us2 us hl; rfl
  have F46 := fun_mk (st := s_law_next_deed) l46 cc46 k46
  have b46 := F46.binds (ps := ["_law_model_here", "_law_n", "_law_far"]) fun _ _ _ _ _ _ us hl => by obtain ⟨_, _, _, rfl⟩ := L2.us3 us hl; rfl
  have F47 := fun_mk (st := s_law_start) l47 cc47 k47
  have b47 := F47.binds (ps := ["_law_n"]) fun _ _ _ _ _ _ us hl => by obtain ⟨_, rfl⟩ := L2.us1 us hl; rfl
  have F48 := fun_mk (st := s_law_do) l48 cc48 k48
  have b48 := F48.binds (ps := ["_law_world", "_law_deed"]) fun _ _ _ _ _ _ us hl => by obtain ⟨_, _, rfl⟩ := L2.us2 us hl; rfl
  have F49 := fun_mk (st := s_law_path) l49 cc49 k49
  have b49 := F49.binds (ps := ["_law_model_here", "_law_n"]) fun _ _ _ _ _ _ us hl => by obtain ⟨_, _, rfl⟩ := L2.us2 us hl; rfl
  have F50 := fun_mk (st := s_law_need) l50 cc50 k50
  have b50 := F50.binds (ps := ["_law_model_here", "_law_n"]) fun _ _ _ _ _ _ us hl => by obtain ⟨_, _, rfl⟩ := L2.us2 us hl; rfl
  have F51 := fun_mk (st := s_law_needs) l51 cc51 k51
  have b51 := F51.binds (ps := ["_law_model_here", "_law_n", "_law_most"]) fun _ _ _ _ _ _ us hl => by obtain ⟨_, _, _, rfl⟩ := L2.us3 us hl; rfl
  have F52 := fun_mk (st := s_law_near) l52 cc52 k52
  have b52 := F52.binds (ps := ["_law_model_here", "_law_name"]) fun _ _ _ _ _ _ us hl => by obtain ⟨_, _, rfl⟩ := L2.us2 us hl; rfl
  have F53 := fun_mk (st := s_law_age) l53 cc53 k53
  have b53 := F53.binds (ps := ["_law_model_here", "_law_name"]) fun _ _ _ _ _ _ us hl => by obtain ⟨_, _, rfl⟩ := L2.us2 us hl; rfl
  have F54 := fun_mk (st := s_law_atom) l54 cc54 k54
  have b54 := F54.binds (ps := ["_law_model_here", "_law_atom_here"]) fun _ _ _ _ _ _ us hl => by obtain ⟨_, _, rfl⟩ := L2.us2 us hl; rfl
  have F55 := fun_mk (st := s_law_fold) l55 cc55 k55
  have b55 := F55.binds (ps := ["_law_stands"]) fun _ _ _ _ _ _ us hl => by obtain ⟨_, rfl⟩ := L2.us1 us hl; rfl
  have F56 := fun_mk (st := s_law_members) l56 cc56 k56
  have b56 := F56.binds (ps := ["_law_model_here", "_law_name", "_law_out_here"]) fun _ _ _ _ _ _ us hl => by obtain ⟨_, _, _, rfl⟩ := L2.us3 us hl; rfl
  have F57 := fun_mk (st := s_law_young) l57 cc57 k57
  have b57 := F57.binds (ps := ["_law_model_here", "_law_name", "_law_age_here", "_law_out_here"]) fun _ _ _ _ _ _ us hl => by obtain ⟨_, _, _, _, rfl⟩ := L2.us4 us hl; rfl
  have F58 := fun_mk (st := s_law_seated) l58 cc58 k58
  have b58 := F58.binds (ps := ["_law_model_here", "_law_name", "_law_age_here", "_law_out_here"]) fun _ _ _ _ _ _ us hl => by obtain ⟨_, _, _, _, rfl⟩ := L2.us4 us hl; rfl
  have F59 := fun_mk (st := s_law_class) l59 cc59 k59
  have b59 := F59.binds (ps := ["_law_model_here", "_law_name", "_law_age_here", "_law_out_here"]) fun _ _ _ _ _ _ us hl => by obtain ⟨_, _, _, _, rfl⟩ := L2.us4 us hl; rfl
  have F60 := fun_mk (st := s_law_whole) l60 cc60 k60
  have b60 := F60.binds (ps := ["_law_model_here", "_law_holder_here", "_law_atoms", "_law_out_here"]) fun _ _ _ _ _ _ us hl => by obtain ⟨_, _, _, _, rfl⟩ := L2.us4 us hl; rfl
  have F61 := fun_mk (st := s_law_out) l61 cc61 k61
  have b61 := F61.binds (ps := ["_law_model_here", "_law_holder_here"]) fun _ _ _ _ _ _ us hl => by obtain ⟨_, _, rfl⟩ := L2.us2 us hl; rfl
  have F62 := fun_mk (st := s_law_holder) l62 cc62 k62
  have b62 := F62.binds (ps := ["_law_model_here", "_law_n"]) fun _ _ _ _ _ _ us hl => by obtain ⟨_, _, rfl⟩ := L2.us2 us hl; rfl
  have F63 := fun_mk (st := s_law_first_end) l63 cc63 k63
  have b63 := F63.binds (ps := ["_law_model_here", "_law_holder_here", "_law_atoms", "_law_out_here"]) fun _ _ _ _ _ _ us hl => by obtain ⟨_, _, _, _, rfl⟩ := L2.us4 us hl; rfl
  have F64 := fun_mk (st := s_law_judged_row) l64 cc64 k64
  have b64 := F64.binds (ps := ["_law_model_here", "_law_n"]) fun _ _ _ _ _ _ us hl => by obtain ⟨_, _, rfl⟩ := L2.us2 us hl; rfl
  have F65 := fun_mk (st := s_law) l65 cc65 k65
  refine ⟨{ LandError := c_LandError, NoText := c_NoText, OutOfBound := c_OutOfBound, Taken := c_Taken, NoPerson := c_NoPerson, Gone := c_Gone, TooDeep := c_TooDeep, Lives := c_Lives, World := c_World, MET := t_MET, FAILED := t_FAILED, HANGS := t_HANGS, LONGEST_WORD := t_LONGEST_WORD, LONGEST_NUMBER := t_LONGEST_NUMBER, MOST_NUMBERS := t_MOST_NUMBERS, BARRED := c_BARRED, LAST_FIRST_YEAR := t_LAST_FIRST_YEAR, MOST_YEARS := t_MOST_YEARS, OLDEST := t_OLDEST }, PySem.W.fnOf "law" "law" (defArgs s_law) (defBody s_law) (defScope s_law) .none kV65 dc65 pm65 an65 cd65 ct65, fun s v => .of_eq rfl, fun base _ _ => ?_⟩
  generalize hg : ({ LandError := c_LandError, NoText := c_NoText, OutOfBound := c_OutOfBound, Taken := c_Taken, NoPerson := c_NoPerson, Gone := c_Gone, TooDeep := c_TooDeep, Lives := c_Lives, World := c_World, MET := t_MET, FAILED := t_FAILED, HANGS := t_HANGS, LONGEST_WORD := t_LONGEST_WORD, LONGEST_NUMBER := t_LONGEST_NUMBER, MOST_NUMBERS := t_MOST_NUMBERS, BARRED := c_BARRED, LAST_FIRST_YEAR := t_LAST_FIRST_YEAR, MOST_YEARS := t_MOST_YEARS, OLDEST := t_OLDEST } : Ga) = g at T
  have D_Lives_known : Dm l.prog w K mg base CX0 g.Lives 1 "known" ["self", "name"] (sp_Lives_known K g) := ⟨T.cl_Lives, _, _, ok_Lives_known F0 T , by rw [← hg]; exact ⟨a0, i0, k0⟩, b0⟩
  have D_Lives_want_known : Dm l.prog w K mg base (CXR l.prog w base) g.Lives 2 "want_known" ["self", "name"] (sp_Lives_want_known K g) := ⟨T.cl_Lives, _, _, ok_Lives_want_known F1 T D_Lives_known, by rw [← hg]; exact ⟨a1, i1, k1⟩, b1⟩
  have D_Lives_age_in : Dm l.prog w K mg base (CXR l.prog w base) g.Lives 3 "age_in" ["self", "name", "year"] (sp_Lives_age_in K g) := ⟨T.cl_Lives, _, _, ok_Lives_age_in F2 T D_Lives_want_known, by rw [← hg]; exact ⟨a2, i2, k2⟩, b2⟩
  have D_World_age : Dm l.prog w K mg base (CXR l.prog w base) g.World 4 "age" ["self", "name"] (sp_World_age K g) := ⟨T.cl_World, _, _, ok_World_age F3 T D_Lives_age_in, by rw [← hg]; exact ⟨a3, i3, k3⟩, b3⟩
  have D_Lives_alive : Dm l.prog w K mg base CX0 g.Lives 1 "alive" ["self", "name"] (sp_Lives_alive K g) := ⟨T.cl_Lives, _, _, ok_Lives_alive F4 T , by rw [← hg]; exact ⟨a4, i4, k4⟩, b4⟩
  have D_age_stand : Dn l.prog w K mg base 5 "age_stand" ["world", "name", "age"] (sp_age_stand K g) := ⟨_, _, ok_age_stand F5 T D_World_age D_Lives_alive, PySem.W.mg_of X G a5, k5, b5⟩
  have D_Lives_children : Dm l.prog w K mg base (CXR l.prog w base) g.Lives 3 "children" ["self", "name"] (sp_Lives_children K g) := ⟨T.cl_Lives, _, _, ok_Lives_children F6 T D_Lives_want_known, by rw [← hg]; exact ⟨a6, i6, k6⟩, b6⟩
  have D_brood : Dn l.prog w K mg base 4 "brood" ["world", "name"] (sp_brood K g) := ⟨_, _, ok_brood F7 T D_Lives_known D_Lives_children, PySem.W.mg_of X G a7, k7, b7⟩
  have D_left_out : Dn l.prog w K mg base 5 "left_out" ["world", "name"] (sp_left_out K g) := ⟨_, _, ok_left_out F8 T D_brood D_Lives_alive, PySem.W.mg_of X G a8, k8, b8⟩
  have D_members : Dn l.prog w K mg base 5 "members" ["world", "name", "out"] (sp_members K g) := ⟨_, _, ok_members F9 T D_brood, PySem.W.mg_of X G a9, k9, b9⟩
  have D_has_seat : Dn l.prog w K mg base 6 "has_seat" ["world", "name", "age", "out"] (sp_has_seat K g) := ⟨_, _, ok_has_seat F10 T D_members D_World_age, PySem.W.mg_of X G a10, k10, b10⟩
  have D_waiting : Dn l.prog w K mg base 6 "waiting" ["world", "name", "age", "out"] (sp_waiting K g) := ⟨_, _, ok_waiting F11 T D_members D_age_stand, PySem.W.mg_of X G a11, k11, b11⟩
  have D_within : Dn l.prog w K mg base 1 "within" ["text", "low", "high"] (sp_within K g) := ⟨_, _, ok_within F12 T , PySem.W.mg_of X G a12, k12, b12⟩
  have D_good_word : Dn l.prog w K mg base 2 "good_word" ["word"] (sp_good_word K g) := ⟨_, _, ok_good_word F13 T D_within, PySem.W.mg_of X G a13, k13, b13⟩
  have D_good_number : Dn l.prog w K mg base 2 "good_number" ["text"] (sp_good_number K g) := ⟨_, _, ok_good_number F14 T D_within, PySem.W.mg_of X G a14, k14, b14⟩
  have D_parts : Dx l.prog w K mg base 3 "parts" ["name"] (sp_parts K g) := ⟨_, _, ok_parts F15 T D_good_word D_good_number, PySem.W.mg_of X G a15, k15, b15⟩
  have D_shortened : Dn l.prog w K mg base 1 "shortened" ["name"] (sp_shortened K g) := ⟨_, _, ok_shortened F16 T , PySem.W.mg_of X G a16, k16, b16⟩
  have D_Lives_nearest : Dm l.prog w K mg base (CXR l.prog w base) g.Lives 4 "nearest" ["self", "name"] (sp_Lives_nearest K g) := ⟨T.cl_Lives, _, _, ok_Lives_nearest F17 T D_parts D_shortened, by rw [← hg]; exact ⟨a17, i17, k17⟩, b17⟩
  have D_may_grow : Dn l.prog w K mg base 5 "may_grow" ["world", "name"] (sp_may_grow K g) := ⟨_, _, ok_may_grow F18 T D_Lives_alive D_Lives_nearest, PySem.W.mg_of X G a18, k18, b18⟩
  have D_want_word : Dx l.prog w K mg base 3 "want_word" ["word"] (sp_want_word K g) := ⟨_, _, ok_want_word F19 T D_good_word, PySem.W.mg_of X G a19, k19, b19⟩
  have K_Lives : Dk l.prog w K mg base CX0 g.Lives 1 "Lives" ["self"] (sp_Lives___init__ K g) := ⟨T.m_Lives, _, _, ok_Lives___init__ F20 T , by rw [← hg]; exact ⟨mk_Lives, a20, i20, kc_Lives⟩, b20⟩
  have D_Lives_enter : Dm l.prog w K mg base CX0 g.Lives 1 "enter" ["self", "name", "year"] (sp_Lives_enter K g) := ⟨T.cl_Lives, _, _, ok_Lives_enter F21 T , by rw [← hg]; exact ⟨a21, i21, k21⟩, b21⟩
  have D_Lives_want_alive : Dm l.prog w K mg base (CXR l.prog w base) g.Lives 3 "want_alive" ["self", "name"] (sp_Lives_want_alive K g) := ⟨T.cl_Lives, _, _, ok_Lives_want_alive F22 T D_Lives_want_known D_Lives_alive, by rw [← hg]; exact ⟨a22, i22, k22⟩, b22⟩
  have D_Lives_arrive : Dm l.prog w K mg base (CXR l.prog w base) g.Lives 4 "arrive" ["self", "word", "born"] (sp_Lives_arrive K g) := ⟨T.cl_Lives, _, _, ok_Lives_arrive F23 T D_want_word D_Lives_known D_Lives_enter, by rw [← hg]; exact ⟨a23, i23, k23⟩, b23⟩
  have D_Lives_birth : Dm l.prog w K mg base (CXR l.prog w base) g.Lives 4 "birth" ["self", "name", "year"] (sp_Lives_birth K g) := ⟨T.cl_Lives, _, _, ok_Lives_birth F24 T D_Lives_want_alive D_Lives_enter, by rw [← hg]; exact ⟨a24, i24, k24⟩, b24⟩
  have D_Lives_death : Dm l.prog w K mg base (CXR l.prog w base) g.Lives 4 "death" ["self", "name", "year"] (sp_Lives_death K g) := ⟨T.cl_Lives, _, _, ok_Lives_death F25 T D_Lives_want_alive, by rw [← hg]; exact ⟨a25, i25, k25⟩, b25⟩
  have D_Lives_born_in : Dm l.prog w K mg base (CXR l.prog w base) g.Lives 3 "born_in" ["self", "name"] (sp_Lives_born_in K g) := ⟨T.cl_Lives, _, _, ok_Lives_born_in F26 T D_Lives_want_known, by rw [← hg]; exact ⟨a26, i26, k26⟩, b26⟩
  have D_Lives_names : Dm l.prog w K mg base CX0 g.Lives 1 "names" ["self"] (sp_Lives_names K g) := ⟨T.cl_Lives, _, _, ok_Lives_names F27 T , by rw [← hg]; exact ⟨a27, i27, k27⟩, b27⟩
  have D_is_class : Dn l.prog w K mg base 1 "is_class" ["holder"] (sp_is_class K g) := ⟨_, _, ok_is_class F28 T , PySem.W.mg_of X G a28, k28, b28⟩
  have D_want_between : Dx l.prog w K mg base 1 "want_between" ["number", "low", "high"] (sp_want_between K g) := ⟨_, _, ok_want_between F29 T , PySem.W.mg_of X G a29, k29, b29⟩
  have K_World : Dk l.prog w K mg base (CXR l.prog w base) g.World 3 "World" ["self", "year"] (sp_World___init__ K g) := ⟨T.m_World, _, _, ok_World___init__ F30 T D_want_between K_Lives, by rw [← hg]; exact ⟨mk_World, a30, i30, kc_World⟩, b30⟩
  have D_World_pass_years : Dm l.prog w K mg base (CXR l.prog w base) g.World 2 "pass_years" ["self", "many"] (sp_World_pass_years K g) := ⟨T.cl_World, _, _, ok_World_pass_years F31 T D_want_between, by rw [← hg]; exact ⟨a31, i31, k31⟩, b31⟩
  have D_World_arrive : Dm l.prog w K mg base (CXR l.prog w base) g.World 5 "arrive" ["self", "word", "age"] (sp_World_arrive K g) := ⟨T.cl_World, _, _, ok_World_arrive F32 T D_want_between D_Lives_arrive, by rw [← hg]; exact ⟨a32, i32, k32⟩, b32⟩
  have D_World_birth : Dm l.prog w K mg base (CXR l.prog w base) g.World 5 "birth" ["self", "name"] (sp_World_birth K g) := ⟨T.cl_World, _, _, ok_World_birth F33 T D_Lives_birth, by rw [← hg]; exact ⟨a33, i33, k33⟩, b33⟩
  have D_World_death : Dm l.prog w K mg base (CXR l.prog w base) g.World 5 "death" ["self", "name"] (sp_World_death K g) := ⟨T.cl_World, _, _, ok_World_death F34 T D_Lives_death, by rw [← hg]; exact ⟨a34, i34, k34⟩, b34⟩
  have D_World_comes : Dm l.prog w K mg base (CXR l.prog w base) g.World 4 "comes" ["self", "word"] (sp_World_comes K g) := ⟨T.cl_World, _, _, ok_World_comes F35 T D_want_word, by rw [← hg]; exact ⟨a35, i35, k35⟩, b35⟩
  have D_class_end : Dn l.prog w K mg base 7 "class_end" ["world", "name", "age"] (sp_class_end K g) := ⟨_, _, ok_class_end F36 T D_left_out D_may_grow D_has_seat D_Lives_born_in D_waiting, PySem.W.mg_of X G a36, k36, b36⟩
  have D_first_end : Dn l.prog w K mg base 8 "first_end" ["world", "holder", "atoms"] (sp_first_end K g) := ⟨_, _, ok_first_end F37 T D_is_class D_Lives_born_in D_class_end D_Lives_alive, PySem.W.mg_of X G a37, k37, b37⟩
  have D_law_num : Dn l.prog w K mg base 1 "_law_num" ["_law_found"] (sp_law_num K g) := ⟨_, _, ok_law_num F38 T , PySem.W.mg_of X G a38, k38, b38⟩
  have D_law_cell_at : Dn l.prog w K mg base 1 "_law_cell_at" ["_law_script", "_law_k"] (sp_law_cell_at K g) := ⟨_, _, ok_law_cell_at F39 T , PySem.W.mg_of X G a39, k39, b39⟩
  have D_law_rich : Dn l.prog w K mg base 1 "_law_rich" ["_law_cell", "_law_place"] (sp_law_rich K g) := ⟨_, _, ok_law_rich F40 T , PySem.W.mg_of X G a40, k40, b40⟩
  have D_law_word : Dn l.prog w K mg base 1 "_law_word" ["_law_n"] (sp_law_word K g) := ⟨_, _, ok_law_word F41 T , PySem.W.mg_of X G a41, k41, b41⟩
  have D_law_model : Dn l.prog w K mg base 1 "_law_model" ["_law_year"] (sp_law_model K g) := ⟨_, _, ok_law_model F42 T , PySem.W.mg_of X G a42, k42, b42⟩
  have D_law_kids : Dn l.prog w K mg base 1 "_law_kids" ["_law_model_here", "_law_name"] (sp_law_kids K g) := ⟨_, _, ok_law_kids F43 T , PySem.W.mg_of X G a43, k43, b43⟩
  have D_law_living : Dn l.prog w K mg base 1 "_law_living" ["_law_model_here"] (sp_law_living K g) := ⟨_, _, ok_law_living F44 T , PySem.W.mg_of X G a44, k44, b44⟩
  have D_law_play : Dn l.prog w K mg base 2 "_law_play" ["_law_model_here", "_law_deed"] (sp_law_play K g) := ⟨_, _, ok_law_play F45 T D_law_kids, PySem.W.mg_of X G a45, k45, b45⟩
  have D_law_next_deed : Dn l.prog w K mg base 2 "_law_next_deed" ["_law_model_here", "_law_n", "_law_far"] (sp_law_next_deed K g) := ⟨_, _, ok_law_next_deed F46 T D_law_living D_law_word, PySem.W.mg_of X G a46, k46, b46⟩
  have D_law_start : Dn l.prog w K mg base 2 "_law_start" ["_law_n"] (sp_law_start K g) := ⟨_, _, ok_law_start F47 T D_law_word, PySem.W.mg_of X G a47, k47, b47⟩
  have D_law_do : Dn l.prog w K mg base 6 "_law_do" ["_law_world", "_law_deed"] (sp_law_do K g) := ⟨_, _, ok_law_do F48 T D_World_comes D_World_pass_years D_World_arrive D_World_birth D_World_death, PySem.W.mg_of X G a48, k48, b48⟩
  have D_law_path : Dn l.prog w K mg base 1 "_law_path" ["_law_model_here", "_law_n"] (sp_law_path K g) := ⟨_, _, ok_law_path F49 T , PySem.W.mg_of X G a49, k49, b49⟩
  have D_law_need : Dn l.prog w K mg base 2 "_law_need" ["_law_model_here", "_law_n"] (sp_law_need K g) := ⟨_, _, ok_law_need F50 T D_law_path D_law_word, PySem.W.mg_of X G a50, k50, b50⟩
  have D_law_needs : Dn l.prog w K mg base 3 "_law_needs" ["_law_model_here", "_law_n", "_law_most"] (sp_law_needs K g) := ⟨_, _, ok_law_needs F51 T D_law_need D_law_rich, PySem.W.mg_of X G a51, k51, b51⟩
  have D_law_near : Dn l.prog w K mg base 1 "_law_near" ["_law_model_here", "_law_name"] (sp_law_near K g) := ⟨_, _, ok_law_near F52 T , PySem.W.mg_of X G a52, k52, b52⟩
  have D_law_age : Dn l.prog w K mg base 1 "_law_age" ["_law_model_here", "_law_name"] (sp_law_age K g) := ⟨_, _, ok_law_age F53 T , PySem.W.mg_of X G a53, k53, b53⟩
  have D_law_atom : Dn l.prog w K mg base 2 "_law_atom" ["_law_model_here", "_law_atom_here"] (sp_law_atom K g) := ⟨_, _, ok_law_atom F54 T D_law_age D_law_near, PySem.W.mg_of X G a54, k54, b54⟩
  have D_law_fold : Dn l.prog w K mg base 1 "_law_fold" ["_law_stands"] (sp_law_fold K g) := ⟨_, _, ok_law_fold F55 T , PySem.W.mg_of X G a55, k55, b55⟩
  have D_law_members : Dn l.prog w K mg base 2 "_law_members" ["_law_model_here", "_law_name", "_law_out_here"] (sp_law_members K g) := ⟨_, _, ok_law_members F56 T D_law_kids, PySem.W.mg_of X G a56, k56, b56⟩
  have D_law_young : Dn l.prog w K mg base 3 "_law_young" ["_law_model_here", "_law_name", "_law_age_here", "_law_out_here"] (sp_law_young K g) := ⟨_, _, ok_law_young F57 T D_law_members D_law_age, PySem.W.mg_of X G a57, k57, b57⟩
  have D_law_seated : Dn l.prog w K mg base 3 "_law_seated" ["_law_model_here", "_law_name", "_law_age_here", "_law_out_here"] (sp_law_seated K g) := ⟨_, _, ok_law_seated F58 T D_law_members D_law_age, PySem.W.mg_of X G a58, k58, b58⟩
  have D_law_class : Dn l.prog w K mg base 4 "_law_class" ["_law_model_here", "_law_name", "_law_age_here", "_law_out_here"] (sp_law_class K g) := ⟨_, _, ok_law_class F59 T D_law_near D_law_young D_law_seated, PySem.W.mg_of X G a59, k59, b59⟩
  have D_law_whole : Dn l.prog w K mg base 5 "_law_whole" ["_law_model_here", "_law_holder_here", "_law_atoms", "_law_out_here"] (sp_law_whole K g) := ⟨_, _, ok_law_whole F60 T D_law_fold D_law_atom D_law_class, PySem.W.mg_of X G a60, k60, b60⟩
  have D_law_out : Dn l.prog w K mg base 2 "_law_out" ["_law_model_here", "_law_holder_here"] (sp_law_out K g) := ⟨_, _, ok_law_out F61 T D_law_kids, PySem.W.mg_of X G a61, k61, b61⟩
  have D_law_holder : Dn l.prog w K mg base 2 "_law_holder" ["_law_model_here", "_law_n"] (sp_law_holder K g) := ⟨_, _, ok_law_holder F62 T D_law_path D_law_near, PySem.W.mg_of X G a62, k62, b62⟩
  have D_law_first_end : Dn l.prog w K mg base 4 "_law_first_end" ["_law_model_here", "_law_holder_here", "_law_atoms", "_law_out_here"] (sp_law_first_end K g) := ⟨_, _, ok_law_first_end F63 T D_law_young D_law_seated, PySem.W.mg_of X G a63, k63, b63⟩
  have D_law_judged_row : Dn l.prog w K mg base 4 "_law_judged_row" ["_law_model_here", "_law_n"] (sp_law_judged_row K g) := ⟨_, _, ok_law_judged_row F64 T D_law_needs D_law_holder, PySem.W.mg_of X G a64, k64, b64⟩
  have z := ok_law (P := l.prog) (w0 := w) (base := base) F65 T D_law_rich D_law_model D_law_start D_law_cell_at D_law_do D_law_play D_law_judged_row D_law_out D_law_next_deed D_law_whole D_first_end D_law_num D_law_first_end K_World
  exact z
theorem walk {l : PySem.W.OpenLaw} {q : Program} {loose : List Str} {XP : (Str → Option Value) → Heap → Prop} {YP : World → Heap → Prop} {d : DefRec} {K : Params → PySem.W.Frag} (hn : l.most = some 63) (hdf : d.params.defaults = [])
    (hY : ∀ (w : World) (h : Heap), YP w h → (K w.params).In h)
    (F : ∀ (w : World) (mg : Str → Option Value) (fa : Addr) (h : Heap), (K w.params).In h → h.Ns mainGlobals mg → mg d.name = some (.ref fa) →
      ∃ (g : Ga) (fd : FuncData), (∀ (s : Shared) (u : Value), BindsTo s fd ⟨[u], []⟩ [("_law_script", u)]) ∧ ∀ base : Heap, (K w.params).In base → base.Ns mainGlobals mg → FnOk l.prog w (K w.params) mg base CX0 9 fa fd ["_law_script"] (sp_law (K w.params) g)) :
    PySem.W.WalkO q loose XP YP l.row.toRowW d [] (fun f vs => PySem.call f vs) :=
  L2.walk_of (n := 63) (k := 9) (x := "_law_script") (CX := fun _ => CX0) (sp := fun w => sp_law (K w.params) {}) hn (by decide) hdf ⟨rfl, by decide, by decide⟩ hY (fun w mg fa h a b c => (F w mg fa h a b c).elim fun _ z => z) (fun _ _ a ns hl _ hS => ⟨a, ns, rfl, hS, hl, fun _ => rfl⟩) fun _ _ _ _ _ z => z
end My
namespace PySem.W.Fast
theorem tw6508564969133365512 : True := trivial
theorem tw6559678641360912765 : True := trivial
theorem tw1567405630016300956 : True := trivial
theorem tw1515317200623054564 : True := trivial
theorem tw14772555145273669016 : True := trivial
theorem tw7167027156886866836 : True := trivial
theorem tw17440926541200717336 : True := trivial
theorem tw17241123524501894313 : True := trivial
theorem tw626004457604758691 : True := trivial
theorem tw17032075332435682594 : True := trivial
theorem tw11536179384320047777 : True := trivial
theorem tw16039754147336383701 : True := trivial
theorem tw9851559189526427712 : True := trivial
theorem tw928081510744786663 : True := trivial
theorem tw12148238205861386842 : True := trivial
theorem tw740638363904058693 : True := trivial
theorem tw6033825806819928721 : True := trivial
theorem tw880359688045174458 : True := trivial
theorem tw2697533857436529865 : True := trivial
theorem tw15495026498072915648 : True := trivial
theorem tw16494405700165529032 : True := trivial
theorem tw12437984228374907214 : True := trivial
theorem tw5887984335658142412 : True := trivial
theorem tw12954190999160235471 : True := trivial
theorem tw8151318716265476678 : True := trivial
theorem tw2081881740384291620 : True := trivial
theorem tw3415565891434671579 : True := trivial
theorem tw8779180726416202398 : True := trivial
theorem tw16494838056484392210 : True := trivial
theorem tw8524924690466646287 : True := trivial
theorem tw6445816065688962894 : True := trivial
theorem tw15044716236190963227 : True := trivial
theorem tw16094274190041905050 : True := trivial
theorem tw14191939506258433360 : True := trivial
theorem tw11433711524042145216 : True := trivial
theorem tw18091070937763603219 : True := trivial
theorem tw12281622601035345589 : True := trivial
theorem tw16319036694155386695 : True := trivial
theorem tw1961993088223538960 : True := trivial
theorem tw6193065313988678091 : True := trivial
theorem tw7335202981589253266 : True := trivial
theorem tw7126500006569521789 : True := trivial
theorem tw15457152751161193204 : True := trivial
theorem tw1918178452831106776 : True := trivial
theorem tw698621050680253468 : True := trivial
theorem tw11499338012164212326 : True := trivial
theorem tw11450789680721406435 : True := trivial
theorem tw13956623649872901277 : True := trivial
theorem tw9252923686732718013 : True := trivial
theorem tw282210303647261515 : True := trivial
theorem tw17676131927000561753 : True := trivial
theorem tw9021117684248423446 : True := trivial
theorem tw11150552096774720258 : True := trivial
theorem tw5155550352802842105 : True := trivial
theorem tw1825111120283648949 : True := trivial
theorem tw6843218137372948693 : True := trivial
theorem tw13672936551845322101 : True := trivial
theorem tw2980840067148992542 : True := trivial
theorem tw9274367874947061255 : True := trivial
theorem tw16264190197840824075 : True := trivial
end PySem.W.Fast
open PySem PySem.W PyProof.Rows
set_option maxRecDepth 100000 in
set_option maxHeartbeats 0 in
theorem PySem.Challenge.cw_deadhand_k21_earliest_end_holds : PySem.Challenge.rw_deadhand_k21_earliest_end.Holds := by
  w_on; o_law; z_head; (case hw => w_witness2)
  refine L2.walkX_of (by intro P; exact rfl) (My.walk (l := PySem.Challenge.rw_deadhand_k21_earliest_end) rfl rfl (fun w h Y => Y) ?F)
  case F =>
    intro w mg fa h KX G hmg
    refine' My.all_mk KX G hmg ?zz_isinstance ?zz_int ?zz_bool ?zz_len ?zz_range ?zz_list ?zz_str ?zz_min ?zz_max ?zz_ValueError ?am_LandError ?am_NoText ?am_OutOfBound ?am_Taken ?am_NoPerson ?am_Gone ?am_TooDeep ?xx_Gone ?xga_Gone ?xhk_Gone ?xca_Gone ?xmo_Gone ?xsb_Gone ?xx_NoPerson ?xga_NoPerson ?xhk_NoPerson ?xca_NoPerson ?xmo_NoPerson ?xsb_NoPerson ?xx_NoText ?xga_NoText ?xhk_NoText ?xca_NoText ?xmo_NoText ?xsb_NoText ?xx_OutOfBound ?xga_OutOfBound ?xhk_OutOfBound ?xca_OutOfBound ?xmo_OutOfBound ?xsb_OutOfBound ?xx_Taken ?xga_Taken ?xhk_Taken ?xca_Taken ?xmo_Taken ?xsb_Taken ?xx_TooDeep ?xga_TooDeep ?xhk_TooDeep ?xca_TooDeep ?xmo_TooDeep ?xsb_TooDeep ?am_Lives ?pg_Lives ?hd_Lives ?po_Lives ?sa_Lives ?na_Lives_births ?na_Lives_deaths ?na_Lives_broods ?am_World ?pg_World ?hd_World ?po_World ?sa_World ?na_World_year ?na_World_lives ?na_World_happened ?am_MET ?am_FAILED ?am_HANGS ?am_LONGEST_WORD ?am_LONGEST_NUMBER ?am_MOST_NUMBERS ?am_BARRED ?lk_BARRED ?am_LAST_FIRST_YEAR ?am_MOST_YEARS ?am_OLDEST ?a0 ?i0 ?l0 ?cc0 ?k0 ?a1 ?i1 ?l1 ?cc1 ?k1 ?a2 ?i2 ?l2 ?cc2 ?k2 ?a3 ?i3 ?l3 ?cc3 ?k3 ?a4 ?i4 ?l4 ?cc4 ?k4 ?a5 ?l5 ?cc5 ?k5 ?a6 ?i6 ?l6 ?cc6 ?k6 ?a7 ?l7 ?cc7 ?k7 ?a8 ?l8 ?cc8 ?k8 ?a9 ?l9 ?cc9 ?k9 ?a10 ?l10 ?cc10 ?k10 ?a11 ?l11 ?cc11 ?k11 ?a12 ?l12 ?cc12 ?k12 ?a13 ?l13 ?cc13 ?k13 ?a14 ?l14 ?cc14 ?k14 ?a15 ?l15 ?cc15 ?k15 ?a16 ?l16 ?cc16 ?k16 ?a17 ?i17 ?l17 ?cc17 ?k17 ?a18 ?l18 ?cc18 ?k18 ?a19 ?l19 ?cc19 ?k19 ?a20 ?i20 ?l20 ?cc20 ?k20 ?a21 ?i21 ?l21 ?cc21 ?k21 ?a22 ?i22 ?l22 ?cc22 ?k22 ?a23 ?i23 ?l23 ?cc23 ?k23 ?a24 ?i24 ?l24 ?cc24 ?k24 ?a25 ?i25 ?l25 ?cc25 ?k25 ?a26 ?i26 ?l26 ?cc26 ?k26 ?a27 ?i27 ?l27 ?cc27 ?k27 ?a28 ?l28 ?cc28 ?k28 ?a29 ?l29 ?cc29 ?k29 ?a30 ?i30 ?l30 ?cc30 ?k30 ?a31 ?i31 ?l31 ?cc31 ?k31 ?a32 ?i32 ?l32 ?cc32 ?k32 ?a33 ?i33 ?l33 ?cc33 ?k33 ?a34 ?i34 ?l34 ?cc34 ?k34 ?a35 ?i35 ?l35 ?cc35 ?k35 ?a36 ?l36 ?cc36 ?k36 ?a37 ?l37 ?cc37 ?k37 ?a38 ?l38 ?cc38 ?k38 ?a39 ?l39 ?cc39 ?k39 ?a40 ?l40 ?cc40 ?k40 ?a41 ?l41 ?cc41 ?k41 ?a42 ?l42 ?cc42 ?k42 ?a43 ?l43 ?cc43 ?k43 ?a44 ?l44 ?cc44 ?k44 ?a45 ?l45 ?cc45 ?k45 ?a46 ?l46 ?cc46 ?k46 ?a47 ?l47 ?cc47 ?k47 ?a48 ?l48 ?cc48 ?k48 ?a49 ?l49 ?cc49 ?k49 ?a50 ?l50 ?cc50 ?k50 ?a51 ?l51 ?cc51 ?k51 ?a52 ?l52 ?cc52 ?k52 ?a53 ?l53 ?cc53 ?k53 ?a54 ?l54 ?cc54 ?k54 ?a55 ?l55 ?cc55 ?k55 ?a56 ?l56 ?cc56 ?k56 ?a57 ?l57 ?cc57 ?k57 ?a58 ?l58 ?cc58 ?k58 ?a59 ?l59 ?cc59 ?k59 ?a60 ?l60 ?cc60 ?k60 ?a61 ?l61 ?cc61 ?k61 ?a62 ?l62 ?cc62 ?k62 ?a63 ?l63 ?cc63 ?k63 ?a64 ?l64 ?cc64 ?k64 ?a65 ?l65 ?cc65 ?k65 ?mk_Lives ?kc_Lives ?mk_World ?kc_World
    (case zz_isinstance => k_is)
    (case zz_int => k_is)
    (case zz_bool => k_is)
    (case zz_len => k_is)
    (case zz_range => k_is)
    (case zz_list => k_is)
    (case zz_str => k_is)
    (case zz_min => k_is)
    (case zz_max => k_is)
    (case zz_ValueError => k_is)
    (case am_LandError => k_is)
    (case am_NoText => k_is)
    (case am_OutOfBound => k_is)
    (case am_Taken => k_is)
    (case am_NoPerson => k_is)
    (case am_Gone => k_is)
    (case am_TooDeep => k_is)
    (case xx_Gone => k_exc)
    (case xga_Gone => k_is)
    (case xhk_Gone => k_is)
    (case xca_Gone => k_is)
    (case xmo_Gone => k_is)
    (case xsb_Gone => k_is)
    (case xx_NoPerson => k_exc)
    (case xga_NoPerson => k_is)
    (case xhk_NoPerson => k_is)
    (case xca_NoPerson => k_is)
    (case xmo_NoPerson => k_is)
    (case xsb_NoPerson => k_is)
    (case xx_NoText => k_exc)
    (case xga_NoText => k_is)
    (case xhk_NoText => k_is)
    (case xca_NoText => k_is)
    (case xmo_NoText => k_is)
    (case xsb_NoText => k_is)
    (case xx_OutOfBound => k_exc)
    (case xga_OutOfBound => k_is)
    (case xhk_OutOfBound => k_is)
    (case xca_OutOfBound => k_is)
    (case xmo_OutOfBound => k_is)
    (case xsb_OutOfBound => k_is)
    (case xx_Taken => k_exc)
    (case xga_Taken => k_is)
    (case xhk_Taken => k_is)
    (case xca_Taken => k_is)
    (case xmo_Taken => k_is)
    (case xsb_Taken => k_is)
    (case xx_TooDeep => k_exc)
    all_goals (try k_is)
